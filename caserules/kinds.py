"""The nine kinds of rules: their forms, and what each says of a row.

A rule reads a row step by step and keeps one small whole number, its state, which is 0 ahead of the first step.
So what it says of rows of any length hangs on a few states alone, and a search through all rows comes to an end.
"""

STEPS = 5
MOST_TIMES = 3

AT_LEAST = 0
AT_MOST = 1
FIRST = 2
LAST = 3
LATER = 4
AHEAD = 5
RIGHT_BEHIND = 6
NOT_BOTH = 7
BETWEEN = 8

BROKEN = 0
KEPT = 1

# For each kind but those that count: state by state 0 (broken), 1 (kept) or 2 (idle).
VERDICTS = {
    2: (0, 1, 0),
    3: (0, 1),
    4: (2, 0, 1),
    5: (2, 2, 1, 0),
    6: (2, 0, 1, 0),
    7: (1, 1, 1, 0),
    8: (2, 2, 2, 1, 1, 0),
}


def is_step(number):
    return number < STEPS


def is_form(row):
    """Whether a list of numbers is a rule: its kind, then just the numbers of that kind."""
    if len(row) < 2 or row[0] > BETWEEN or not is_step(row[1]):
        return False
    if row[0] == FIRST or row[0] == LAST:
        return len(row) == 2
    if len(row) != 3:
        return False
    if row[0] == AT_LEAST or row[0] == AT_MOST:
        return row[2] <= MOST_TIMES
    return is_step(row[2]) and row[1] != row[2]


def after_counted(state, step, a):
    """The state is how often a came; past the most that a rule can name, more makes no difference."""
    if step == a and state <= MOST_TIMES:
        return state + 1
    return state


def after_first(state, step, a):
    """0: no step came; 1: the first was a; 2: it was another."""
    if state != 0:
        return state
    return 1 if step == a else 2


def after_last(step, a):
    """0: no step came, or the last was another; 1: the last was a."""
    return 1 if step == a else 0


def after_later(state, step, a, b):
    """0: no a came; 1: an a has no b behind it; 2: each a has one."""
    if step == a:
        return 1
    if step == b and state == 1:
        return 2
    return state


def after_ahead(state, step, a, b):
    """0: neither came; 1: a came, no b; 2: b came, behind an a; 3: b came with no a ahead of it."""
    if step == a and state == 0:
        return 1
    if step == b and state == 0:
        return 3
    if step == b and state == 1:
        return 2
    return state


def after_right_behind(state, step, a, b):
    """0: no a came; 1: the last step was an a; 2: each a has its b; 3: behind an a came another step."""
    if state == 1:
        return 2 if step == b else 3
    if step == a and state != 3:
        return 1
    return state


def after_not_both(state, step, a, b):
    """0: neither came; 1: a came; 2: b came; 3: both came."""
    if step == a:
        return state | 1
    if step == b:
        return state | 2
    return state


def after_between(state, step, a, b):
    """0: no a came; 1: one a; 2: one a, then a b; 3: several a; 4: several a, then a b; 5: two a with no b between.

    One a and several are told apart because the rule is idle with one.
    """
    if step == b and (state == 1 or state == 3):
        return state + 1
    if step != a:
        return state
    if state == 0:
        return 1
    if state == 2 or state == 4:
        return 3
    return 5


def state_after(rule, state, step):
    """The state of a rule behind one more step."""
    kind = rule[0]
    a = rule[1]
    if kind == AT_LEAST or kind == AT_MOST:
        return after_counted(state, step, a)
    if kind == FIRST:
        return after_first(state, step, a)
    if kind == LAST:
        return after_last(step, a)
    b = rule[2]
    if kind == LATER:
        return after_later(state, step, a, b)
    if kind == AHEAD:
        return after_ahead(state, step, a, b)
    if kind == RIGHT_BEHIND:
        return after_right_behind(state, step, a, b)
    if kind == NOT_BOTH:
        return after_not_both(state, step, a, b)
    return after_between(state, step, a, b)


def verdict_in(rule, state):
    """What a rule says of a row that ends in this state: 0 (broken), 1 (kept) or 2 (idle)."""
    kind = rule[0]
    if kind == AT_LEAST:
        return KEPT if state >= rule[2] else BROKEN
    if kind == AT_MOST:
        return KEPT if state <= rule[2] else BROKEN
    return VERDICTS[kind][state]
