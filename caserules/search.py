"""What several rules say together of a row, and the earliest row that keeps all of them."""

from caserules.kinds import BROKEN, STEPS, state_after, verdict_in


def first_states(rules):
    return tuple([0 for rule in rules])


def states_after(rules, states, step):
    return tuple([state_after(rule, state, step) for rule, state in zip(rules, states)])


def verdicts_in(rules, states):
    return [verdict_in(rule, state) for rule, state in zip(rules, states)]


def verdicts_of(rules, row):
    """For each rule 0 (broken), 1 (kept) or 2 (idle)."""
    states = first_states(rules)
    for step in row:
        states = states_after(rules, states, step)
    return verdicts_in(rules, states)


def all_kept(verdicts):
    return BROKEN not in verdicts


def reach_further(rules, front, rows):
    """Put into rows the states that are one step behind those of front and new; give them back in order."""
    further = []
    for states in front:
        for step in range(STEPS):
            reached = states_after(rules, states, step)
            if reached not in rows:
                rows[reached] = rows[states] + (step,)
                further.append(reached)
    return further


def earliest_row(rules):
    """The earliest row that keeps all rules, or None if no row does.

    States are reached by shorter rows first, and of as long rows by those with lower steps first: so the row that
    reaches one first is the earliest that does, and a later one need not be followed.
    """
    front = [first_states(rules)]
    rows = {front[0]: ()}
    while len(front) > 0:
        for states in front:
            if all_kept(verdicts_in(rules, states)):
                return rows[states]
        front = reach_further(rules, front, rows)
    return None
