"""What several rules say together of a row, and of all rows, however long."""

from caserules.kinds import BROKEN, STEPS, state_after, verdict_in


def first_states(rules):
    return tuple([0 for rule in rules])


def states_after(rules, states, step):
    return tuple([state_after(rule, state, step) for rule, state in zip(rules, states)])


def verdicts_in(rules, states):
    return [verdict_in(rule, state) for rule, state in zip(rules, states)]


def verdicts_of(rules, row):
    """For each rule 0 (broken), 1 (kept) or 2 (idle)."""
    states = first_states(rules)
    for step in row:
        states = states_after(rules, states, step)
    return verdicts_in(rules, states)


def broken_in(verdicts):
    """Which rules are broken, rising."""
    return [which for which, verdict in enumerate(verdicts) if verdict == BROKEN]


class Spots:
    """All that rows, however long, can lead the rules to.

    A spot is one state for each rule. Spots are numbered as they are found: rows holds for each the row that led to
    it first, broken the rules that this row breaks, and further, step by step, the spot that lies one step behind it.

    Spots are found by shorter rows first, and of as long rows by those with lower steps first: so the row that leads
    to one first is the earliest that does, a later one need not be followed, and rows are in order from the earliest.
    """

    def __init__(self, rules):
        self.rules = rules
        self.states = []
        self.numbers = {}
        self.rows = []
        self.broken = []
        self.further = []
        self.number_of(first_states(rules), ())
        while len(self.further) < len(self.states):
            self.go_further(len(self.further))

    def number_of(self, states, row):
        """The number of the spot with these states; a new one comes behind the others."""
        if states not in self.numbers:
            self.numbers[states] = len(self.states)
            self.states.append(states)
            self.rows.append(row)
            self.broken.append(broken_in(verdicts_in(self.rules, states)))
        return self.numbers[states]

    def go_further(self, spot):
        reached = []
        for step in range(STEPS):
            states = states_after(self.rules, self.states[spot], step)
            reached.append(self.number_of(states, self.rows[spot] + (step,)))
        self.further.append(reached)


def earliest_row(spots, wanted):
    """The earliest row that breaks just the wanted rules and keeps all others, or None if no row does."""
    for row, broken in zip(spots.rows, spots.broken):
        if broken == wanted:
            return row
    return None


def ways_further(spots, ways):
    """From how many rows lead to each spot, how many rows of one step more do."""
    longer = {}
    for spot in ways:
        for reached in spots.further[spot]:
            longer[reached] = longer.get(reached, 0) + ways[spot]
    return longer


def rows_that_keep_all(spots, many):
    """How many rows of so many steps keep all rules."""
    ways = {0: 1}
    for turn in range(many):
        ways = ways_further(spots, ways)
    return sum([ways[spot] for spot in ways if spots.broken[spot] == []])
