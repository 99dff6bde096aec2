"""The nearest row that keeps all rules.

A row is made of a given one from the first step to the last: keep the next step, leave it out, or put one in. Where
this stands is told by a place in the given row and by the spot that the row made so far leads to.
"""

from caserules.kinds import STEPS


class Making:
    """All rows that can be made of a given one, looked at from the least far, and of these from the shortest.

    A move makes a row farther or longer and neither ever less, so no row comes to wait where all have been taken.
    Where two rows stand at the same place and spot, the same moves lead on from both, and the one that is ahead (less
    far, else earlier) stays ahead: it alone is kept.
    """

    def __init__(self, spots, given):
        self.spots = spots
        self.given = given
        self.settled = {}
        self.waiting = {}
        self.put(0, (0, 0), ())

    def put(self, far, stand, made):
        front = self.waiting.setdefault((far, len(made)), {})
        if stand not in front or made < front[stand]:
            front[stand] = made

    def take(self, far, length):
        """The stands that rows so far and so long reach and no row ahead of them did, each with its earliest row."""
        front = self.waiting.pop((far, length), {})
        taken = {}
        for stand in front:
            if stand not in self.settled:
                self.settled[stand] = True
                taken[stand] = front[stand]
        return taken

    def is_end(self, stand):
        return stand[0] == len(self.given) and self.spots.broken[stand[1]] == []

    def go_further(self, far, stand, made):
        place = stand[0]
        further = self.spots.further[stand[1]]
        if place < len(self.given):
            kept = self.given[place]
            self.put(far, (place + 1, further[kept]), made + (kept,))
            self.put(far + 1, (place + 1, stand[1]), made)
        for step in range(STEPS):
            self.put(far + 1, (place, further[step]), made + (step,))

    def nearest_of_length(self, far, length):
        """The earliest row so far and so long that keeps all rules, or None; what can be made of such rows waits."""
        taken = self.take(far, length)
        ends = [taken[stand] for stand in taken if self.is_end(stand)]
        if len(ends) > 0:
            return min(ends)
        for stand in taken:
            self.go_further(far, stand, taken[stand])
        return None


def nearest_row(spots, given):
    """How far the nearest row is that keeps all rules, and it; or None if no row does."""
    making = Making(spots, given)
    far = 0
    while len(making.waiting) > 0:
        # A row that is so far has at most so many steps put in, so none is longer.
        for length in range(len(given) + far + 1):
            row = making.nearest_of_length(far, length)
            if row is not None:
                return (far, row)
        far += 1
    return None
