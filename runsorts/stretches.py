"""Stretches of runs that lie side by side, with a number for each, and what their parts come to."""


class Stretches:
    """The stretches from a run begin up to ahead of a run end, those of a single run being known."""

    def __init__(self, lengths, ways):
        self.lengths = list(lengths)
        self.ways = ways
        self.numbers = {}
        # By begin, end and how many parts there may be: (what the parts come to, where the first of them ends).
        self.parted = {}
        for at in range(len(lengths)):
            self.note(at, at + 1, 0)

    def inner_first(self):
        """Tell the stretches of two or more runs, each behind all that lie in it."""
        many = len(self.lengths)
        return [(begin, end) for begin in range(many - 2, -1, -1) for end in range(begin + 2, many + 1)]

    def noted(self, begin, end):
        """Tell the number that was noted of a stretch."""
        return self.numbers[(begin, end)]

    def note(self, begin, end, number):
        """Note the number of a stretch, those that lie in it being noted."""
        self.numbers[(begin, end)] = number
        for parts in range(1, self.ways):
            found = (number, end)
            if parts > 1 and end - begin > 1:
                found = min(found, self.least(begin, end, parts))
            self.parted[(begin, end, parts)] = found

    def least(self, begin, end, parts):
        """Tell the least that the parts of a stretch come to, two or up to so many, and where the first one ends."""
        return min([
            (self.numbers[(begin, cut)] + self.parted[(cut, end, parts - 1)][0], cut) for cut in range(begin + 1, end)
        ])

    def limit(self, begin, end):
        """Tell the most that the number of a stretch may be, however the stretch is cut."""
        return sum(self.lengths[begin:end]) + self.least(begin, end, self.ways)[0]

    def plan(self, begin, end):
        """Tell a plan of a stretch that moves as many rows as its number, that being the most that it may be."""
        if end - begin == 1:
            return begin
        cut = self.least(begin, end, self.ways)[1]
        plans, parts = [self.plan(begin, cut)], self.ways - 1
        while cut < end:
            first, cut = cut, self.parted[(cut, end, parts)][1]
            plans.append(self.plan(first, cut))
            parts -= 1
        return tuple(plans)
