"""Pairs of upper and lower names, as many as can be, each name once above and once below."""


class Matching:
    """Pairs an upper name with a lower one; below tells which lower ones each upper may have."""

    def __init__(self, below):
        self.below = below
        self.lower_of = {}
        self.upper_of = {}
        for upper in below:
            self.widen_by(upper)

    def search(self, starts):
        """Goes from upper names to lower ones, and from these to those that they are paired with.

        Returns a dict from each lower name met to the upper one it was come from, and the
        first one met that is not paired, where the search ends, None if there is none.
        """
        came_from = {}
        waiting = list(starts)
        while waiting:
            upper = waiting.pop()
            for lower in self.below[upper]:
                if lower not in came_from:
                    came_from[lower] = upper
                    if lower not in self.upper_of:
                        return came_from, lower
                    waiting.append(self.upper_of[lower])
        return came_from, None

    def widen_by(self, start):
        """Pairs one more upper name, if the others can be paired anew so that one is left for it."""
        came_from, lower = self.search([start])
        while lower is not None:
            upper = came_from[lower]
            left = self.lower_of.get(upper)
            self.lower_of[upper] = lower
            self.upper_of[lower] = upper
            lower = left

    def uncovered(self):
        """Returns the list of names, as many as can be, of which none is below another one.

        This is Koenig's theorem: the names that are met from the unpaired upper ones above,
        and not below, are as many as all names less the pairs.
        """
        starts = [upper for upper in self.below if upper not in self.lower_of]
        met_below = self.search(starts)[0]
        met_above = starts + [self.upper_of[lower] for lower in met_below]
        return [name for name in met_above if name not in met_below]
