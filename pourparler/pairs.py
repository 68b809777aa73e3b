"""A breadth first search through pairs of heads."""

from pourparler.talks import Heads


class Pairs:
    """The pairs of heads that a search has reached, in order, each with the step that led to it."""

    def __init__(self, table):
        self._heads = Heads(table)
        self._known = {}
        self._reached = []
        self._origins = []
        self._visited = 0

    def begin(self, one, two):
        """Adds the pair of the heads of two talks as one that a search begins with, unless it is known."""
        self.reach(one, two, None, None)

    def reach(self, one, two, origin, step):
        """Adds the pair of the heads of two talks, reached by a step from an earlier pair, unless it is known."""
        pair = (self._heads.number_of(one), self._heads.number_of(two))
        if pair not in self._known:
            self._known[pair] = True
            self._reached.append(pair)
            self._origins.append((origin, step))

    def heads_at(self, index):
        """Returns the two heads of a pair."""
        one, two = self._reached[index]
        return (self._heads.head_at(one), self._heads.head_at(two))

    def first_wrong(self, visit):
        """Visits the pairs that were not visited before, and those that are reached meanwhile.

        visit(at) returns the reason why a pair fails, or None, and reaches the pairs behind it. The answer is the
        pair of the steps to the first pair that fails and its reason, or None if no pair fails.
        """
        while self._visited < len(self._reached):
            reason = visit(self._visited)
            if reason is not None:
                return (self._steps_to(self._visited), reason)
            self._visited += 1
        return None

    def _steps_to(self, index):
        steps = []
        origin, step = self._origins[index]
        while origin is not None:
            steps.append(step)
            origin, step = self._origins[origin]
        return tuple(steps[::-1])
