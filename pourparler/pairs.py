"""A breadth first search through pairs of heads."""

from pourparler.talks import Heads


class Pairs:
    """The pairs of heads that a search has reached, in order, each with the step that led to it."""

    def __init__(self, table, one, two):
        self._heads = Heads(table)
        self._known = {}
        self._reached = []
        self._origins = []
        self.reach(one, two, None, None)

    def reach(self, one, two, origin, step):
        """Adds the pair of the heads of two talks, reached by a step from an earlier pair, unless it is known."""
        pair = (self._heads.number_of(one), self._heads.number_of(two))
        if pair not in self._known:
            self._known[pair] = True
            self._reached.append(pair)
            self._origins.append((origin, step))

    def many(self):
        """Returns how many pairs were reached."""
        return len(self._reached)

    def heads_at(self, index):
        """Returns the two heads of a pair."""
        one, two = self._reached[index]
        return (self._heads.head_at(one), self._heads.head_at(two))

    def steps_to(self, index):
        """Returns the tuple of the steps that led from the first pair to a pair."""
        steps = []
        origin, step = self._origins[index]
        while origin is not None:
            steps.append(step)
            origin, step = self._origins[origin]
        return tuple(steps[::-1])
