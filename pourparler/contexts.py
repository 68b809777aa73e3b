"""What names are bound to at a point of a block."""


class Context:
    """Binds names to kinds, in the order in which they were bound: "int", "bool", or the talk of an end."""

    def __init__(self, pairs=()):
        self._kinds = dict(pairs)

    def __iter__(self):
        return iter(self._kinds.items())

    def binds(self, name):
        """Tells whether a name is bound."""
        return name in self._kinds

    def kind(self, name):
        """Returns what a bound name is bound to."""
        return self._kinds[name]

    def is_end(self, name):
        """Tells whether a name is bound to a talk."""
        return name in self._kinds and isinstance(self._kinds[name], tuple)

    def bind(self, name, kind):
        """Binds a name that is not bound, behind all others."""
        self._kinds[name] = kind

    def change(self, name, talk):
        """Gives a bound name another talk; its place in the order stays."""
        self._kinds[name] = talk

    def release(self, name):
        """Removes the binding of a bound name."""
        del self._kinds[name]

    def ends(self):
        """Returns the list of the names that are bound to talks, in order."""
        return [name for name in self._kinds if self.is_end(name)]

    def pairs(self):
        """Returns the list of the pairs of a name and its kind, in order."""
        return list(self._kinds.items())

    def twin(self):
        """Returns an independent context with the same bindings."""
        return Context(tuple(self._kinds.items()))
