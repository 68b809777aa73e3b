"""The errors that the program raises on purpose."""


class Refused(ValueError):
    """Something was refused; every error of the program is one of these."""


class Malformed(Refused):
    """A text is not well formed at an index."""

    def __init__(self, at):
        self.at = at


class Unknown(Refused):
    """A name is not declared."""

    def __init__(self, name):
        self.name = name


class Clashing(Refused):
    """A name is declared twice."""

    def __init__(self, name):
        self.name = name


class Oversized(Refused):
    """A limit is exceeded."""

    def __init__(self, limit):
        self.limit = limit


class Misused(Refused):
    """A call is not allowed."""

    def __init__(self, why):
        self.why = why


class Mistaken(Refused):
    """The checker refuses the statement or the definition at an index."""

    def __init__(self, at, why):
        self.at = at
        self.why = why
