"""Programs: named talks and definitions of actors."""

from pourparler.errors import Clashing, Unknown
from pourparler.parser import parse


class Program:
    """Keeps talks and definitions in the order in which they were added."""

    def __init__(self):
        self._talks = {}
        self._actors = {}

    def add_talk(self, name, talk):
        """Adds a talk under a name that no talk has."""
        if name in self._talks:
            raise Clashing(name)
        self._talks[name] = talk

    def add_actor(self, definition):
        """Adds a definition under its name, which no definition has."""
        name = definition[0]
        if name in self._actors:
            raise Clashing(name)
        self._actors[name] = definition

    def talk(self, name):
        """Returns the tree of the talk of a name."""
        if name not in self._talks:
            raise Unknown(name)
        return self._talks[name]

    def actor(self, name):
        """Returns the definition of a name."""
        if name not in self._actors:
            raise Unknown(name)
        return self._actors[name]

    def has_talk(self, name):
        """Tells whether a talk has the name."""
        return name in self._talks

    def has_actor(self, name):
        """Tells whether a definition has the name."""
        return name in self._actors

    def talks(self):
        """Returns the list of the pairs of a name and its talk."""
        return list(self._talks.items())

    def table(self):
        """Returns a dict from the names of the talks to the talks."""
        return dict(self._talks)

    def actors(self):
        """Returns the list of the definitions."""
        return list(self._actors.values())


def program_of(text):
    """Returns the program with the items of a text, in order."""
    program = Program()
    for item in parse(text):
        if item[0] == "talk":
            program.add_talk(item[1], item[2])
        else:
            program.add_actor(item[1])
    return program
