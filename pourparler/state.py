"""States: the actors of a program that runs, and their conversations."""

from pourparler.errors import Misused
from pourparler.mailboxes import Conversations
from pourparler.values import is_end


class Actor:
    """An actor: the name of its definition, its names with their values, the rest of its block, and its status."""

    def __init__(self, name, names, rest, status):
        self.name = name
        self.names = names
        self.rest = rest
        self.status = status


class State:
    """Keeps the actors and the conversations of a program, and the newest definitions."""

    def __init__(self, program):
        main = program.actor("Main")
        if main[1]:
            raise Misused("Main")
        self._program = program
        self._newest = {}
        self._actors = []
        self.conversations = Conversations()
        self.start(main, [])

    @property
    def program(self):
        """The program."""
        return self._program

    def newest(self, name):
        """Returns the newest definition of a name."""
        if name in self._newest:
            return self._newest[name]
        return self._program.actor(name)

    def renew(self, definition):
        """Makes a definition the newest one of its name."""
        self._newest[definition[0]] = definition

    def actors(self):
        """Returns the number of actors."""
        return len(self._actors)

    def status(self, actor):
        """Returns the status of an actor: "running", "done" or "fallen"."""
        return self._actors[actor].status

    def name(self, actor):
        """Returns the name of the definition of an actor."""
        return self._actors[actor].name

    def rest(self, actor):
        """Returns the tuple of the statements that an actor still has before it."""
        return self._actors[actor].rest

    def names(self, actor):
        """Returns a new dict from the names of an actor to their values."""
        return dict(self._actors[actor].names)

    def ready(self):
        """Returns the ascending list of the numbers of the ready actors."""
        return [actor for actor in range(len(self._actors)) if self.is_ready(actor)]

    def running(self):
        """Returns the ascending list of the numbers of the running actors."""
        return [actor for actor in range(len(self._actors)) if self.is_running(actor)]

    def is_running(self, actor):
        """Tells whether there is an actor of a number, and it is running."""
        return 0 <= actor < len(self._actors) and self._actors[actor].status == "running"

    def is_ready(self, actor):
        """Tells whether there is an actor of a number, and it is ready."""
        return self.is_running(actor) and not self._waits(self._actors[actor])

    def start(self, definition, values):
        """Adds a running actor with a definition and values for its parameters; returns its number."""
        self._actors.append(Actor(definition[0], bound(definition, values), definition[2], "running"))
        return len(self._actors) - 1

    def put(self, actor, names, rest):
        """Gives a running actor a dict of names and values, and a rest."""
        changed = self._actors[actor]
        changed.names = dict(names)
        changed.rest = rest

    def rename(self, actor, definition, values):
        """Gives a running actor a definition, values for its parameters, and its whole block."""
        changed = self._actors[actor]
        changed.name = definition[0]
        self.put(actor, bound(definition, values), definition[2])

    def finish(self, actor, status):
        """Makes a running actor "done" or "fallen"; it has no names and no rest then."""
        changed = self._actors[actor]
        changed.status = status
        self.put(actor, {}, ())

    def snapshot(self):
        """Returns a tuple of the actors and the conversations."""
        return (tuple([actor_parts(actor) for actor in self._actors]), self.conversations.snapshot())

    def twin(self):
        """Returns an independent copy."""
        other = State(self._program)
        other._newest = dict(self._newest)
        other._actors = [Actor(one.name, dict(one.names), one.rest, one.status) for one in self._actors]
        other.conversations = self.conversations.twin()
        return other

    def _waits(self, actor):
        """Tells whether the next statement of an actor is a hear of an end that cannot hear."""
        if not actor.rest or actor.rest[0][0] != "hear":
            return False
        # A hear of something else than an end waits for nothing: it is a step that goes wrong.
        end = actor.names.get(actor.rest[0][1])
        return is_end(end) and not self.conversations.can_hear(end[1], end[2])


def bound(definition, values):
    """Returns a dict from the parameters of a definition to values."""
    names = {}
    for (name, _), value in zip(definition[1], values):
        names[name] = value
    return names


def actor_parts(actor):
    """Returns a tuple of the parts of an actor; the names are sorted, since their order means nothing."""
    return (actor.name, tuple(sorted(actor.names.items())), actor.rest, actor.status)
