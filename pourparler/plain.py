"""Steps, falls and runs: the plain meaning of programs."""

from pourparler.errors import Misused
from pourparler.events import close_end, drop_ends, hear_message, opening, say_message
from pourparler.replacing import may_replace
from pourparler.state import State
from pourparler.turns import play
from pourparler.values import ends_of, evaluate, is_end


def end_named(names, name):
    """Returns the end that a name is bound to."""
    end = names.get(name)
    if not is_end(end):
        raise Misused("wrong")
    return end


def handed_over(names, arguments):
    """Returns the names of the ends that are arguments."""
    return [e[1] for e in arguments if e[0] == "var" and is_end(names[e[1]])]


def without(names, gone):
    """Returns a new dict of names without those of a list."""
    return {name: names[name] for name in names if name not in gone}


def go_on(state, actor, names):
    """Gives an actor names and lets it go on behind its statement; changes the state."""
    state.put(actor, names, state.rest(actor)[1:])


# Each of these functions makes the step of a statement of one kind, which changes the state, and returns the list of
# the events.


def step_let(state, actor, statement):
    _, name, e, _ = statement
    names = state.names(actor)
    names[name] = evaluate(e, names)
    go_on(state, actor, names)
    return []


def step_say(state, actor, statement):
    _, name, label, e, _ = statement
    names = state.names(actor)
    end = end_named(names, name)
    said = () if e is None else (e,)
    payload = None if e is None else evaluate(e, names)
    go_on(state, actor, without(names, handed_over(names, said)))
    return say_message(state.conversations, end, label, payload)


def step_close(state, actor, statement):
    _, name, _ = statement
    names = state.names(actor)
    end = end_named(names, name)
    go_on(state, actor, without(names, [name]))
    return close_end(state.conversations, end)


def step_drop(state, actor, statement):
    _, name, _ = statement
    names = state.names(actor)
    end = end_named(names, name)
    go_on(state, actor, without(names, [name]))
    return drop_ends(state.conversations, [end])


def step_opening(state, actor, statement):
    _, name, opened, arguments, _ = statement
    definition = state.newest(opened)
    # The first parameter gets the end of the new conversation.
    if len(arguments) != len(definition[1]) - 1:
        raise Misused("wrong")
    names = state.names(actor)
    values = [evaluate(e, names) for e in arguments]
    conversation = state.conversations.create()
    child = state.start(definition, [("end", conversation, 1)] + values)
    # The arguments leave first, because one of them may have the name of the new end.
    left = without(names, handed_over(names, arguments))
    left[name] = ("end", conversation, 0)
    go_on(state, actor, left)
    return [opening(actor, child, conversation, definition)]


def step_done(state, actor, statement):
    state.finish(actor, "done")
    return [("done", actor)]


def step_fail(state, actor, statement):
    return fall(state, actor)


def step_become(state, actor, statement):
    _, name, arguments, _ = statement
    definition = state.newest(name)
    if len(arguments) != len(definition[1]):
        raise Misused("wrong")
    names = state.names(actor)
    values = [evaluate(e, names) for e in arguments]
    state.rename(actor, definition, values)
    return [("become", actor, name)]


def step_if(state, actor, statement):
    _, e, first, second, _ = statement
    names = state.names(actor)
    state.put(actor, names, first if evaluate(e, names) else second)
    return []


def step_hear(state, actor, statement):
    _, name, branches, fallen, _ = statement
    names = state.names(actor)
    message, event = hear_message(state.conversations, end_named(names, name))
    if message is None:
        state.put(actor, without(names, [name]), fallen)
        return [event]
    label, payload = message
    word, block = branch_of(branches, label)
    if word is not None:
        names[word] = payload
    state.put(actor, names, block)
    return [event]


def branch_of(branches, label):
    """Returns the name and the block of the branch of a label."""
    for word, name, block in branches:
        if word == label:
            return (name, block)
    raise Misused("wrong")


STEPS = {
    "let": step_let, "say": step_say, "close": step_close, "drop": step_drop, "open": step_opening,
    "done": step_done, "fail": step_fail, "become": step_become, "if": step_if, "hear": step_hear,
}


def step(state, actor):
    """Makes a step of a ready actor, which changes the state; returns the list of the events."""
    if not state.is_ready(actor):
        raise Misused("ready")
    statement = state.rest(actor)[0]
    make = STEPS[statement[0]]
    return make(state, actor, statement)


def fall(state, actor):
    """Lets an actor fall if it is running, which changes the state; returns the list of the events."""
    if not state.is_running(actor):
        return []
    ends = ends_of(state.names(actor))
    state.finish(actor, "fallen")
    return [("fall", actor)] + drop_ends(state.conversations, ends)


def run(program, *, schedule=(), falls=(), replacements=(), limit=100):
    """Runs a program; returns the pair of the state at the end and the list of all events."""
    state = State(program)
    events = play(PlainPlayer(state), schedule, falls, replacements, limit)
    return (state, events)


class PlainPlayer:
    """Makes the turns of a run with a state."""

    def __init__(self, state):
        self._state = state

    def running(self):
        """Returns the list of the numbers of the running actors."""
        return self._state.running()

    def ready(self):
        """Returns the ascending list of the numbers of the ready actors."""
        return self._state.ready()

    def turn(self, actor):
        """Makes a step of a ready actor; returns the list of the events."""
        return step(self._state, actor)

    def fall(self, actor):
        """Lets an actor fall if it is running; returns the list of the events."""
        return fall(self._state, actor)

    def replace_definition(self, definition):
        """Makes a definition the newest one of its name if it may take its place."""
        if may_replace(self._state.program, definition):
            self._state.renew(definition)
