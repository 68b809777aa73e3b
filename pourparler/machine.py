"""A machine that runs the codes of programs."""

from pourparler.code import is_effect
from pourparler.compiler import compile_definition, compile_program
from pourparler.errors import Misused
from pourparler.events import close_end, drop_ends, hear_message, opening, say_message
from pourparler.mailboxes import Conversations
from pourparler.replacing import may_replace
from pourparler.turns import play
from pourparler.values import is_end, operator_value


class Runner:
    """An actor of a machine: its status, its code, its place in it, its slots and its stack."""

    def __init__(self, code, values):
        self.status = "running"
        self.begin(code, values)

    def begin(self, code, values):
        """Goes to the beginning of a code, with a list of values in the first slots."""
        self.code = code
        self.place = 0
        self.slots = values + [None] * (code.slots - len(values))
        self.stack = []

    def finish(self, status):
        """Makes the actor "done" or "fallen"; it has no ends then."""
        self.status = status
        self.slots = []

    def instruction(self):
        """Returns the instruction at the place."""
        return self.code.instructions[self.place]

    def ends(self):
        """Returns the ascending list of the ends in the slots."""
        return sorted([value for value in self.slots if is_end(value)])

    def take(self, slot):
        """Returns the content of a slot; if it is an end, the slot holds None then."""
        value = self.slots[slot]
        if is_end(value):
            self.slots[slot] = None
        return value

    def pop_values(self, count):
        """Pops some values; returns the list of them, the last one popped first."""
        first = len(self.stack) - count
        values = self.stack[first:]
        del self.stack[first:]
        return values

    def next_effect(self):
        """Performs the silent instructions before the next effect, goes behind this one and returns it."""
        while not is_effect(self.instruction()):
            self._perform_silent(self.instruction())
            self.place += 1
        self.place += 1
        return self.code.instructions[self.place - 1]

    def _perform_silent(self, instruction):
        word, what = instruction
        if word == "push":
            self.stack.append(what)
        elif word == "get":
            self.stack.append(self.take(what))
        else:
            operands = self.pop_values(1 if what == "not" else 2)
            self.stack.append(operator_value(what, operands))


class Machine:
    """Runs the codes of a program without mistakes; it begins with one actor, which runs Main."""

    def __init__(self, program):
        self._program = program
        self._codes = compile_program(program)
        self._replacements = {}
        self._conversations = Conversations()
        self._runners = [Runner(self._codes["Main"], [])]

    def ready(self):
        """Returns the ascending list of the numbers of the ready actors."""
        return [actor for actor in range(len(self._runners)) if self._is_ready(actor)]

    def running(self):
        """Returns the ascending list of the numbers of the running actors."""
        return [actor for actor in range(len(self._runners)) if self._is_running(actor)]

    def turn(self, actor):
        """Makes the turn of a ready actor; returns the list of the new events."""
        if not self._is_ready(actor):
            raise Misused("ready")
        return self._perform(actor, self._runners[actor].next_effect())

    def fall(self, actor):
        """Lets an actor fall if it is running; returns the list of the new events."""
        if not self._is_running(actor):
            return []
        ends = self._runners[actor].ends()
        self._runners[actor].finish("fallen")
        return [("fall", actor)] + drop_ends(self._conversations, ends)

    def replace_definition(self, definition):
        """Replaces a definition if the new one may take its place; tells whether it may."""
        if not may_replace(self._program, definition):
            return False
        self._codes[definition[0]] = compile_definition(definition)
        self._replacements[definition[0]] = definition
        return True

    def status(self, actor):
        """Returns the status of an actor: "running", "done" or "fallen"."""
        return self._runners[actor].status

    def actors(self):
        """Returns the number of actors."""
        return len(self._runners)

    def _is_running(self, actor):
        return 0 <= actor < len(self._runners) and self._runners[actor].status == "running"

    def _is_ready(self, actor):
        if not self._is_running(actor):
            return False
        runner = self._runners[actor]
        instruction = runner.instruction()
        if instruction[0] != "hear":
            return True
        _, conversation, side = runner.slots[instruction[1]]
        return self._conversations.can_hear(conversation, side)

    def _perform(self, actor, effect):
        """Performs an effect of an actor; returns the list of the new events."""
        runner = self._runners[actor]
        match effect:
            case ("set", slot):
                runner.slots[slot] = runner.stack.pop()
            case ("test", place):
                if not runner.stack.pop():
                    runner.place = place
            case ("say", slot, label, count):
                payload = runner.stack.pop() if count == 1 else None
                return say_message(self._conversations, runner.slots[slot], label, payload)
            case ("hear", slot, rows, place):
                return self._hear(actor, slot, rows, place)
            case ("close", slot):
                return close_end(self._conversations, runner.take(slot))
            case ("drop", slot):
                return drop_ends(self._conversations, [runner.take(slot)])
            case ("open", slot, name, count):
                return self._start(actor, slot, name, runner.pop_values(count))
            case ("become", name, count):
                runner.begin(self._codes[name], runner.pop_values(count))
                return [("become", actor, name)]
            case ("done",):
                runner.finish("done")
                return [("done", actor)]
            case ("fail",):
                return self.fall(actor)
        return []

    def _hear(self, actor, slot, rows, fallen):
        """Lets an actor hear at the end in a slot, and go on at the place of the label or at that of the fall."""
        runner = self._runners[actor]
        message, event = hear_message(self._conversations, runner.slots[slot])
        if message is None:
            runner.take(slot)
            runner.place = fallen
            return [event]
        label, payload = message
        own, place = row_of_label(rows, label)
        if own is not None:
            runner.slots[own] = payload
        runner.place = place
        return [event]

    def _start(self, actor, slot, name, values):
        """Starts an actor with an end of a new conversation and other values; the other end goes into the slot."""
        runner = self._runners[actor]
        conversation = self._conversations.create()
        child = len(self._runners)
        self._runners.append(Runner(self._codes[name], [("end", conversation, 1)] + values))
        runner.slots[slot] = ("end", conversation, 0)
        return [opening(actor, child, conversation, self._newest(name))]

    def _newest(self, name):
        """Returns the newest definition of a name."""
        return self._replacements[name] if name in self._replacements else self._program.actor(name)


def row_of_label(rows, label):
    """Returns the slot and the place in the row of a label."""
    return [(slot, place) for word, slot, place in rows if word == label][0]


def run_machine(program, *, schedule=(), falls=(), replacements=(), limit=100):
    """Runs a program on a machine; returns the list of all events."""
    return play(Machine(program), schedule, falls, replacements, limit)
