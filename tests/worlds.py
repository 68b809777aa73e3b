"""Another way to run programs, which asserts in each step that all goes by the talks of the ends."""

from pourparler.mailboxes import Conversations
from pourparler.replacing import may_replace
from pourparler.subtalk import is_subtalk
from pourparler.talks import dual, head, row_of
from pourparler.values import ends_of, evaluate, is_end


class Actor:
    def __init__(self, definition, values):
        self.status = "running"
        self.begin(definition, values)

    def parts(self):
        return self.name, self.names, self.rest, self.status

    def begin(self, definition, values):
        names = [name for name, _ in definition[1]]
        assert len(names) == len(values), "an actor gets as many values as it has parameters"
        self.name = definition[0]
        self.names = dict(zip(names, values))
        self.rest = definition[2]


class World:
    """Runs a program step by step and asserts that all goes by the talks of the ends."""

    def __init__(self, program):
        self.program = program
        self.table = program.table()
        self.newest = {definition[0]: definition for definition in program.actors()}
        self.conversations = Conversations()
        self.talks = {}
        self.events = []
        self.seen = dict.fromkeys(
            ("heard", "ends heard", "told", "opened", "replaced", "refused", "fallen", "said to nobody"), 0)
        self.actors = [Actor(program.actor("Main"), [])]

    def ready(self):
        return [number for number, actor in enumerate(self.actors)
                if actor.status == "running" and not self.waits(actor)]

    def waits(self, actor):
        statement = actor.rest[0]
        return statement[0] == "hear" and not self.conversations.can_hear(*self.end(actor, statement[1]))

    def end(self, actor, name):
        value = actor.names[name]
        assert is_end(value) and self.conversations.mark(*value[1:]) == "held"
        return value[1:]

    def assert_kind(self, payload, kind):
        if isinstance(kind, tuple):
            assert is_end(payload) and is_subtalk(self.table, self.talks[payload[1:]], kind)
        else:
            assert type(payload) is {None: type(None), "int": int, "bool": bool}[kind]

    def go_on(self, end, word, label, payload):
        """Goes on in the talk of an end behind a message, which the talk must allow."""
        talk = head(self.table, self.talks[end])
        assert talk[0] == word, "the talk is a " + word
        row = row_of(talk, label)
        assert row is not None, "the talk has the label"
        self.assert_kind(payload, row[1])
        self.talks[end] = row[2]

    def tell_drops(self, ends):
        self.events.extend(("drop", *end[1:]) for end in ends)

    def take_values(self, actor, arguments):
        values = []
        for e in arguments:
            values.append(evaluate(e, actor.names))
            if is_end(values[-1]):
                del actor.names[e[1]]
        return values

    def step(self, actor):
        statement = actor.rest[0]
        actor.rest = actor.rest[1:]
        getattr(self, "step_" + statement[0])(actor, *statement[1:-1])

    def step_let(self, actor, name, e):
        assert name not in actor.names
        actor.names[name] = evaluate(e, actor.names)
        assert not is_end(actor.names[name])

    def step_say(self, actor, name, label, e):
        end = self.end(actor, name)
        payload = None if e is None else self.take_values(actor, [e])[0]
        assert name in actor.names, "an end is not said on itself"
        self.go_on(end, "say", label, payload)
        self.events.append(("say", *end, label, payload))
        self.seen["said to nobody"] += self.conversations.mark(end[0], 1 - end[1]) not in ("held", "sent")
        self.tell_drops(self.conversations.send(*end, label, payload))

    def step_close(self, actor, name):
        end = self.end(actor, name)
        assert head(self.table, self.talks[end]) == ("end",)
        del actor.names[name]
        self.events.append(("close", *end))
        self.tell_drops(self.conversations.close(*end))

    def step_drop(self, actor, name):
        end = self.end(actor, name)
        del actor.names[name]
        self.tell_drops(self.conversations.drop([("end", *end)]))

    def step_open(self, actor, name, opened, arguments):
        definition = self.newest[opened]
        kind = definition[1][0][1]
        assert isinstance(kind, tuple)
        number = self.conversations.create()
        self.talks |= {(number, 1): kind, (number, 0): dual(kind)}
        values = self.take_values(actor, arguments)
        self.events.append(("open", self.actors.index(actor), len(self.actors), number, kind))
        self.actors.append(Actor(definition, [("end", number, 1), *values]))
        self.assert_parameters(self.actors[-1], definition)
        assert name not in actor.names
        actor.names[name] = ("end", number, 0)
        self.seen["opened"] += 1

    def step_become(self, actor, name, arguments):
        values = self.take_values(actor, arguments)
        assert ends_of(actor.names) == []
        actor.begin(self.newest[name], values)
        self.events.append(("become", self.actors.index(actor), name))
        self.assert_parameters(actor, self.newest[name])

    def assert_parameters(self, actor, definition):
        for name, kind in definition[1]:
            self.assert_kind(actor.names[name], kind)

    def step_done(self, actor):
        assert ends_of(actor.names) == []
        actor.status, actor.names, actor.rest = "done", {}, ()
        self.events.append(("done", self.actors.index(actor)))

    def step_fail(self, actor):
        self.fall(actor)

    def step_if(self, actor, e, first, second):
        value = evaluate(e, actor.names)
        assert type(value) is bool
        actor.rest = first if value else second

    def step_hear(self, actor, name, branches, fallen):
        end = self.end(actor, name)
        assert head(self.table, self.talks[end])[0] == "hear"
        if self.conversations.is_told(*end):
            self.conversations.close(*end)
            self.events.append(("told", *end))
            del actor.names[name]
            actor.rest = fallen
            self.seen["told"] += 1
            return
        label, payload = self.conversations.hear(*end)
        self.events.append(("hear", *end, label, payload))
        self.go_on(end, "hear", label, payload)
        (word, actor.rest), = [(word, block) for one, word, block in branches if one == label]
        assert (word is None) == (payload is None) and word not in actor.names
        if word is not None:
            actor.names[word] = payload
        self.seen["heard"] += 1
        self.seen["ends heard"] += is_end(payload)

    def fall(self, actor):
        ends = ends_of(actor.names)
        actor.status, actor.names, actor.rest = "fallen", {}, ()
        self.events.append(("fall", self.actors.index(actor)))
        self.tell_drops(self.conversations.drop(ends))
        self.seen["fallen"] += 1

    def run(self, schedule=(), falls=(), replacements=(), limit=100):
        for turn in range(limit):
            if not self.running():
                break
            self.turn(schedule[turn] if turn < len(schedule) else 0, [one for at, one in falls if at == turn],
                      [one for at, one in replacements if at == turn])
        return self.events

    def running(self):
        return [number for number, actor in enumerate(self.actors) if actor.status == "running"]

    def turn(self, number, falls, replacements):
        for definition in replacements:
            allowed = may_replace(self.program, definition)
            self.seen["replaced" if allowed else "refused"] += 1
            if allowed:
                self.newest[definition[0]] = definition
        for actor in falls:
            if actor in self.running():
                self.fall(self.actors[actor])
        if self.running():
            ready = self.ready()
            assert ready, "some actor is ready as long as some actor is not finished"
            self.step(self.actors[ready[number % len(ready)]])
        self.assert_owners()
        self.assert_forest()

    def assert_owners(self):
        """Each end that is held has one holder, and each end that is sent is in one message."""
        held = [value for actor in self.actors for value in ends_of(actor.names)]
        sent, marks = [], {"held": [], "sent": [], "closed": [], "fallen": []}
        for end in self.talks:
            sent.extend(payload for _, payload in self.conversations.mailbox(*end) if is_end(payload))
            marks[self.conversations.mark(*end)].append(("end", *end))
        assert sorted(held) == sorted(marks["held"])
        assert sorted(sent) == sorted(marks["sent"])

    def assert_forest(self):
        """No way leads from an actor or a conversation back to it, each link taken once.

        A conversation is linked to the actors that hold its ends, and to the conversations that carry its ends.
        """
        links = [(("actor", number), end[1]) for number, actor in enumerate(self.actors)
                 for end in ends_of(actor.names)]
        for number, side in self.talks:
            links.extend((number, payload[1]) for _, payload in self.conversations.mailbox(number, side)
                         if is_end(payload))
        trees = {}
        for one, two in links:
            first, second = trees.get(one, {one}), trees.get(two, {two})
            assert first is not second and two not in first, "a link within a tree closes a round"
            first |= second
            trees.update({node: first for node in first})
