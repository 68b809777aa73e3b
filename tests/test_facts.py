"""Promise 22.4: what must hold of all programs that the checker accepts."""

import random
import unittest

from pourparler.checker import mistake
from pourparler.mailboxes import Conversations
from pourparler.printer import bare, show_program
from pourparler.program import Program, program_of
from pourparler.replacing import may_replace
from pourparler.subtalk import is_subtalk
from pourparler.talks import dual, head, row_of
from pourparler.values import ends_of, evaluate, is_end
from random_programs import Maker, changed_block


class Actor:
    def __init__(self, definition, values):
        self.status = "running"
        self.begin(definition, values)

    def begin(self, definition, values):
        names = [name for name, _ in definition[1]]
        assert len(names) == len(values), "an actor gets as many values as it has parameters"
        self.names = dict(zip(names, values))
        self.rest = definition[2]


class World:
    """Runs a program step by step and asserts that all goes by the talks of the ends."""

    def __init__(self, program):
        self.program = program
        self.table = program.table()
        self.newest = {definition[0]: definition for definition in program.actors()}
        self.conversations = Conversations()
        self.talks = {}
        self.seen = {"heard": 0, "ends heard": 0, "told": 0, "opened": 0, "replaced": 0, "fallen": 0}
        self.actors = [Actor(program.actor("Main"), [])]

    def ready(self):
        return [number for number, actor in enumerate(self.actors)
                if actor.status == "running" and not self.waits(actor)]

    def waits(self, actor):
        statement = actor.rest[0]
        return statement[0] == "hear" and not self.conversations.can_hear(*self.end(actor, statement[1]))

    def end(self, actor, name):
        value = actor.names[name]
        assert is_end(value) and self.conversations.mark(*value[1:]) == "held"
        return value[1:]

    def assert_kind(self, payload, kind):
        if isinstance(kind, tuple):
            assert is_end(payload) and is_subtalk(self.table, self.talks[payload[1:]], kind)
        else:
            assert type(payload) is {None: type(None), "int": int, "bool": bool}[kind]

    def go_on(self, end, word, label, payload):
        """Goes on in the talk of an end behind a message, which the talk must allow."""
        talk = head(self.table, self.talks[end])
        assert talk[0] == word, "the talk is a " + word
        row = row_of(talk, label)
        assert row is not None, "the talk has the label"
        self.assert_kind(payload, row[1])
        self.talks[end] = row[2]

    def take_values(self, actor, arguments):
        values = []
        for e in arguments:
            values.append(evaluate(e, actor.names))
            if is_end(values[-1]):
                del actor.names[e[1]]
        return values

    def step(self, actor):
        statement = actor.rest[0]
        actor.rest = actor.rest[1:]
        getattr(self, "step_" + statement[0])(actor, *statement[1:-1])

    def step_let(self, actor, name, e):
        assert name not in actor.names
        actor.names[name] = evaluate(e, actor.names)
        assert not is_end(actor.names[name])

    def step_say(self, actor, name, label, e):
        end = self.end(actor, name)
        payload = None if e is None else self.take_values(actor, [e])[0]
        assert name in actor.names, "an end is not said on itself"
        self.go_on(end, "say", label, payload)
        self.conversations.send(*end, label, payload)

    def step_close(self, actor, name):
        end = self.end(actor, name)
        assert head(self.table, self.talks[end]) == ("end",)
        del actor.names[name]
        self.conversations.close(*end)

    def step_drop(self, actor, name):
        end = self.end(actor, name)
        del actor.names[name]
        self.conversations.drop([("end", *end)])

    def step_open(self, actor, name, opened, arguments):
        definition = self.newest[opened]
        kind = definition[1][0][1]
        assert isinstance(kind, tuple)
        number = self.conversations.create()
        self.talks |= {(number, 1): kind, (number, 0): dual(kind)}
        values = self.take_values(actor, arguments)
        self.actors.append(Actor(definition, [("end", number, 1), *values]))
        self.assert_parameters(self.actors[-1], definition)
        assert name not in actor.names
        actor.names[name] = ("end", number, 0)
        self.seen["opened"] += 1

    def step_become(self, actor, name, arguments):
        values = self.take_values(actor, arguments)
        assert ends_of(actor.names) == []
        actor.begin(self.newest[name], values)
        self.assert_parameters(actor, self.newest[name])

    def assert_parameters(self, actor, definition):
        for name, kind in definition[1]:
            self.assert_kind(actor.names[name], kind)

    def step_done(self, actor):
        assert ends_of(actor.names) == []
        actor.status, actor.names = "done", {}

    def step_fail(self, actor):
        self.fall(actor)

    def step_if(self, actor, e, first, second):
        value = evaluate(e, actor.names)
        assert type(value) is bool
        actor.rest = first if value else second

    def step_hear(self, actor, name, branches, fallen):
        end = self.end(actor, name)
        assert head(self.table, self.talks[end])[0] == "hear"
        if self.conversations.is_told(*end):
            self.conversations.close(*end)
            del actor.names[name]
            actor.rest = fallen
            self.seen["told"] += 1
            return
        label, payload = self.conversations.hear(*end)
        self.go_on(end, "hear", label, payload)
        (word, actor.rest), = [(word, block) for one, word, block in branches if one == label]
        assert (word is None) == (payload is None) and word not in actor.names
        if word is not None:
            actor.names[word] = payload
        self.seen["heard"] += 1
        self.seen["ends heard"] += is_end(payload)

    def fall(self, actor):
        ends = ends_of(actor.names)
        actor.status, actor.names = "fallen", {}
        self.conversations.drop(ends)
        self.seen["fallen"] += 1

    def turn(self, number, falls, replacements):
        for definition in replacements:
            if may_replace(self.program, definition):
                self.newest[definition[0]] = definition
                self.seen["replaced"] += 1
        for actor in falls:
            if actor < len(self.actors) and self.actors[actor].status == "running":
                self.fall(self.actors[actor])
        if any(actor.status == "running" for actor in self.actors):
            ready = self.ready()
            assert ready, "some actor is ready as long as some actor is not finished"
            self.step(self.actors[ready[number % len(ready)]])
        self.assert_owners()

    def assert_owners(self):
        """Each end that is held has one holder, and each end that is sent is in one message."""
        held = [value for actor in self.actors for value in ends_of(actor.names)]
        sent, marks = [], {"held": [], "sent": [], "closed": [], "fallen": []}
        for end in self.talks:
            sent.extend(payload for _, payload in self.conversations.mailbox(*end) if is_end(payload))
            marks[self.conversations.mark(*end)].append(("end", *end))
        assert sorted(held) == sorted(marks["held"])
        assert sorted(sent) == sorted(marks["sent"])


class FactTest(unittest.TestCase):
    def run_program(self, source, program, replacements=(), turns=150):
        world = World(program)
        for turn in range(turns):
            if all(actor.status != "running" for actor in world.actors):
                break
            falls = [source.randrange(len(world.actors))] if source.random() < 0.01 else []
            world.turn(source.randrange(1000), falls, [one for at, one in replacements if at == turn])
        return world.seen

    def test_programs_made_along_their_talks(self):
        total = {}
        for seed in range(150):
            source = random.Random(seed)
            maker = Maker(source)
            program = maker.program()
            self.assertIsNone(mistake(program), show_program(program))
            for _ in range(3):
                replacements = [(source.randrange(30), maker.replacement()) for _ in range(source.choice((0, 2, 4)))]
                for name, count in self.run_program(source, program, replacements).items():
                    total[name] = total.get(name, 0) + count
        self.assertGreater(min(total.values()), 30, total)

    def test_changed_programs_that_are_accepted(self):
        answers = {}
        for seed in range(400):
            source = random.Random(seed)
            program = Program()
            made = Maker(source).program()
            for name, talk in made.talks():
                program.add_talk(name, talk)
            changed = source.choice(made.actors())
            for definition in made.actors():
                name, parameters, block, at = definition
                if definition is changed:
                    for _ in range(source.choice((1, 1, 2))):
                        block = changed_block(source, block)
                program.add_actor((name, parameters, block, at))
            found = mistake(program)
            why = None if found is None else found[1]
            answers[why] = answers.get(why, 0) + 1
            if why is None:
                self.run_program(source, program)
        self.assertGreater(answers[None], 30, answers)
        # None and all words come up, but for those of the talks and of Main.
        self.assertEqual(len(answers), 12, answers)

    def test_printed_programs(self):
        for seed in range(40):
            program = Maker(random.Random(seed)).program()
            again = program_of(show_program(program))
            self.assertEqual([bare(one) for one in again.actors()], [bare(one) for one in program.actors()])
            self.assertIsNone(mistake(again))


if __name__ == "__main__":
    unittest.main()
