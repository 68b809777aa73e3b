"""Promises 22.4, 33.4, 42.4, 5.4 and 51.1: what must hold of all programs that the checker accepts."""

import random
import unittest

from pourparler.checker import mistake
from pourparler.history import Ledger
from pourparler.judge import judge
from pourparler.machine import Machine, run_machine
from pourparler.plain import fall, run, step
from pourparler.printer import bare, show_program
from pourparler.program import Program, program_of
from pourparler.replacing import may_replace
from pourparler.state import State
from pourparler.subtalk import is_subtalk
from pourparler.talks import head, row_of
from random_programs import Maker, changed_block
from worlds import World


def drawn_plan(source, maker, limit):
    """Returns the named arguments of a run: a schedule, falls, replacements, accepted and refused ones, and a limit."""
    schedule = [source.randrange(1000) for _ in range(source.choice((0, limit // 2, limit, limit + 9)))]
    falls = [(source.randrange(limit), source.randrange(8)) for _ in range(source.choice((0, 0, 1, 2)))]
    replacements = [(source.randrange(limit // 4), maker.replacement()) for _ in range(source.choice((0, 2, 4)))]
    return {"schedule": schedule, "falls": falls, "replacements": replacements, "limit": limit}


def at_turn(turn, pairs):
    return [what for at, what in pairs if at == turn]


class FactCase(unittest.TestCase):
    def assert_run(self, program, plan):
        """All ways to run a program tell the same; returns the world in which it ran."""
        before = repr(plan)
        world = World(program)
        events = world.run(**plan)
        state, found = run(program, **plan)
        # True equals 1, so the texts are compared.
        self.assertEqual(repr(found), repr(events), show_program(program))
        for actor, other in enumerate(world.actors):
            parts = state.name(actor), state.names(actor), state.rest(actor), state.status(actor)
            self.assertEqual(parts, other.parts())
        self.assertEqual(state.conversations.snapshot(), world.conversations.snapshot())
        self.assertEqual((state.actors(), state.running()), (len(world.actors), world.running()))
        self.assertEqual(repr(run_machine(program, **plan)), repr(events), show_program(program))
        self.assertEqual(repr(plan), before)
        self.assert_judged(program.table(), events)
        return world

    def assert_judged(self, table, events):
        """The judge accepts the events, and each message that is heard is one that the talk of the end has then."""
        self.assertIsNone(judge(table, events))
        ledger = Ledger(table)
        for event in events:
            if event[0] == "hear":
                _, number, side, label, payload = event
                talk = head(table, ledger.talk_of(number, side))
                self.assertEqual(talk[0], "hear")
                self.assert_kind(table, ledger, payload, row_of(talk, label)[1])
            ledger.enter(event)
        self.assertEqual(ledger.owed(), [])

    def assert_kind(self, table, ledger, payload, kind):
        if isinstance(kind, tuple):
            self.assertEqual(payload[0], "end")
            self.assertTrue(is_subtalk(table, ledger.talk_of(*payload[1:]), kind))
        else:
            self.assertIs(type(payload), {None: type(None), "int": int, "bool": bool}[kind])


class FactTest(FactCase):
    def test_programs_made_along_their_talks(self):
        total = {}
        for seed in range(200):
            source = random.Random(seed)
            maker = Maker(source)
            program = maker.program()
            self.assertIsNone(mistake(program), show_program(program))
            for _ in range(3):
                world = self.assert_run(program, drawn_plan(source, maker, 160))
                for name, count in world.seen.items():
                    total[name] = total.get(name, 0) + count
        self.assertGreater(min(total.values()), 30, total)

    def test_runs_without_arguments(self):
        for seed in range(200, 280):
            program = Maker(random.Random(seed)).program()
            self.assertEqual(repr(run_machine(program)), repr(self.assert_run(program, {}).events))

    def test_each_turn_of_the_machine(self):
        """The same actors are ready before each turn, and each turn makes the same events."""
        for seed in range(280, 340):
            source = random.Random(seed)
            maker = Maker(source)
            program = maker.program()
            plan = drawn_plan(source, maker, 100)
            state, machine = State(program), Machine(program)
            for turn in range(100):
                for definition in at_turn(turn, plan["replacements"]):
                    allowed = may_replace(program, definition)
                    self.assertIs(machine.replace_definition(definition), allowed)
                    if allowed:
                        state.renew(definition)
                for actor in at_turn(turn, plan["falls"]):
                    self.assertEqual(machine.fall(actor), fall(state, actor))
                ready = state.ready()
                self.assertEqual(machine.ready(), ready)
                # An actor is ready as long as one is running.
                self.assertEqual(ready == [], state.running() == [])
                if ready:
                    actor = source.choice(ready)
                    self.assertEqual(repr(machine.turn(actor)), repr(step(state, actor)))
                self.assertEqual([machine.status(actor) for actor in range(machine.actors())],
                                 [state.status(actor) for actor in range(state.actors())])

    def test_changed_programs_that_are_accepted(self):
        answers = {}
        for seed in range(400):
            source = random.Random(seed)
            program = Program()
            maker = Maker(source)
            made = maker.program()
            for name, talk in made.talks():
                program.add_talk(name, talk)
            changed = source.choice(made.actors())
            for definition in made.actors():
                name, parameters, block, at = definition
                if definition is changed:
                    for _ in range(source.choice((1, 1, 2))):
                        block = changed_block(source, block)
                program.add_actor((name, parameters, block, at))
            found = mistake(program)
            why = None if found is None else found[1]
            answers[why] = answers.get(why, 0) + 1
            if why is None:
                self.assert_run(program, drawn_plan(source, maker, 120))
        self.assertGreater(answers[None], 30, answers)
        # None and all words come up, but for those of the talks and of Main.
        self.assertEqual(len(answers), 12, answers)

    def test_printed_programs(self):
        """A program that is printed and read again has the same items, but for the indexes, and runs alike."""
        for seed in range(60):
            source = random.Random(seed)
            maker = Maker(source)
            program = maker.program()
            again = program_of(show_program(program))
            self.assertEqual(again.talks(), program.talks())
            self.assertEqual([bare(one) for one in again.actors()], [bare(one) for one in program.actors()])
            self.assertIsNone(mistake(again))
            plan = drawn_plan(source, maker, 100)
            (one, events), (two, others) = run(program, **plan), run(again, **plan)
            self.assertEqual(repr(others), repr(events))
            self.assertEqual(two.conversations.snapshot(), one.conversations.snapshot())
            for actor in range(one.actors()):
                self.assertEqual((two.name(actor), two.names(actor), two.status(actor), bare(two.rest(actor))),
                                 (one.name(actor), one.names(actor), one.status(actor), bare(one.rest(actor))))
            self.assertEqual(run_machine(again, **plan), events)


if __name__ == "__main__":
    unittest.main()
