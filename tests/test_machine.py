"""Promises 42.1 to 42.4; tests/test_facts.py compares the machine with plain runs of random programs."""

import unittest

from pourparler.checker import mistake
from pourparler.errors import Misused, Refused
from pourparler.machine import Machine, run_machine
from pourparler.parser import parse
from pourparler.plain import run
from pourparler.program import program_of

TALKS = """
talk Sum = hear { add(int): Sum, get: say { sum(int): end } };
talk More = hear { add(int): More, get: say { sum(int): end }, undo: More };
talk Take = hear { take(Sum): end };
talk Give = hear { give(~Sum): end };
talk Yes = hear { yes(bool): Yes, no: end };
"""
SUM = """
actor Adder(c: Sum, total: int) {
  hear c {
    add(x): { become Adder(c, total + x); }
    get: { say c.sum(total); close c; done; }
    fall: { done; }
  }
}
"""
ASK = """
actor Main() {
  open d = Adder(100);
  say d.add(1);
  let two = 1 + 1;
  say d.add(two * 3);
  say d.get;
  hear d { sum(x): { close d; become Last(x); } fall: { fail; } }
}
actor Last(x: int) { if x == 107 { done; } else { fail; } }
"""


def definition_of(text):
    return parse(text)[0][1]


def program_with(text):
    program = program_of(TALKS + text)
    assert mistake(program) is None, mistake(program)
    return program


class MachineCase(unittest.TestCase):
    def assert_not_ready(self, machine, *actors):
        before = self.seen(machine)
        for actor in actors:
            with self.assertRaises(Misused) as caught:
                machine.turn(actor)
            self.assertEqual(caught.exception.why, "ready")
            self.assertIsInstance(caught.exception, Refused)
            self.assertEqual(self.seen(machine), before)

    def seen(self, machine):
        return machine.ready(), machine.actors(), [machine.status(actor) for actor in range(machine.actors())]

    def turns(self, machine, *actors):
        """Makes the turns of some actors and returns their events."""
        return [event for actor in actors for event in machine.turn(actor)]


class TurnTest(MachineCase):
    def test_the_start(self):
        machine = Machine(program_with(SUM + ASK))
        self.assertEqual(self.seen(machine), ([0], 1, ["running"]))
        self.assertEqual(machine.turn(0), [("open", 0, 1, 0, ("name", "Sum"))])
        self.assertEqual(self.seen(machine), ([0], 2, ["running", "running"]))

    def test_a_turn_is_a_statement(self):
        machine = Machine(program_with(SUM + ASK))
        found = [machine.turn(0) for _ in range(5)]
        self.assertEqual(found, [
            [("open", 0, 1, 0, ("name", "Sum"))], [("say", 0, 0, "add", 1)], [], [("say", 0, 0, "add", 6)],
            [("say", 0, 0, "get", None)]])
        self.assertEqual(machine.ready(), [1])
        found = [machine.turn(1) for _ in range(8)]
        self.assertEqual(found, [
            [("hear", 0, 1, "add", 1)], [("become", 1, "Adder")], [("hear", 0, 1, "add", 6)],
            [("become", 1, "Adder")], [("hear", 0, 1, "get", None)], [("say", 0, 1, "sum", 107)], [("close", 0, 1)],
            [("done", 1)]])
        self.assertEqual(self.seen(machine), ([0], 2, ["running", "done"]))
        found = [machine.turn(0) for _ in range(5)]
        self.assertEqual(found, [
            [("hear", 0, 0, "sum", 107)], [("close", 0, 0)], [("become", 0, "Last")], [], [("done", 0)]])
        self.assertEqual(self.seen(machine), ([], 2, ["done", "done"]))

    def test_actors_that_are_not_ready(self):
        machine = Machine(program_with(SUM + ASK))
        self.assert_not_ready(machine, 1, 2, 1000, -1)
        machine.turn(0)
        self.assert_not_ready(machine, 1, 2, -1, -2)
        self.turns(machine, 0, 1)
        machine.fall(0)
        self.assert_not_ready(machine, 0)
        # The other one is told of the fall behind its message.
        found = self.turns(machine, 1, 1, 1)
        self.assertEqual(found, [("become", 1, "Adder"), ("told", 0, 1), ("done", 1)])
        self.assert_not_ready(machine, 0, 1)

    def test_expressions(self):
        for text, value in (("7 - 9", 65534), ("300 * 300", 24464), ("2 - 5 + 1 == 65534", True), ("not true", False),
                            ("1 < 1 or 1 <= 1", True), ("true and 2 < 1", False), ("true == false", False),
                            ("(2 - 1) * (5 - 3 - 1)", 1)):
            label = "yes" if isinstance(value, bool) else "add"
            talk = "Yes" if isinstance(value, bool) else "Sum"
            machine = Machine(program_with(
                f"actor A(c: {talk}) {{ drop c; done; }} actor Main() {{ open c = A(); say c.{label}({text}); "
                f"let x = {text}; say c.{label}(x); drop c; done; }}"))
            found = self.turns(machine, 0, 0, 0, 0)
            self.assertEqual(repr(found[1:]), repr([("say", 0, 0, label, value)] * 2))

    def test_a_name_that_is_bound_again(self):
        machine = Machine(program_with(
            "actor A(c: Sum) { drop c; done; } "
            "actor Main() { open c = A(); drop c; let c = 5; if c == 5 { open d = A(); say d.add(c); drop d; done; } "
            "else { fail; } }"))
        found = self.turns(machine, *[0] * 8)
        self.assertEqual(found[1:], [("drop", 0, 0), ("open", 0, 2, 1, ("name", "Sum")), ("say", 1, 0, "add", 5),
                                     ("drop", 1, 0), ("done", 0)])


class EndsTest(MachineCase):
    TEXT = SUM + """
    actor Taker(c: Take) { hear c { take(d): { close c; become Adder(d, 50); } fall: { done; } } }
    actor Giver(c: Give) { hear c { give(s): { close c; say s.add(3); drop s; done; } fall: { done; } } }
    actor Ask(k: ~Sum) { say k.add(4); drop k; done; }
    actor Gone(c: Take) { drop c; done; }
    """

    def machine_of(self, block):
        return Machine(program_with(self.TEXT + "actor Main() { " + block + " }"))

    def test_an_end_in_a_message(self):
        machine = self.machine_of("open t = Taker(); open k = Ask(); say t.take(k); close t; done;")
        self.assertEqual(self.turns(machine, 0, 0, 2, 0, 0, 0), [
            ("open", 0, 1, 0, ("name", "Take")), ("open", 0, 2, 1, ("dual", "Sum")), ("say", 1, 1, "add", 4),
            ("say", 0, 0, "take", ("end", 1, 0)), ("close", 0, 0), ("done", 0)])
        self.assertEqual(self.turns(machine, 1, 1, 1, 1, 2), [
            ("hear", 0, 1, "take", ("end", 1, 0)), ("close", 0, 1), ("become", 1, "Adder"), ("hear", 1, 0, "add", 4),
            ("drop", 1, 1)])

    def test_messages_that_are_lost(self):
        machine = self.machine_of("open t = Gone(); open k = Ask(); say t.take(k); close t; done;")
        self.assertEqual(self.turns(machine, 0, 0, 1)[2:], [("drop", 0, 1)])
        self.assertEqual(self.turns(machine, 0, 0, 0), [
            ("say", 0, 0, "take", ("end", 1, 0)), ("drop", 1, 0), ("close", 0, 0), ("done", 0)])
        # What is said to an end that fell is lost.
        self.assertEqual(self.turns(machine, 2, 2), [("say", 1, 1, "add", 4), ("drop", 1, 1)])

    def test_messages_in_the_mailbox_of_an_end_that_falls(self):
        for fallen in (True, False):
            machine = self.machine_of("open t = Gone(); open k = Ask(); say t.take(k); close t; done;")
            self.turns(machine, 0, 0, 0)
            found = machine.fall(1) if fallen else machine.turn(1)
            self.assertEqual(found, [("fall", 1)] * fallen + [("drop", 0, 1), ("drop", 1, 0)])

    def test_an_end_that_was_sent_is_not_the_sender_s(self):
        machine = self.machine_of("open t = Taker(); open k = Ask(); say t.take(k); close t; fail;")
        self.turns(machine, 0, 0, 0)
        self.assertEqual(machine.fall(0), [("fall", 0), ("drop", 0, 0)])

    def test_an_end_that_is_an_argument_is_not_the_opener_s(self):
        machine = Machine(program_with(
            SUM + "actor Two(c: Give, d: ~Sum) { drop c; say d.add(1); drop d; done; } "
            "actor Main() { open a = Adder(1); open t = Two(a); drop t; done; }"))
        self.turns(machine, 0, 0)
        self.assertEqual(machine.fall(0), [("fall", 0), ("drop", 1, 0)])
        self.assertEqual(machine.fall(2), [("fall", 2), ("drop", 0, 0), ("drop", 1, 1)])

    def test_a_hear_waits_for_a_partner_that_is_sent(self):
        machine = self.machine_of("open s = Adder(1); open t = Giver(); say t.give(s); close t; done;")
        self.turns(machine, 0, 0)
        self.assertEqual(machine.ready(), [0])
        self.turns(machine, 0)
        self.assertEqual(machine.ready(), [0, 2])
        self.assert_not_ready(machine, 1)
        self.assertEqual(self.turns(machine, 2, 2, 2), [
            ("hear", 1, 1, "give", ("end", 0, 0)), ("close", 1, 1), ("say", 0, 0, "add", 3)])
        self.assertEqual(machine.ready(), [0, 1, 2])

    def test_a_fall_in_ascending_order(self):
        machine = self.machine_of(
            "open b = Adder(1); open a = Adder(2); open c = Adder(3); drop a; open a = Adder(4); fail;")
        self.turns(machine, *[0] * 5)
        self.assertEqual(machine.turn(0), [("fall", 0), ("drop", 0, 0), ("drop", 2, 0), ("drop", 3, 0)])
        self.assertEqual(machine.status(0), "fallen")

    def test_a_fall_from_outside(self):
        machine = self.machine_of("open a = Adder(1); say a.add(2); drop a; done;")
        self.turns(machine, 0, 0)
        self.assertEqual(machine.fall(1), [("fall", 1), ("drop", 0, 1)])
        self.assertEqual(self.seen(machine), ([0], 2, ["running", "fallen"]))
        self.assertEqual(machine.fall(0), [("fall", 0), ("drop", 0, 0)])
        self.assertEqual(self.seen(machine), ([], 2, ["fallen", "fallen"]))

    def test_nobody_falls(self):
        machine = self.machine_of("open a = Adder(1); drop a; done;")
        self.turns(machine, 0, 0, 0)
        for actor in (0, 2, 1000, -1, -2):
            self.assertEqual(machine.fall(actor), [])
            self.assertEqual(self.seen(machine), ([1], 2, ["done", "running"]))
        self.assertEqual(machine.fall(1), [("fall", 1), ("drop", 0, 1)])
        self.assertEqual(machine.fall(1), [])


class ReplaceTest(MachineCase):
    ROUND = "actor Run(i: int) { become Run(i + 1); } actor Main() { become Run(0); }"

    def test_actors_keep_the_code_that_they_run(self):
        machine = Machine(program_with(self.ROUND))
        machine.turn(0)
        self.assertIs(machine.replace_definition(definition_of("actor Run(i: int) { done; }")), True)
        self.assertEqual(self.turns(machine, 0, 0), [("become", 0, "Run"), ("done", 0)])

    def test_an_actor_in_the_middle_of_a_block(self):
        machine = Machine(program_with(SUM + "actor Main() { open d = Adder(1); say d.add(1); drop d; done; }"))
        machine.turn(0)
        text = ("actor Adder(c: Sum, total: int) { hear c { get: { drop c; fail; } "
                "add(n): { let x = n; drop c; done; } fall: { fail; } } }")
        self.assertIs(machine.replace_definition(definition_of(text)), True)
        self.turns(machine, 0, 1, 1)
        self.assertEqual(self.turns(machine, 0, 1, 1), [("drop", 0, 0), ("told", 0, 1), ("fall", 1)])

    def test_an_open_tells_the_kind_of_the_newest_definition(self):
        text = "actor Adder(c: More, total: int) { drop c; done; }"
        machine = Machine(program_with(SUM + "actor Main() { open d = Adder(1); drop d; become Main(); }"))
        machine.turn(0)
        self.assertIs(machine.replace_definition(definition_of(text)), True)
        found = self.turns(machine, 0, 0, 0)
        self.assertEqual(found[2:], [("open", 0, 2, 1, ("name", "More"))])
        # The definition of the program is what the next one is compared with.
        self.assertIs(machine.replace_definition(definition_of(SUM)), True)
        self.assertEqual(self.turns(machine, 0, 0, 0)[2:], [("open", 0, 3, 2, ("name", "Sum"))])
        self.assertEqual(self.turns(machine, 2, 2), [("drop", 1, 1), ("done", 2)])

    def test_refused_definitions(self):
        machine = Machine(program_with(self.ROUND))
        for text in ("actor Run(i: bool) { done; }", "actor Run() { done; }", "actor Run(i: int) { close i; done; }",
                     "actor Main() { done; }", "actor Nobody(i: int) { done; }", "actor Run(c: U) { done; }"):
            self.assertIs(machine.replace_definition(definition_of(text)), False)
        self.assertEqual(self.turns(machine, *[0] * 5), [("become", 0, "Run")] * 5)


class RunTest(unittest.TestCase):
    def assert_same(self, text, expected=None, **plan):
        """The machine makes the events of the plain run; the arguments stay as they were."""
        program = program_with(text)
        before = repr((plan, program.talks(), program.actors()))
        events = run_machine(program, **plan)
        self.assertIsInstance(events, list)
        self.assertEqual(repr(events), repr(run(program, **plan)[1]))
        if expected is not None:
            self.assertEqual(events, expected)
        self.assertEqual(repr((plan, program.talks(), program.actors())), before)

    def test_without_arguments(self):
        self.assert_same("actor Main() { become Main(); }", [("become", 0, "Main")] * 100)
        self.assert_same("actor Main() { done; }", [("done", 0)])
        self.assert_same(SUM + ASK)

    def test_the_arguments_are_named(self):
        with self.assertRaises(TypeError):
            run_machine(program_with("actor Main() { done; }"), [0])

    def test_limits(self):
        for limit in range(30):
            self.assert_same(SUM + ASK, limit=limit)
        self.assert_same("actor Main() { become Main(); }", [("become", 0, "Main")] * 3, limit=3)
        self.assert_same("actor Main() { done; }", [], limit=0)

    def test_schedules(self):
        for schedule in ([0, 1] * 20, [5, 4, 3, 2, 1, 0], [1000] * 50, [7]):
            self.assert_same(SUM + ASK, schedule=schedule)

    def test_falls(self):
        for turn in range(18):
            for actor in (0, 1, 2):
                self.assert_same(SUM + ASK, falls=[(turn, actor)])
                self.assert_same(SUM + ASK, falls=[(turn, actor), (turn, actor), (turn + 1, 1), (2, -1)])
        self.assert_same("actor Main() { become Main(); }", [("become", 0, "Main")] * 4 + [("fall", 0)], falls=[(4, 0)])

    def test_replacements(self):
        one = definition_of("actor Run(i: int) { become Run(i + 2); }")
        two, refused = definition_of("actor Run(i: int) { done; }"), definition_of("actor Run(i: bool) { done; }")
        for first in range(5):
            for second in range(5):
                for last in range(5):
                    self.assert_same(ReplaceTest.ROUND, replacements=[(first, one), (second, refused), (last, two)])
        self.assert_same(ReplaceTest.ROUND, [("become", 0, "Run")] * 3 + [("done", 0)],
                         replacements=[(2, refused), (2, one), (2, two)])
        self.assert_same(ReplaceTest.ROUND, [("become", 0, "Run")] * 9, replacements=[(0, refused)], limit=9)


if __name__ == "__main__":
    unittest.main()
