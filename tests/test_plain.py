"""Promises 33.1 to 33.3."""

import unittest

from pourparler.errors import Misused, Refused, Unknown
from pourparler.parser import parse
from pourparler.plain import fall, run, step
from pourparler.program import program_of
from pourparler.state import State

ACTORS = """
talk T = hear { a: end, n(int): T, c(E): end };
talk E = end;
actor A(c: T, i: int) { drop c; done; }
actor B(i: int, p: bool) { done; }
actor C(c: ~E) { drop c; done; }
actor Pass(c: T, d: E) { drop c; drop d; done; }
actor None() { done; }
"""


def end(conversation, side):
    return ("end", conversation, side)


def definition_of(text):
    return parse(text)[0][1]


class StepCase(unittest.TestCase):
    def made(self, block, conversations=0, **names):
        """Returns a state whose Main has a block and names, and in which there are some conversations."""
        state = State(program_of(ACTORS + "actor Main() { " + block + " }"))
        for _ in range(conversations):
            state.conversations.create()
        state.put(0, names, state.rest(0))
        return state

    def assert_step(self, state, events, many=1, **names):
        """The step of the actor 0 makes some events, goes behind some statements and leaves names."""
        rest = state.rest(0)
        # True equals 1, so the texts are compared.
        self.assertEqual(repr(step(state, 0)), repr(events))
        self.assertEqual((state.names(0), state.rest(0), state.status(0)), (names, rest[many:], "running"))
        self.assertEqual(repr(sorted(state.names(0).items())), repr(sorted(names.items())))

    def assert_marks(self, state, *expected):
        conversations = state.conversations
        found = [(conversations.mark(number, 0), conversations.mark(number, 1))
                 for number in range(len(conversations))]
        self.assertEqual(found, list(expected))

    def assert_wrong(self, state, why="wrong"):
        with self.assertRaises(Misused) as caught:
            step(state, 0)
        self.assertEqual(caught.exception.why, why)
        self.assertIsInstance(caught.exception, Refused)

    def assert_unknown(self, state, name):
        with self.assertRaises(Unknown) as caught:
            step(state, 0)
        self.assertEqual(caught.exception.name, name)


class LetTest(StepCase):
    def test_values(self):
        for text, value in (("x + 65535", 2), ("x == 3", True), ("p and not p", False), ("0", 0), ("p", True)):
            state = self.made(f"let y = {text}; done;", x=3, p=True)
            self.assert_step(state, [], x=3, p=True, y=value)

    def test_ends_stay(self):
        state = self.made("let y = 1; let z = y + y; done;", 1, c=end(0, 0))
        self.assert_step(state, [], c=end(0, 0), y=1)
        self.assert_step(state, [], c=end(0, 0), y=1, z=2)
        self.assert_marks(state, ("held", "held"))

    def test_names_that_are_not_bound(self):
        self.assert_unknown(self.made("let y = x + z; done;", z=1), "x")
        self.assert_unknown(self.made("let y = z + (x - w); done;", z=1), "x")
        self.assert_unknown(self.made("let y = y; done;"), "y")


class SayTest(StepCase):
    def test_without_a_payload(self):
        state = self.made("say c.l; done;", 2, c=end(1, 0), x=5)
        self.assert_step(state, [("say", 1, 0, "l", None)], c=end(1, 0), x=5)
        self.assertEqual(state.conversations.mailbox(1, 1), [("l", None)])

    def test_numbers_and_truths(self):
        state = self.made("say c.l(x * 2); say c.m(x < 6); say c.l(1); done;", 1, c=end(0, 1), x=5)
        self.assert_step(state, [("say", 0, 1, "l", 10)], c=end(0, 1), x=5)
        self.assert_step(state, [("say", 0, 1, "m", True)], c=end(0, 1), x=5)
        self.assert_step(state, [("say", 0, 1, "l", 1)], c=end(0, 1), x=5)
        self.assertEqual(repr(state.conversations.mailbox(0, 0)), repr([("l", 10), ("m", True), ("l", 1)]))

    def test_a_name_of_a_number_stays(self):
        state = self.made("say c.l(x); done;", 1, c=end(0, 1), x=5)
        self.assert_step(state, [("say", 0, 1, "l", 5)], c=end(0, 1), x=5)

    def test_an_end_leaves_the_names(self):
        state = self.made("say c.l(d); done;", 2, c=end(0, 0), d=end(1, 1), e=end(1, 0))
        self.assert_step(state, [("say", 0, 0, "l", end(1, 1))], c=end(0, 0), e=end(1, 0))
        self.assert_marks(state, ("held", "held"), ("held", "sent"))
        self.assertEqual(state.conversations.mailbox(0, 1), [("l", end(1, 1))])

    def test_a_partner_that_is_gone(self):
        for leave in (lambda one: one.close(0, 1), lambda one: one.drop([end(0, 1)])):
            state = self.made("say c.m(3); say c.l(d); done;", 3, c=end(0, 0), d=end(1, 1))
            leave(state.conversations)
            state.conversations.send(1, 0, "k", end(2, 0))
            self.assert_step(state, [("say", 0, 0, "m", 3)], c=end(0, 0), d=end(1, 1))
            self.assert_step(state, [("say", 0, 0, "l", end(1, 1)), ("drop", 1, 1), ("drop", 2, 0)], c=end(0, 0))
            self.assertEqual(state.conversations.mailbox(0, 1), [])

    def test_no_end(self):
        for names in ({}, {"c": 5}, {"c": False}, {"d": end(0, 0)}):
            self.assert_wrong(self.made("say c.l; done;", 1, **names))
            # The end counts before its expression.
            self.assert_wrong(self.made("say c.l(x); done;", 1, **names))

    def test_names_that_are_not_bound(self):
        self.assert_unknown(self.made("say c.l(x); done;", 1, c=end(0, 0)), "x")
        self.assert_unknown(self.made("say c.l(1 + x); done;", 1, c=end(0, 0)), "x")


class PartingTest(StepCase):
    def test_close(self):
        state = self.made("close c; done;", 2, c=end(0, 1), d=end(1, 1))
        self.assert_step(state, [("close", 0, 1)], d=end(1, 1))
        self.assert_marks(state, ("held", "closed"), ("held", "held"))

    def test_close_with_messages(self):
        state = self.made("close c; done;", 4, c=end(0, 1))
        for payload in (3, end(3, 0), end(1, 1)):
            state.conversations.send(0, 0, "l", payload)
        state.conversations.send(3, 1, "l", end(2, 0))
        self.assert_step(state, [("close", 0, 1), ("drop", 3, 0), ("drop", 1, 1), ("drop", 2, 0)])

    def test_drop(self):
        state = self.made("drop c; done;", 2, c=end(1, 0), x=1)
        self.assert_step(state, [("drop", 1, 0)], x=1)
        self.assert_marks(state, ("held", "held"), ("fallen", "held"))

    def test_drop_with_messages(self):
        state = self.made("drop c; done;", 4, c=end(0, 1))
        for payload in (3, end(3, 0), end(1, 1)):
            state.conversations.send(0, 0, "l", payload)
        state.conversations.send(3, 1, "l", end(2, 0))
        self.assert_step(state, [("drop", 0, 1), ("drop", 3, 0), ("drop", 1, 1), ("drop", 2, 0)])

    def test_no_end(self):
        for word in ("close", "drop"):
            for names in ({}, {"c": 5}, {"c": True}, {"d": end(0, 0)}):
                self.assert_wrong(self.made(word + " c; done;", 1, **names))


class OpenTest(StepCase):
    def assert_child(self, state, actor, name, names):
        found = state.name(actor), state.names(actor), state.rest(actor), state.status(actor)
        self.assertEqual(found, (name, names, state.newest(name)[2], "running"))

    def test_a_new_actor_and_a_new_conversation(self):
        state = self.made("open d = A(x + 1); open e = C(); done;", 1, x=4)
        kind = ("name", "T")
        self.assert_step(state, [("open", 0, 1, 1, kind)], x=4, d=end(1, 0))
        self.assert_child(state, 1, "A", {"c": end(1, 1), "i": 5})
        self.assert_step(state, [("open", 0, 2, 2, ("dual", "E"))], x=4, d=end(1, 0), e=end(2, 0))
        self.assert_child(state, 2, "C", {"c": end(2, 1)})
        self.assert_marks(state, *[("held", "held")] * 3)
        self.assertEqual((state.actors(), state.name(0)), (3, "Main"))

    def test_the_number_of_the_actor_that_opens(self):
        state = self.made("done;")
        state.start(definition_of("actor D() { open d = C(); done; }"), [])
        self.assertEqual(step(state, 1), [("open", 1, 2, 0, ("dual", "E"))])
        self.assertEqual((state.names(0), state.names(1)), ({}, {"d": end(0, 0)}))

    def test_ends_that_are_arguments(self):
        state = self.made("open d = Pass(c); done;", 2, c=end(0, 1), e=end(1, 1))
        self.assert_step(state, [("open", 0, 1, 2, ("name", "T"))], e=end(1, 1), d=end(2, 0))
        self.assert_child(state, 1, "Pass", {"c": end(2, 1), "d": end(0, 1)})
        self.assert_marks(state, *[("held", "held")] * 3)

    def test_the_new_end_may_have_the_name_of_an_argument(self):
        state = self.made("open c = Pass(c); done;", 1, c=end(0, 1))
        self.assert_step(state, [("open", 0, 1, 1, ("name", "T"))], c=end(1, 0))
        self.assert_child(state, 1, "Pass", {"c": end(1, 1), "d": end(0, 1)})

    def test_the_newest_definition(self):
        state = self.made("open d = A(1); done;")
        state.renew(definition_of("actor A(e: More, k: int) { drop e; let x = k; done; }"))
        self.assert_step(state, [("open", 0, 1, 0, ("name", "More"))], d=end(0, 0))
        self.assert_child(state, 1, "A", {"e": end(0, 1), "k": 1})
        state = self.made("open d = A(1, 2); done;")
        state.renew(definition_of("actor A(e: ~More, k: int, l: int) { done; }"))
        self.assert_step(state, [("open", 0, 1, 0, ("dual", "More"))], d=end(0, 0))

    def test_a_definition_that_came_later(self):
        state = self.made("open d = Late(); done;")
        state.renew(definition_of("actor Late(c: T) { done; }"))
        self.assert_step(state, [("open", 0, 1, 0, ("name", "T"))], d=end(0, 0))

    def test_wrong_numbers_of_arguments(self):
        for call in ("A()", "A(1, 2)", "A(c, 1)", "None()", "None(1)", "C(1)"):
            self.assert_wrong(self.made(f"open d = {call}; done;", 1, c=end(0, 0)))
        # The number of the newest definition counts.
        state = self.made("open d = A(1); done;")
        state.renew(definition_of("actor A(c: T, i: int, j: int) { done; }"))
        self.assert_wrong(state)

    def test_names_that_are_not_bound(self):
        self.assert_unknown(self.made("open d = A(x); done;"), "x")
        self.assert_unknown(self.made("open d = A(1 + y * x); done;"), "y")

    def test_the_definition_counts_first_then_the_number(self):
        self.assert_unknown(self.made("open d = Nobody(x, x); done;"), "Nobody")
        self.assert_unknown(self.made("open d = T(x); done;"), "T")
        self.assert_wrong(self.made("open d = A(x, y); done;"))


class LeavingTest(StepCase):
    def assert_finished(self, state, status):
        self.assertEqual((state.status(0), state.names(0), state.rest(0)), (status, {}, ()))
        self.assertEqual(state.running(), [])

    def test_done(self):
        state = self.made("done;", x=1)
        self.assertEqual(step(state, 0), [("done", 0)])
        self.assert_finished(state, "done")

    def test_fail(self):
        state = self.made("fail;", 3, d=end(2, 0), x=1, c=end(0, 1), p=True)
        state.conversations.send(0, 0, "l", end(1, 1))
        self.assertEqual(step(state, 0), [("fall", 0), ("drop", 0, 1), ("drop", 2, 0), ("drop", 1, 1)])
        self.assert_finished(state, "fallen")
        self.assertEqual(step(self.made("fail;"), 0), [("fall", 0)])


class BecomeTest(StepCase):
    def assert_became(self, state, name, names):
        self.assertEqual(step(state, 0), [("become", 0, name)])
        self.assertEqual((state.name(0), state.names(0), state.rest(0)), (name, names, state.newest(name)[2]))
        self.assertEqual((state.actors(), state.running()), (1, [0]))

    def test_values(self):
        self.assert_became(self.made("become B(x + 1, x == 1);", x=1), "B", {"i": 2, "p": True})
        self.assert_became(self.made("become None();", x=1), "None", {})
        self.assert_became(self.made("become Main();", x=1), "Main", {})

    def test_ends(self):
        state = self.made("become Pass(d, c);", 2, c=end(0, 0), d=end(1, 1))
        self.assert_became(state, "Pass", {"c": end(1, 1), "d": end(0, 0)})
        self.assert_marks(state, ("held", "held"), ("held", "held"))

    def test_the_newest_definition(self):
        state = self.made("become None();")
        state.renew(definition_of("actor None() { let x = 1; fail; }"))
        self.assert_became(state, "None", {})
        state = self.made("become Late(true);")
        state.renew(definition_of("actor Late(q: bool) { fail; }"))
        self.assert_became(state, "Late", {"q": True})

    def test_wrong_numbers_of_arguments(self):
        for call in ("B()", "B(1)", "B(1, true, 1)", "None(1)", "Main(1)"):
            self.assert_wrong(self.made(f"become {call};"))
        state = self.made("become None();")
        state.renew(definition_of("actor None(i: int) { done; }"))
        self.assert_wrong(state)

    def test_names_that_are_not_bound(self):
        self.assert_unknown(self.made("become B(x, y);", x=1), "y")
        self.assert_unknown(self.made("become B(y, z);", x=1), "y")

    def test_the_definition_counts_first_then_the_number(self):
        self.assert_unknown(self.made("become Nobody(x);"), "Nobody")
        self.assert_wrong(self.made("become B(x);"))


class IfTest(StepCase):
    def test_blocks(self):
        text = "if x < 3 { let y = x; done; } else { drop c; fail; }"
        for x, block in ((2, 2), (3, 3)):
            state = self.made(text, 1, x=x, c=end(0, 0))
            statement = state.rest(0)[0]
            self.assertEqual(step(state, 0), [])
            self.assertEqual((state.names(0), state.rest(0)), ({"x": x, "c": end(0, 0)}, statement[block]))

    def test_names_that_are_not_bound(self):
        self.assert_unknown(self.made("if p and q { done; } else { done; }", p=True), "q")


class HearTest(StepCase):
    TEXT = "hear c { l: { done; } n(x): { drop c; done; } e(d): { fail; } fall: { let z = 1; done; } }"

    def assert_heard(self, state, event, block, **names):
        statement = state.rest(0)[0]
        self.assertEqual(repr(step(state, 0)), repr([event]))
        self.assertEqual(repr(sorted(state.names(0).items())), repr(sorted(names.items())))
        expected = statement[3] if block is None else statement[2][block][2]
        self.assertEqual((state.rest(0), state.status(0)), (expected, "running"))

    def test_messages(self):
        for label, payload, block, names in (
            ("l", None, 0, {}), ("n", 7, 1, {"x": 7}), ("n", True, 1, {"x": True}),
            ("e", end(1, 0), 2, {"d": end(1, 0)}),
        ):
            state = self.made(self.TEXT, 2, c=end(0, 1), k=4)
            state.conversations.send(0, 0, label, payload)
            self.assert_heard(state, ("hear", 0, 1, label, payload), block, c=end(0, 1), k=4, **names)
            self.assertEqual(state.conversations.mailbox(0, 1), [])
            self.assert_marks(state, ("held", "held"), ("held", "held"))

    def test_the_oldest_message(self):
        state = self.made(self.TEXT, 1, c=end(0, 1))
        state.conversations.send(0, 0, "n", 1)
        state.conversations.send(0, 0, "l", None)
        self.assert_heard(state, ("hear", 0, 1, "n", 1), 1, c=end(0, 1), x=1)
        self.assertEqual(state.conversations.mailbox(0, 1), [("l", None)])

    def test_a_message_of_a_partner_that_is_gone(self):
        for leave in (lambda one: one.close(0, 0), lambda one: one.drop([end(0, 0)])):
            state = self.made(self.TEXT, 1, c=end(0, 1))
            state.conversations.send(0, 0, "l", None)
            leave(state.conversations)
            self.assert_heard(state, ("hear", 0, 1, "l", None), 0, c=end(0, 1))

    def test_told_of_the_fall(self):
        state = self.made(self.TEXT, 2, c=end(0, 1), d=end(1, 1), x=3)
        state.conversations.drop([end(0, 0)])
        self.assert_heard(state, ("told", 0, 1), None, d=end(1, 1), x=3)
        self.assert_marks(state, ("fallen", "closed"), ("held", "held"))

    def test_no_end(self):
        for names in ({}, {"c": 5}, {"c": True}, {"d": end(0, 1)}):
            self.assert_wrong(self.made(self.TEXT, 1, **names))

    def test_no_branch(self):
        for label in ("m", "x", "fall", "L"):
            state = self.made(self.TEXT, 1, c=end(0, 1))
            state.conversations.send(0, 0, label, 1)
            self.assert_wrong(state)


class NotReadyTest(StepCase):
    def assert_not_ready(self, state, *actors):
        before = state.snapshot()
        for actor in actors:
            with self.assertRaises(Misused) as caught:
                step(state, actor)
            self.assertEqual(caught.exception.why, "ready")
            self.assertEqual(state.snapshot(), before)

    def test_waiting(self):
        state = self.made(HearTest.TEXT, 1, c=end(0, 1))
        self.assert_not_ready(state, 0)
        state.conversations.close(0, 0)
        self.assert_not_ready(state, 0)

    def test_finished(self):
        for text in ("done;", "fail;"):
            state = self.made(text)
            step(state, 0)
            self.assert_not_ready(state, 0)

    def test_actors_that_do_not_exist(self):
        self.assert_not_ready(self.made("done;"), 1, 2, 1000, -1)


class FallTest(StepCase):
    def test_ends_fall_in_ascending_order(self):
        state = self.made("done;", 12, z=end(2, 1), x=1, d=end(10, 0), b=end(2, 0), a=end(1, 1))
        state.conversations.send(1, 0, "l", end(11, 0))
        state.conversations.send(2, 0, "l", end(3, 1))
        expected = [(1, 1), (2, 0), (2, 1), (10, 0), (11, 0), (3, 1)]
        self.assertEqual(fall(state, 0), [("fall", 0)] + [("drop", *one) for one in expected])
        self.assertEqual((state.status(0), state.names(0), state.rest(0)), ("fallen", {}, ()))
        self.assertEqual([state.conversations.mark(*one) for one in expected], ["fallen"] * 6)

    def test_no_ends(self):
        state = self.made("done;", x=1)
        state.start(definition_of("actor D() { done; }"), [])
        self.assertEqual(fall(state, 1), [("fall", 1)])
        self.assertEqual((state.running(), state.status(1)), ([0], "fallen"))

    def test_an_actor_that_waits(self):
        state = self.made(HearTest.TEXT, 1, c=end(0, 1))
        self.assertEqual(fall(state, 0), [("fall", 0), ("drop", 0, 1)])

    def assert_nothing(self, state, *actors):
        before = state.snapshot()
        for actor in actors:
            self.assertEqual(fall(state, actor), [])
            self.assertEqual(state.snapshot(), before)

    def test_actors_that_do_not_exist(self):
        self.assert_nothing(self.made("done;", 1, c=end(0, 0)), 1, 2, 1000, -1)

    def test_actors_that_are_not_running(self):
        state = self.made("done;", 1, c=end(0, 0))
        fall(state, 0)
        self.assert_nothing(state, 0)
        state = self.made("done;")
        step(state, 0)
        self.assert_nothing(state, 0)


# After two turns, three actors go round for ever.
ROUND = """
talk T = end;
actor Spin(c: T) { become Spin(c); }
actor Keep(d: ~T, e: ~T) { become Keep(d, e); }
actor Main() { open d = Spin(); open e = Spin(); become Keep(d, e); }
"""
NEW_RUN = "actor Run(i: int) { done; }"


class RunTest(unittest.TestCase):
    def run_text(self, text, **plan):
        """Runs a program; the arguments must stay as they were."""
        program = program_of(text)
        before = repr((plan, program.talks(), program.actors()))
        state, events = run(program, **plan)
        self.assertEqual(repr((plan, program.talks(), program.actors())), before)
        self.assertIsInstance(state, State)
        self.assertIs(state.program, program)
        self.assertIsInstance(events, list)
        return state, events

    def test_example(self):
        text = ("talk T = hear { l(int): end }; actor A(c: T) { hear c { l(x): { close c; done; } fall: { done; } } } "
                "actor Main() { open d = A(); say d.l(7); close d; done; }")
        self.assertEqual(self.run_text(text)[1], [
            ("open", 0, 1, 0, ("name", "T")), ("say", 0, 0, "l", 7), ("close", 0, 0), ("done", 0),
            ("hear", 0, 1, "l", 7), ("close", 0, 1), ("done", 1)])

    def test_without_arguments(self):
        state, events = self.run_text("actor Main() { become Main(); }")
        self.assertEqual(events, [("become", 0, "Main")] * 100)
        self.assertEqual((state.status(0), state.name(0)), ("running", "Main"))

    def test_no_main(self):
        with self.assertRaises(Unknown) as caught:
            run(program_of("actor A() { done; }"))
        self.assertEqual(caught.exception.name, "Main")
        with self.assertRaises(Misused) as caught:
            run(program_of("actor Main(i: int) { done; }"), limit=0)
        self.assertEqual(caught.exception.why, "Main")

    def test_the_arguments_are_named(self):
        with self.assertRaises(TypeError):
            run(program_of("actor Main() { done; }"), [0])

    def test_the_limit(self):
        for limit in (0, 1, 2, 7, 250):
            state, events = self.run_text("actor Main() { become Main(); }", limit=limit)
            self.assertEqual(events, [("become", 0, "Main")] * limit)
        state, events = self.run_text("actor Main() { let x = 1; let y = 2; done; }", limit=2)
        self.assertEqual((events, state.names(0), state.running()), ([], {"x": 1, "y": 2}, [0]))
        self.assertEqual(self.run_text("actor Main() { let x = 1; done; }", limit=2)[1], [("done", 0)])

    def test_the_schedule(self):
        for numbers, expected in (
            ([0, 1, 2, 0], [0, 1, 2, 0, 0, 0]), ([2, 2, 1], [2, 2, 1, 0, 0, 0]), ([3, 4, 5, 6], [0, 1, 2, 0, 0, 0]),
            ([1000, 1001, 302, 2, 2, 1, 0], [1, 2, 2, 2, 2, 1]), ([], [0, 0, 0, 0, 0, 0]),
        ):
            events = self.run_text(ROUND, schedule=[0, 0] + numbers, limit=8)[1][2:]
            self.assertEqual([event[:2] for event in events], [("become", actor) for actor in expected])
        # The turns of the two opens count, too: only the actors that are there by then are counted.
        events = self.run_text(ROUND, schedule=[7, 2, 2], limit=4)[1]
        self.assertEqual([event[:2] for event in events], [("open", 0), ("open", 0), ("become", 2), ("become", 0)])

    def test_the_index_is_taken_from_the_ready_actors(self):
        text = """
        talk T = hear { n(int): T };
        actor Wait(c: T) { hear c { n(x): { become Wait(c); } fall: { done; } } }
        actor Spin(c: T) { drop c; become Turn(); }
        actor Turn() { become Turn(); }
        actor Main() { open d = Wait(); open e = Spin(); open f = Wait(); become Keep(d, e, f); }
        actor Keep(d: ~T, e: ~T, f: ~T) { become Keep(d, e, f); }
        """
        # The actors 1 and 3 wait for ever, so the ready ones are 0 and 2.
        schedule = [0, 0, 0, 0, 1, 1] + [1, 0, 3, 2, 5, 7, 4]
        found = self.run_text(text, schedule=schedule, limit=13)[1][6:]
        self.assertEqual([event[:2] for event in found], [("become", actor) for actor in (2, 0, 2, 0, 2, 2, 0)])

    def test_a_schedule_that_is_longer_than_the_run(self):
        self.assertEqual(self.run_text("actor Main() { done; }", schedule=[5, 1, 1, 1])[1], [("done", 0)])
        self.assertEqual(self.run_text("actor Main() { become Main(); }", schedule=[5, 1, 1, 1], limit=2)[1],
                         [("become", 0, "Main")] * 2)

    def test_falls(self):
        text = "talk T = end; actor A(c: T) { become A(c); } actor Main() { open d = A(); become B(d); } " \
               "actor B(d: ~T) { become B(d); }"
        _, events = self.run_text(text, falls=[(3, 1), (2, 5), (4, 1), (4, -1), (5, 0), (5, 0)], limit=20)
        self.assertEqual(events, [
            ("open", 0, 1, 0, ("name", "T")), ("become", 0, "B"), ("become", 0, "B"),
            ("fall", 1), ("drop", 0, 1), ("become", 0, "B"), ("become", 0, "B"), ("fall", 0), ("drop", 0, 0)])
        # The falls of a turn come in their order, and before its step.
        _, events = self.run_text(text, falls=[(2, 1), (2, 0)], schedule=[0, 0, 1])
        self.assertEqual(events[2:], [("fall", 1), ("drop", 0, 1), ("fall", 0), ("drop", 0, 0)])
        _, events = self.run_text(text, falls=[(2, 0), (1, 0), (2, 1)])
        self.assertEqual(events[1:3], [("fall", 0), ("drop", 0, 0)])

    def test_an_actor_that_was_opened_in_the_turn_before(self):
        text = "talk T = end; actor A(c: T) { close c; done; } actor Main() { open d = A(); close d; done; }"
        self.assertEqual(self.run_text(text, falls=[(0, 1), (1, 1)])[1], [
            ("open", 0, 1, 0, ("name", "T")), ("fall", 1), ("drop", 0, 1), ("close", 0, 0), ("done", 0)])

    def test_a_turn_without_a_ready_actor(self):
        # The checker does not accept this program: it waits for itself.
        text = "talk T = hear { l: end }; actor A(c: T) { done; } " \
               "actor Main() { open d = A(); hear d { fall: { done; } } }"
        state, events = self.run_text(text, falls=[(4, 0), (9, 0)])
        self.assertEqual(events, [("open", 0, 1, 0, ("name", "T")), ("done", 1), ("fall", 0), ("drop", 0, 0)])
        self.assertEqual(self.run_text(text, limit=4)[0].running(), [0])

    def test_the_end_of_a_run(self):
        text = "actor A(i: int) { done; } actor Main() { done; }"
        # Nothing is replaced and nobody falls in a turn before which no actor is running.
        replaced = definition_of("actor A(j: int) { fail; }")
        state, events = self.run_text(text, falls=[(1, 0)], replacements=[(1, replaced)])
        self.assertEqual((events, state.newest("A")), ([("done", 0)], program_of(text).actor("A")))
        state, events = self.run_text(text, falls=[(0, 0)], replacements=[(0, replaced)])
        self.assertEqual((events, state.newest("A")), ([("fall", 0)], replaced))
        state, _ = self.run_text(text, replacements=[(0, replaced)], limit=0)
        self.assertEqual(state.newest("A"), program_of(text).actor("A"))

    def test_replacements(self):
        text = "actor Run(i: int) { become Run(i + 1); } actor Main() { become Run(0); }"
        one, two = definition_of("actor Run(i: int) { become Run(i + 2); }"), definition_of(NEW_RUN)
        state, events = self.run_text(text, replacements=[(3, one)], limit=6)
        # The block of the actor stays the old one until the actor becomes the definition again.
        self.assertEqual((events[-1], state.names(0), state.newest("Run")), (("become", 0, "Run"), {"i": 7}, one))
        _, events = self.run_text(text, replacements=[(3, two)])
        self.assertEqual(events, [("become", 0, "Run")] * 4 + [("done", 0)])

    def test_replacements_of_a_turn_come_in_order_and_before_the_step(self):
        text = "actor Run(i: int) { become Run(i + 1); } actor Main() { become Run(0); }"
        one, two = definition_of("actor Run(i: int) { fail; }"), definition_of(NEW_RUN)
        for pair, last in (([one, two], ("done", 0)), ([two, one], ("fall", 0))):
            _, events = self.run_text(text, replacements=[(2, definition) for definition in pair])
            self.assertEqual(events, [("become", 0, "Run")] * 3 + [last])
        _, events = self.run_text(text, replacements=[(9, one), (0, two)])
        self.assertEqual(events, [("become", 0, "Run"), ("done", 0)])

    def test_replacements_that_are_refused(self):
        text = "talk T = end; actor Run(i: int) { become Run(i + 1); } actor Main() { become Run(0); }"
        refused = ["actor Run(i: bool) { done; }", "actor Run() { done; }", "actor Run(i: int, j: int) { done; }",
                   "actor Main() { done; }", "actor Nobody(i: int) { done; }", "actor Run(i: int) { close i; done; }",
                   "actor Run(c: U) { done; }", "actor Run(i: int) { become Nobody(i); }"]
        replacements = [(turn, definition_of(one)) for turn, one in enumerate(refused)]
        state, events = self.run_text(text, replacements=replacements, limit=20)
        self.assertEqual(events, [("become", 0, "Run")] * 20)
        self.assertEqual(state.newest("Run"), program_of(text).actor("Run"))
        # A refused one does not stop the others of its turn.
        accepted = definition_of(NEW_RUN)
        _, events = self.run_text(text, replacements=[(1, replacements[0][1]), (1, accepted), (1, replacements[1][1])])
        self.assertEqual(events, [("become", 0, "Run")] * 2 + [("done", 0)])

    def test_a_replacement_is_compared_with_the_definition_of_the_program(self):
        talks = "talk T = hear { a: end }; talk More = hear { a: end, b: end }; "
        text = talks + "actor A(c: T) { drop c; done; } actor Main() { open d = A(); drop d; done; }"
        more, own = definition_of("actor A(c: More) { fail; }"), definition_of("actor A(c: T) { fail; }")
        state, events = self.run_text(text, replacements=[(0, more)])
        self.assertEqual((events[0], state.newest("A")), (("open", 0, 1, 0, ("name", "More")), more))
        state, events = self.run_text(text, replacements=[(0, more), (0, own)])
        self.assertEqual((events[0], state.newest("A")), (("open", 0, 1, 0, ("name", "T")), own))

    def test_replacements_come_before_the_falls(self):
        # A replacement counts in a turn in which all actors fall.
        text = "actor A(i: int) { done; } actor Main() { become Main(); }"
        replaced = definition_of("actor A(i: int) { fail; }")
        state, events = self.run_text(text, replacements=[(5, replaced)], falls=[(5, 0)])
        self.assertEqual((events[5:], state.newest("A")), ([("fall", 0)], replaced))


if __name__ == "__main__":
    unittest.main()
