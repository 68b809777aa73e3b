"""Promises 32.1 to 32.3."""

import unittest

from pourparler.errors import Misused, Unknown
from pourparler.mailboxes import Conversations
from pourparler.parser import parse
from pourparler.program import program_of
from pourparler.state import State

TEXT = """
talk T = hear { a: end, n(int): T };
actor A(c: T, i: int) { hear c { a: { close c; done; } n(x): { become A(c, x); } fall: { done; } } }
actor B(i: int) { let j = i; done; }
actor Main() { open d = A(1); say d.a; close d; done; }
"""
DONE = (("done", 0),)


def definition_of(text):
    return parse(text)[0][1]


LATE = definition_of("actor Late(p: bool) { fail; }")


def end(conversation, side):
    return ("end", conversation, side)


class StateCase(unittest.TestCase):
    def setUp(self):
        self.program = program_of(TEXT)
        self.state = State(self.program)
        self.state.renew(LATE)

    def assert_actor(self, actor, name, names, rest, status="running"):
        state = self.state
        found = state.name(actor), state.names(actor), state.rest(actor), state.status(actor)
        self.assertEqual(found, (name, names, rest, status))
        self.assertIsInstance(state.rest(actor), tuple)

    def block(self, name):
        return self.program.actor(name)[2]


class StartTest(StateCase):
    def test_the_first_actor(self):
        state = State(self.program)
        self.assertEqual((state.actors(), state.running(), state.ready()), (1, [0], [0]))
        self.assert_actor(0, "Main", {}, self.block("Main"))
        self.assertIsInstance(state.conversations, Conversations)
        self.assertEqual(len(state.conversations), 0)

    def test_the_program(self):
        self.assertIs(self.state.program, self.program)
        self.assertIsInstance(vars(State)["program"], property)

    def test_no_main(self):
        for text in ("", "actor A() { done; }", "talk Main = end; actor A() { done; }"):
            with self.assertRaises(Unknown) as caught:
                State(program_of(text))
            self.assertEqual(caught.exception.name, "Main")

    def test_main_with_parameters(self):
        for parameters in ("i: int", "c: T", "p: bool, q: bool"):
            with self.assertRaises(Misused) as caught:
                State(program_of(f"talk T = end; actor Main({parameters}) {{ done; }}"))
            self.assertEqual(caught.exception.why, "Main")

    def test_states_of_one_program_are_independent(self):
        other = State(self.program)
        other.conversations.create()
        other.renew(definition_of("actor B(i: int) { fail; }"))
        other.finish(0, "done")
        self.assert_actor(0, "Main", {}, self.block("Main"))
        self.assertEqual(len(self.state.conversations), 0)
        self.assertEqual(self.state.newest("B"), self.program.actor("B"))


class NewestTest(StateCase):
    def test_those_of_the_program(self):
        for name in ("A", "B", "Main"):
            self.assertEqual(self.state.newest(name), self.program.actor(name))

    def test_the_one_that_was_given_last(self):
        one, two = definition_of("actor B(i: int) { fail; }"), definition_of("actor B(p: bool, q: bool) { done; }")
        self.state.renew(one)
        self.assertEqual(self.state.newest("B"), one)
        self.state.renew(two)
        self.assertEqual(self.state.newest("B"), two)
        self.state.renew(one)
        self.assertEqual(self.state.newest("B"), one)
        self.assertEqual(self.state.newest("A"), self.program.actor("A"))
        # The program stays as it was.
        self.assertEqual(self.program.actor("B"), program_of(TEXT).actor("B"))

    def test_a_new_name(self):
        self.assertEqual(self.state.newest("Late"), LATE)
        self.assertIs(self.program.has_actor("Late"), False)

    def test_unknown_names(self):
        for name in ("T", "Nobody", "main", ""):
            with self.assertRaises(Unknown) as caught:
                self.state.newest(name)
            self.assertEqual(caught.exception.name, name)

    def test_actors_keep_what_they_have(self):
        number = self.state.start(self.program.actor("B"), [5])
        self.state.renew(definition_of("actor B(j: int) { fail; }"))
        self.assert_actor(number, "B", {"i": 5}, self.block("B"))


class ActorsTest(StateCase):
    def test_start(self):
        self.assertEqual(self.state.start(self.program.actor("B"), [5]), 1)
        self.assertEqual(self.state.start(self.program.actor("A"), [end(0, 1), 65535]), 2)
        self.assertEqual(self.state.start(self.state.newest("Late"), [True]), 3)
        self.assertEqual((self.state.actors(), self.state.running()), (4, [0, 1, 2, 3]))
        self.assert_actor(1, "B", {"i": 5}, self.block("B"))
        self.assert_actor(2, "A", {"c": end(0, 1), "i": 65535}, self.block("A"))
        self.assert_actor(3, "Late", {"p": True}, LATE[2])
        self.assert_actor(0, "Main", {}, self.block("Main"))

    def test_numbers_go_on_after_actors_are_finished(self):
        self.state.start(self.program.actor("B"), [5])
        self.state.finish(1, "done")
        self.state.finish(0, "fallen")
        self.assertEqual(self.state.start(self.program.actor("B"), [6]), 2)
        self.assertEqual((self.state.actors(), self.state.running()), (3, [2]))

    def test_put(self):
        self.state.start(self.program.actor("B"), [5])
        self.state.put(1, {"x": False, "c": end(2, 0)}, DONE)
        self.assert_actor(1, "B", {"x": False, "c": end(2, 0)}, DONE)
        self.assert_actor(0, "Main", {}, self.block("Main"))

    def test_rename(self):
        self.state.start(self.program.actor("B"), [5])
        self.state.rename(1, self.program.actor("A"), [end(0, 1), 7])
        self.assert_actor(1, "A", {"c": end(0, 1), "i": 7}, self.block("A"))
        self.state.rename(1, self.state.newest("Late"), [False])
        self.assert_actor(1, "Late", {"p": False}, LATE[2])
        self.assertEqual(self.state.actors(), 2)

    def test_finish(self):
        for status in ("done", "fallen"):
            number = self.state.start(self.program.actor("B"), [5])
            self.state.put(number, {"i": 5, "c": end(0, 0)}, self.block("B"))
            self.state.finish(number, status)
            self.assert_actor(number, "B", {}, (), status)
        self.assertEqual((self.state.running(), self.state.ready()), ([0], [0]))

    def test_names_are_a_copy(self):
        number = self.state.start(self.program.actor("B"), [5])
        names = self.state.names(number)
        names["i"] = 6
        names["x"] = 7
        self.assertEqual(self.state.names(number), {"i": 5})
        self.state.names(0)["x"] = 1
        self.assertEqual(self.state.names(0), {})

    def test_arguments_stay_as_they_were(self):
        names, values = {"x": 1}, [5]
        number = self.state.start(self.program.actor("B"), values)
        self.state.put(0, names, DONE)
        names["y"] = 2
        values.append(6)
        self.assertEqual((self.state.names(0), self.state.names(number)), ({"x": 1}, {"i": 5}))
        self.state.rename(0, self.program.actor("B"), values[:1])
        self.assertEqual(names, {"x": 1, "y": 2})
        self.state.finish(number, "done")
        self.assertEqual(values, [5, 6])


class ReadyTest(StateCase):
    """The actors 1 and 2 hear at both sides of the conversation 0, and the actor 3 at a side of the conversation 1."""

    def setUp(self):
        super().setUp()
        self.conversations = self.state.conversations
        for held in (end(0, 0), end(0, 1), end(1, 1)):
            self.state.start(self.program.actor("A"), [held, 0])
        for _ in range(3):
            self.conversations.create()

    def assert_ready(self, *expected):
        self.assertEqual(self.state.ready(), list(expected))
        self.assertEqual(self.state.running(), [0, 1, 2, 3])

    def test_an_empty_mailbox(self):
        self.assert_ready(0)

    def test_a_message(self):
        self.conversations.send(0, 0, "a", None)
        self.assert_ready(0, 2)
        self.conversations.send(1, 0, "a", None)
        self.assert_ready(0, 2, 3)
        self.conversations.hear(0, 1)
        self.assert_ready(0, 3)

    def test_a_label_without_a_branch_is_a_message_too(self):
        self.conversations.send(0, 0, "other", 3)
        self.assert_ready(0, 2)

    def test_a_partner_that_is_sent(self):
        self.conversations.send(2, 0, "take", end(1, 0))
        self.assertEqual(self.conversations.mark(1, 0), "sent")
        self.assert_ready(0)

    def test_a_partner_that_is_closed(self):
        self.conversations.close(1, 0)
        self.assert_ready(0)

    def test_a_partner_that_is_fallen(self):
        self.conversations.drop([end(1, 0)])
        self.assert_ready(0, 3)

    def test_a_message_of_a_partner_that_is_fallen(self):
        self.conversations.send(1, 0, "a", None)
        self.conversations.drop([end(1, 0)])
        self.assert_ready(0, 3)

    def test_only_the_next_statement_counts(self):
        self.state.put(3, self.state.names(3), (("let", "x", ("int", 1), 0),) + self.state.rest(3))
        self.assert_ready(0, 3)

    def test_a_hear_of_no_end(self):
        # It does not wait: its step goes wrong.
        for names in ({}, {"c": 5}, {"c": True}, {"d": end(1, 1)}):
            self.state.put(3, names, self.state.rest(3))
            self.assert_ready(0, 3)

    def test_no_statement(self):
        self.state.put(3, self.state.names(3), ())
        self.assert_ready(0, 3)

    def test_actors_that_are_not_running(self):
        self.conversations.send(0, 0, "a", None)
        self.conversations.send(1, 0, "a", None)
        self.state.finish(0, "done")
        self.state.finish(2, "fallen")
        self.assertEqual((self.state.ready(), self.state.running()), ([3], [1, 3]))
        self.state.finish(1, "done")
        self.state.finish(3, "done")
        self.assertEqual((self.state.ready(), self.state.running()), ([], []))


class SnapshotTest(StateCase):
    def test_a_tuple_that_tells_of_each_change(self):
        state, number = self.state, self.state.start(self.program.actor("B"), [5])
        seen = [state.snapshot()]
        for change in (
            lambda: state.put(number, {"i": 6}, self.block("B")),
            lambda: state.put(number, {"j": 6}, self.block("B")),
            lambda: state.put(number, {"j": 6, "k": 6}, self.block("B")),
            lambda: state.put(number, {"j": 6, "k": end(0, 1)}, self.block("B")),
            lambda: state.put(number, {"j": 6}, self.block("B")[1:]),
            lambda: state.rename(number, ("C", (("j", "int"),), self.block("B")[1:], 0), [6]),
            lambda: state.start(self.program.actor("B"), [5]),
            lambda: state.finish(number, "done"), lambda: state.finish(2, "fallen"),
            state.conversations.create, lambda: state.conversations.send(0, 0, "a", 5),
        ):
            change()
            self.assertIsInstance(state.snapshot(), tuple)
            hash(state.snapshot())
            self.assertNotIn(state.snapshot(), seen)
            seen.append(state.snapshot())

    def test_equal_states(self):
        other = State(program_of(TEXT))
        self.assertEqual(self.state.snapshot(), other.snapshot())
        for state, names in ((self.state, {"x": 1, "c": end(0, 0), "p": True}),
                             (other, {"p": True, "x": 1, "c": end(0, 0)})):
            state.put(0, names, DONE)
            state.conversations.create()
        self.assertEqual(self.state.snapshot(), other.snapshot())
        self.state.finish(0, "done")
        self.assertNotEqual(self.state.snapshot(), other.snapshot())
        other.put(0, {}, DONE)
        other.finish(0, "done")
        self.assertEqual(self.state.snapshot(), other.snapshot())

    def test_definitions_do_not_count(self):
        before = self.state.snapshot()
        self.state.renew(definition_of("actor B(i: int) { fail; }"))
        self.assertEqual(self.state.snapshot(), before)

    def test_a_snapshot_stays(self):
        before = self.state.snapshot()
        self.state.put(0, {"x": 1}, DONE)
        self.state.conversations.create()
        self.assertEqual(before, State(self.program).snapshot())


class TwinTest(StateCase):
    def change(self, state):
        state.put(0, {"x": 2}, DONE)
        state.start(self.program.actor("B"), [5])
        state.conversations.send(0, 0, "a", 9)
        state.conversations.create()
        state.renew(definition_of("actor B(i: int) { fail; }"))

    def assert_apart(self, changed, other):
        before = other.snapshot()
        self.change(changed)
        self.assertEqual((other.snapshot(), other.actors(), len(other.conversations)), (before, 2, 1))
        self.assertEqual(other.conversations.mailbox(0, 1), [])
        self.assertEqual(other.newest("B"), self.program.actor("B"))
        self.assertEqual(changed.newest("B"), definition_of("actor B(i: int) { fail; }"))
        changed.finish(1, "fallen")
        self.assertEqual((other.snapshot(), other.status(1)), (before, "running"))

    def setUp(self):
        super().setUp()
        self.state.conversations.create()
        self.state.start(self.program.actor("A"), [end(0, 1), 3])
        self.state.put(0, {"d": end(0, 0)}, self.block("Main")[1:])

    def test_the_same_at_first(self):
        other = self.state.twin()
        self.assertIsInstance(other, State)
        self.assertEqual(other.snapshot(), self.state.snapshot())
        self.assertIs(other.program, self.program)
        self.assertEqual(other.newest("Late"), self.state.newest("Late"))
        self.assertEqual((other.ready(), other.running()), ([0], [0, 1]))

    def test_changes_of_the_twin(self):
        self.assert_apart(self.state.twin(), self.state)

    def test_changes_of_the_first(self):
        self.assert_apart(self.state, self.state.twin())


if __name__ == "__main__":
    unittest.main()
