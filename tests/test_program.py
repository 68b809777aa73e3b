"""Promise 4.1."""

import unittest

from pourparler.errors import Clashing, Malformed, Oversized, Unknown
from pourparler.program import Program, program_of

END = ("end",)
MAIN = ("Main", (), (("done", 0),), 0)
OTHER = ("Other", (("c", ("name", "T")),), (("fail", 3),), 2)


class ProgramCase(unittest.TestCase):
    def assert_named(self, error, name, call, *arguments):
        with self.assertRaises(error) as caught:
            call(*arguments)
        self.assertEqual(caught.exception.name, name)


class ProgramTest(ProgramCase):
    def test_empty(self):
        program = Program()
        self.assertEqual((program.talks(), program.table(), program.actors()), ([], {}, []))
        self.assertIs(program.has_talk("T"), False)
        self.assertIs(program.has_actor("T"), False)
        self.assert_named(Unknown, "T", program.talk, "T")
        self.assert_named(Unknown, "Main", program.actor, "Main")

    def test_what_was_added(self):
        program = Program()
        program.add_talk("T", END)
        program.add_actor(MAIN)
        self.assertEqual(program.talk("T"), END)
        self.assertEqual(program.actor("Main"), MAIN)
        self.assertIs(program.has_talk("T"), True)
        self.assertIs(program.has_actor("Main"), True)

    def test_order_of_adding(self):
        program = Program()
        for name in ("Z", "A", "M"):
            program.add_talk(name, ("name", name))
            program.add_actor((name, (), (("done", 0),), 0))
        self.assertEqual(program.talks(), [("Z", ("name", "Z")), ("A", ("name", "A")), ("M", ("name", "M"))])
        self.assertEqual(list(program.table().items()), program.talks())
        self.assertEqual([definition[0] for definition in program.actors()], ["Z", "A", "M"])

    def test_separate_names(self):
        program = Program()
        program.add_talk("Main", END)
        self.assertIs(program.has_actor("Main"), False)
        self.assert_named(Unknown, "Main", program.actor, "Main")
        program.add_actor(MAIN)
        program.add_actor(OTHER)
        self.assertIs(program.has_talk("Other"), False)
        self.assert_named(Unknown, "Other", program.talk, "Other")
        self.assertEqual(program.talk("Main"), END)
        self.assertEqual(program.actor("Main"), MAIN)

    def test_clashing(self):
        program = Program()
        program.add_talk("T", END)
        program.add_actor(MAIN)
        self.assert_named(Clashing, "T", program.add_talk, "T", ("dual", "T"))
        self.assert_named(Clashing, "T", program.add_talk, "T", END)
        self.assert_named(Clashing, "Main", program.add_actor, ("Main", (), (("fail", 1),), 1))
        self.assertEqual(program.talks(), [("T", END)])
        self.assertEqual(program.actors(), [MAIN])

    def test_answers_may_be_changed(self):
        program = program_of("talk T = end; actor Main() { done; }")
        program.talks().append(("U", END))
        program.talks().clear()
        program.table()["U"] = END
        program.table().clear()
        program.actors().append(OTHER)
        program.actors().clear()
        self.assertEqual(program.talks(), [("T", END)])
        self.assertEqual(program.table(), {"T": END})
        self.assertEqual([definition[0] for definition in program.actors()], ["Main"])
        self.assertIs(program.has_talk("U"), False)
        self.assertIs(program.has_actor("Other"), False)

    def test_programs_are_independent(self):
        one, two = Program(), Program()
        one.add_talk("T", END)
        one.add_actor(MAIN)
        self.assertEqual((two.talks(), two.actors()), ([], []))


class ProgramOfTest(ProgramCase):
    def test_example(self):
        program = program_of("talk T = end; actor Main() { done; }")
        self.assertEqual([program.talk("T"), program.actor("Main")], [END, ("Main", (), (("done", 29),), 14)])

    def test_empty_text(self):
        program = program_of(" # nothing")
        self.assertEqual((program.talks(), program.actors()), ([], []))

    def test_order(self):
        program = program_of("talk B = A; actor Y() { done; } talk A = end; actor X() { done; } actor B() { fail; }")
        self.assertEqual(program.talks(), [("B", ("name", "A")), ("A", END)])
        self.assertEqual([definition[0] for definition in program.actors()], ["Y", "X", "B"])

    def test_clashing(self):
        self.assert_named(Clashing, "T", program_of, "talk T = end; actor A() { done; } talk T = end;")
        self.assert_named(Clashing, "A", program_of, "actor A() { done; } talk T = end; actor A() { done; }")
        # The first item whose name was used before for its kind.
        twice = "actor A() { done; } talk T = end; actor A() { done; } talk T = end;"
        self.assert_named(Clashing, "A", program_of, twice)

    def test_errors_of_the_parser(self):
        with self.assertRaises(Malformed) as caught:
            program_of("talk T = end; talk T = end; talk")
        self.assertEqual(caught.exception.at, 32)
        with self.assertRaises(Oversized):
            program_of("talk T = " + "say { a: " * 30)
        with self.assertRaises(Oversized):
            program_of(" " * 20001)


if __name__ == "__main__":
    unittest.main()
