"""Promises 40.1 to 40.3."""

import unittest

from pourparler.code import SILENT, Code, code_text, is_effect

ROWS = (("sum", 3, 3), ("stop", None, 5))
# Each instruction with its text.
SILENT_ONES = {
    ("push", 7): "push 7", ("push", 65535): "push 65535", ("get", 0): "get 0", ("get", 12): "get 12",
    ("apply", "add"): "apply add", ("apply", "not"): "apply not",
}
EFFECTS = {
    ("set", 1): "set 1", ("say", 2, "add", 1): "say 2 add 1", ("say", 0, "stop", 0): "say 0 stop 0",
    ("hear", 0, ROWS, 6): "hear 0 sum:3->3,stop->5 6", ("hear", 10, (("a", None, 11),), 12): "hear 10 a->11 12",
    ("hear", 1, (("a", 0, 2),), 40): "hear 1 a:0->2 40",
    ("hear", 1, (("c", None, 2), ("a", None, 3), ("b", 14, 25)), 40): "hear 1 c->2,a->3,b:14->25 40",
    ("close", 0): "close 0", ("drop", 11): "drop 11", ("open", 3, "Adder", 2): "open 3 Adder 2",
    ("become", "Main", 0): "become Main 0", ("test", 100): "test 100", ("done",): "done", ("fail",): "fail",
}


class EffectTest(unittest.TestCase):
    def test_silent(self):
        self.assertEqual(SILENT, ("push", "get", "apply"))
        for instruction in [*SILENT_ONES, ("push", True), ("push", False)]:
            self.assertIs(is_effect(instruction), False, instruction)

    def test_effects(self):
        for instruction in EFFECTS:
            self.assertIs(is_effect(instruction), True, instruction)


class CodeTest(unittest.TestCase):
    def test_attributes(self):
        code = Code("Adder", 2, 5, [("push", 1), ("set", 4), ("done",)])
        self.assertEqual((code.name, code.size, code.slots), ("Adder", 2, 5))
        self.assertEqual(code.instructions, [("push", 1), ("set", 4), ("done",)])
        self.assertIsInstance(code.instructions, list)

    def test_the_argument_stays(self):
        given = [("done",)]
        Code("A", 0, 0, given).instructions.append(("fail",))
        self.assertEqual(given, [("done",)])


class TextTest(unittest.TestCase):
    def assert_text(self, instructions, *lines):
        code = Code("A", 0, 9, instructions)
        self.assertEqual(code_text(code), "".join(line + "\n" for line in lines))
        self.assertEqual(code.instructions, list(instructions))

    def test_each_instruction(self):
        for instruction, text in (SILENT_ONES | EFFECTS).items():
            self.assert_text([instruction], "0: " + text)

    def test_truths(self):
        # They equal 1 and 0, which are written in another way.
        self.assert_text([("push", True), ("push", False), ("push", 1), ("push", 0)],
                         "0: push True", "1: push False", "2: push 1", "3: push 0")

    def test_example(self):
        self.assert_text([("get", 0), ("say", 2, "add", 1), ("hear", 0, ROWS, 6)],
                         "0: get 0", "1: say 2 add 1", "2: hear 0 sum:3->3,stop->5 6")

    def test_places(self):
        self.assert_text([("done",)] * 101, *[str(place) + ": done" for place in range(101)])

    def test_no_instructions(self):
        self.assertEqual(code_text(Code("A", 0, 0, [])), "")


if __name__ == "__main__":
    unittest.main()
