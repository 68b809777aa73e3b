"""Promises 23.1 and 23.2."""

import unittest

from pourparler.parser import parse
from pourparler.program import program_of
from pourparler.replacing import may_replace, refusal

PROGRAM = """
talk T = hear { a: end, n(int): T };
talk More = hear { a: end, n(int): More, b: end };
talk Less = hear { a: end };
talk Other = say { a: end };
actor A(c: T, i: int, p: bool) { drop c; become B(i); }
actor B(i: int) { done; }
actor C(c: T, d: ~T) { drop c; drop d; done; }
actor Main() { done; }
"""


class ReplacingCase(unittest.TestCase):
    def assert_answer(self, text, expected):
        """A mark in the text stands for the index of the expected mistake."""
        program = program_of(PROGRAM)
        before = (program.talks(), program.actors())
        if "@" in text:
            expected = (text.index("@"), expected)
        definition = parse(text.replace("@", "", 1))[0][1]
        self.assertEqual(refusal(program, definition), expected, text)
        self.assertIs(may_replace(program, definition), expected is None)
        self.assertEqual((program.talks(), program.actors()), before)


class AnswersTest(ReplacingCase):
    def test_accepted(self):
        self.assert_answer("actor B(i: int) { done; }", None)
        self.assert_answer("actor B(number: int) { let x = number * 2; become B(x); }", None)
        self.assert_answer("actor A(c: T, i: int, p: bool) { fail; }", None)

    def test_main(self):
        self.assert_answer("actor Main() { done; }", "main")
        self.assert_answer("actor Main(c: U, c: U) { close z; done; }", "main")

    def test_unknown(self):
        self.assert_answer("actor Nobody() { done; }", "unknown")
        self.assert_answer("actor T() { done; }", "unknown")
        self.assert_answer("actor Nobody(c: U, c: U) { close z; done; }", "unknown")

    def test_count(self):
        self.assert_answer("actor B() { done; }", "count")
        self.assert_answer("actor B(i: int, j: int) { done; }", "count")
        self.assert_answer("actor B(c: U, c: U) { close z; done; }", "count")

    def test_talk(self):
        self.assert_answer("actor C(c: U, d: ~T) { fail; }", "talk")
        self.assert_answer("actor C(c: T, d: ~U) { fail; }", "talk")
        # All names are looked up before any parameter is compared.
        self.assert_answer("actor C(c: int, d: U) { close z; done; }", "talk")
        self.assert_answer("actor C(c: T, c: U) { close z; done; }", "talk")

    def test_fit(self):
        self.assert_answer("actor B(i: bool) { done; }", "fit")
        self.assert_answer("actor B(i: T) { drop i; done; }", "fit")
        self.assert_answer("actor C(c: int, d: ~T) { drop d; done; }", "fit")
        self.assert_answer("actor C(c: Other, d: ~T) { fail; }", "fit")
        self.assert_answer("actor A(c: T, i: bool, p: int) { fail; }", "fit")
        self.assert_answer("actor C(c: ~T, d: T) { close z; done; }", "fit")
        self.assert_answer("actor A(c: T, c: bool, c: bool) { fail; }", "fit")

    def test_the_first_mistake(self):
        self.assert_answer("  actor B(i: int) { @close z; close y; done; }", "unknown")
        self.assert_answer("actor B(i: int) { let x = 1; @let i = 2; done; }", "twice")
        self.assert_answer("actor C(c: T, d: ~T) { drop c; @done; }", "left")
        self.assert_answer(" @actor C(c: T, c: ~T) { close z; done; }", "twice")
        self.assert_answer("actor A(c: T, i: int, p: bool) { drop c; @become B(p); }", "kind")


class SubkindsTest(ReplacingCase):
    def test_a_parameter_may_ask_less(self):
        # Whoever hands over a T hands over something that may stand where a More is asked.
        self.assert_answer("actor C(c: More, d: ~T) { fail; }", None)
        self.assert_answer("actor C(c: T, d: ~Less) { fail; }", None)
        self.assert_answer("actor C(c: More, d: ~Less) { fail; }", None)

    def test_a_parameter_may_not_ask_more(self):
        self.assert_answer("actor C(c: Less, d: ~T) { fail; }", "fit")
        self.assert_answer("actor C(c: T, d: ~More) { fail; }", "fit")
        self.assert_answer("actor C(c: More, d: ~More) { fail; }", "fit")

    def test_the_block_has_the_new_kinds(self):
        block = "drop d; hear c { a: { close c; done; } n(i): { drop c; done; } b: { close c; done; } fall: { done; } }"
        self.assert_answer(f"actor C(c: More, d: ~T) {{ {block} }}", None)
        self.assert_answer(f"actor C(c: T, d: ~T) {{ {block.replace('hear', '@hear')} }}", "label")

    def test_a_talk_with_another_name(self):
        program = program_of(PROGRAM + "talk Same = hear { n(int): T, a: end };")
        definition = parse("actor C(c: Same, d: ~Same) { fail; }")[0][1]
        self.assertIs(may_replace(program, definition), True)


class OwnDefinitionsTest(ReplacingCase):
    def test_statements_are_checked_with_the_definitions_of_the_program(self):
        # The C of the program takes a T, so the new one may hand over no More to a C.
        self.assert_answer("actor C(c: More, d: ~T) { @become C(c, d); }", "fit")
        self.assert_answer("actor C(c: T, d: ~Less) { @open e = C(d); drop c; drop e; done; }", "fit")
        self.assert_answer("actor C(c: T, d: ~T) { become C(c, d); }", None)

    def test_one_replacement_does_not_change_the_next_one(self):
        program = program_of(PROGRAM)
        before = (program.talks(), program.actors())
        for text, expected in (
            ("actor C(c: More, d: ~Less) { fail; }", None), ("actor C(c: T, d: ~T) { fail; }", None),
            ("actor C(c: Less, d: ~T) { fail; }", "fit"), ("actor C(c: More, d: ~T) { fail; }", None),
        ):
            self.assertEqual(refusal(program, parse(text)[0][1]), expected)
        self.assertEqual((program.talks(), program.actors()), before)


if __name__ == "__main__":
    unittest.main()
