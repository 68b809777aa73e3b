"""Promises 41.1 to 41.4."""

import random
import unittest

from pourparler.checker import mistake
from pourparler.code import Code, is_effect
from pourparler.compiler import compile_definition, compile_program
from pourparler.parser import parse
from pourparler.printer import show_definition
from pourparler.program import program_of
from random_programs import Maker

OPERATORS = {"+": "add", "-": "sub", "*": "mul", "<": "lt", "<=": "le", "==": "eq", "and": "and", "or": "or"}
DONE, FAIL = ("done",), ("fail",)


def definition_of(text):
    return parse(text)[0][1]


class CompilerCase(unittest.TestCase):
    def assert_code(self, text, size, slots, *instructions):
        definition = definition_of(text)
        code = compile_definition(definition)
        self.assertIsInstance(code, Code)
        # True equals 1, so the texts are compared.
        self.assertEqual(repr(code.instructions), repr(list(instructions)))
        self.assertEqual((code.name, code.size, code.slots), (definition[0], size, slots))
        self.assertEqual(definition, definition_of(text))

    def assert_block(self, block, slots, *instructions):
        """The parameters x, p, c and d have the slots 0 to 3."""
        self.assert_code(f"actor A(x: int, p: bool, c: T, d: T) {{ {block} }}", 4, slots, *instructions)


class StatementsTest(CompilerCase):
    def test_example(self):
        self.assert_code("actor A(x: int) { let y = x + 1; become A(y); }", 1, 2, ("get", 0), ("push", 1),
                         ("apply", "add"), ("set", 1), ("get", 1), ("become", "A", 1))

    def test_no_parameters(self):
        self.assert_code("actor Main() { done; }", 0, 0, DONE)

    def test_let(self):
        self.assert_block("let y = 3; let z = y; let k = true; done;", 7, ("push", 3), ("set", 4), ("get", 4),
                          ("set", 5), ("push", True), ("set", 6), DONE)

    def test_say(self):
        self.assert_block("say c.l; say d.m(x); say c.n(d); done;", 4, ("say", 2, "l", 0), ("get", 0),
                          ("say", 3, "m", 1), ("get", 3), ("say", 2, "n", 1), DONE)

    def test_close_and_drop(self):
        self.assert_block("close d; drop c; done;", 4, ("close", 3), ("drop", 2), DONE)

    def test_open(self):
        self.assert_block("open e = B(); open f = B(x + 1, d, p); say e.l; done;", 6, ("open", 4, "B", 0),
                          ("get", 0), ("push", 1), ("apply", "add"), ("get", 3), ("get", 1), ("open", 5, "B", 3),
                          ("say", 4, "l", 0), DONE)

    def test_last_statements(self):
        self.assert_block("fail;", 4, FAIL)
        self.assert_block("become B();", 4, ("become", "B", 0))
        self.assert_block("become B(d, 7, c, not p);", 4, ("get", 3), ("push", 7), ("get", 2), ("get", 1),
                          ("apply", "not"), ("become", "B", 4))

    def test_a_name_that_was_bound_before(self):
        # Each binding gets a new slot, although the old one is free by then.
        self.assert_block("drop c; let c = 1; let y = c; done;", 6, ("drop", 2), ("push", 1), ("set", 4), ("get", 4),
                          ("set", 5), DONE)
        self.assert_block("open c = B(c); say c.l; open d = B(d); done;", 6, ("get", 2), ("open", 4, "B", 1),
                          ("say", 4, "l", 0), ("get", 3), ("open", 5, "B", 1), DONE)
        self.assert_block("close c; open c = B(); close c; open c = B(); close c; done;", 6, ("close", 2),
                          ("open", 4, "B", 0), ("close", 4), ("open", 5, "B", 0), ("close", 5), DONE)


class ExpressionsTest(CompilerCase):
    def assert_expression(self, text, *instructions):
        self.assert_code(f"actor A(x: int, y: int, p: bool) {{ let z = {text}; done; }}", 3, 4, *instructions,
                         ("set", 3), DONE)

    def test_leaves(self):
        self.assert_expression("0", ("push", 0))
        self.assert_expression("65535", ("push", 65535))
        self.assert_expression("true", ("push", True))
        self.assert_expression("false", ("push", False))
        self.assert_expression("p", ("get", 2))

    def test_operators(self):
        for sign, word in OPERATORS.items():
            self.assert_expression(f"x {sign} y", ("get", 0), ("get", 1), ("apply", word))
        self.assert_expression("not p", ("get", 2), ("apply", "not"))

    def test_operands_come_first_from_the_left_to_the_right(self):
        self.assert_expression("x - y - 1", ("get", 0), ("get", 1), ("apply", "sub"), ("push", 1), ("apply", "sub"))
        self.assert_expression("x - (y - 1)", ("get", 0), ("get", 1), ("push", 1), ("apply", "sub"), ("apply", "sub"))
        self.assert_expression(
            "not ((x + 1) * (y - 2) < x) and p",
            ("get", 0), ("push", 1), ("apply", "add"), ("get", 1), ("push", 2), ("apply", "sub"), ("apply", "mul"),
            ("get", 0), ("apply", "lt"), ("apply", "not"), ("get", 2), ("apply", "and"))


class BlocksTest(CompilerCase):
    def test_if(self):
        self.assert_block("if p { drop c; done; } else { fail; }", 4, ("get", 1), ("test", 4), ("drop", 2), DONE, FAIL)
        self.assert_block("if x < 3 { fail; } else { drop c; done; }", 4, ("get", 0), ("push", 3), ("apply", "lt"),
                          ("test", 5), FAIL, ("drop", 2), DONE)

    def test_if_in_if(self):
        self.assert_block(
            "if p { if true { done; } else { fail; } } else { if false { fail; } else { done; } }", 4,
            ("get", 1), ("test", 6), ("push", True), ("test", 5), DONE, FAIL, ("push", False), ("test", 9), FAIL, DONE)

    def test_slots_of_blocks(self):
        # What one block binds, the other one does not know; slots go on over both.
        self.assert_block(
            "if p { let y = 1; let z = y; done; } else { let y = x; let w = y; done; }", 8,
            ("get", 1), ("test", 7), ("push", 1), ("set", 4), ("get", 4), ("set", 5), DONE,
            ("get", 0), ("set", 6), ("get", 6), ("set", 7), DONE)
        self.assert_block(
            "if p { drop c; let c = 1; become B(c); } else { close c; done; }", 5,
            ("get", 1), ("test", 7), ("drop", 2), ("push", 1), ("set", 4), ("get", 4), ("become", "B", 1),
            ("close", 2), DONE)

    def test_hear(self):
        self.assert_block(
            "hear c { a: { close c; done; } n(y): { become B(y, c); } fall: { let z = 1; fail; } }", 6,
            ("hear", 2, (("a", None, 1), ("n", 4, 3)), 6), ("close", 2), DONE,
            ("get", 4), ("get", 2), ("become", "B", 2), ("push", 1), ("set", 5), FAIL)

    def test_slots_of_rows_come_before_those_of_the_blocks(self):
        self.assert_block(
            "hear d { m(y): { let z = y; done; } a: { let z = 2; done; } n(y): { let z = y; done; } fall: { done; } }",
            9,
            ("hear", 3, (("m", 4, 1), ("a", None, 4), ("n", 5, 7)), 10), ("get", 4), ("set", 6), DONE,
            ("push", 2), ("set", 7), DONE, ("get", 5), ("set", 8), DONE, DONE)

    def test_one_branch(self):
        self.assert_block("hear c { a: { fail; } fall: { done; } }", 4, ("hear", 2, (("a", None, 1),), 2), FAIL, DONE)

    def test_blocks_in_branches(self):
        inner = "hear d { k(y): { done; } fall: { let w = x; fail; } }"
        self.assert_block(
            f"hear c {{ m(z): {{ {inner} }} n(y): {{ if y {{ done; }} else {{ fail; }} }} fall: {{ done; }} }}", 8,
            ("hear", 2, (("m", 4, 1), ("n", 5, 6)), 10),
            ("hear", 3, (("k", 6, 2),), 3), DONE, ("get", 0), ("set", 7), FAIL,
            ("get", 5), ("test", 9), DONE, FAIL, DONE)

    def test_a_name_of_a_branch_is_not_known_behind_it(self):
        self.assert_block(
            "drop d; hear c { n(d): { let e = d; done; } fall: { let d = 1; let e = d; done; } }", 8,
            ("drop", 3), ("hear", 2, (("n", 4, 2),), 5), ("get", 4), ("set", 5), DONE,
            ("push", 1), ("set", 6), ("get", 6), ("set", 7), DONE)

    def test_many_levels(self):
        block = "done;"
        for _ in range(29):
            block = "if p { " + block + " } else { fail; }"
        tests = []
        for level in range(29):
            tests.extend([("get", 1), ("test", 59 + 28 - level)])
        self.assert_block(block, 4, *tests, DONE, *[FAIL] * 29)


class ProgramTest(unittest.TestCase):
    TEXT = "talk T = end; actor Z(i: int) { done; } actor Main() { become Z(1); } actor A(c: T) { drop c; fail; }"

    def test_the_order_of_the_program(self):
        program = program_of(self.TEXT)
        codes = compile_program(program)
        self.assertEqual(list(codes), ["Z", "Main", "A"])
        for definition in program.actors():
            one, other = codes[definition[0]], compile_definition(definition)
            self.assertEqual((one.name, one.size, one.slots, one.instructions),
                             (other.name, other.size, other.slots, other.instructions))
        self.assertEqual(program.actors(), program_of(self.TEXT).actors())

    def test_an_empty_program(self):
        self.assertEqual(compile_program(program_of("")), {})


def statements_in(block):
    """Returns how many statements a block has, with those of its blocks, and how many names they bind."""
    many = names = 0
    for statement in block:
        many += 1
        blocks = ()
        if statement[0] in ("let", "open"):
            names += 1
        elif statement[0] == "if":
            blocks = statement[2:4]
        elif statement[0] == "hear":
            blocks = [one for _, _, one in statement[2]] + [statement[3]]
            names += len([name for _, name, _ in statement[2] if name is not None])
        for one in blocks:
            inner = statements_in(one)
            many, names = many + inner[0], names + inner[1]
    return many, names


class RandomTest(unittest.TestCase):
    def test_each_statement_has_one_effect_and_each_binding_a_slot(self):
        for seed in range(60):
            program = Maker(random.Random(seed)).program()
            self.assertIsNone(mistake(program))
            for definition in program.actors():
                code = compile_definition(definition)
                many, names = statements_in(definition[2])
                text = show_definition(definition)
                self.assertEqual(len([one for one in code.instructions if is_effect(one)]), many, text)
                self.assertEqual((code.size, code.slots), (len(definition[1]), len(definition[1]) + names), text)
                # Places lead behind a last statement, to the beginning of a block.
                for place in [place for one in code.instructions for place in places_in(one)[1:]]:
                    self.assertIn(code.instructions[place - 1][0], ("done", "fail", "become"), text)


def places_in(instruction):
    if instruction[0] == "test":
        return (None, instruction[1])
    if instruction[0] == "hear":
        return (*[place for _, _, place in instruction[2]], instruction[3])
    return ()


if __name__ == "__main__":
    unittest.main()
