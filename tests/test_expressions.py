"""Promises 20.1 and 20.2."""

import itertools
import random
import unittest

from pourparler.contexts import Context
from pourparler.errors import Mistaken
from pourparler.expressions import kind_of
from pourparler.parser import parse_expression

PAIRS = (("x", "int"), ("y", "int"), ("p", "bool"), ("q", "bool"), ("c", ("end",)), ("d", ("name", "T")),
         ("e", ("dual", "T")))
INT_OPERATORS, COMPARISONS, BOOL_OPERATORS = ("add", "sub", "mul"), ("lt", "le"), ("and", "or")


class ExpressionCase(unittest.TestCase):
    def assert_kind(self, text, kind):
        context = Context(PAIRS)
        self.assertEqual(kind_of(parse_expression(text), context, 3), kind)
        self.assertEqual(context.pairs(), list(PAIRS))

    def assert_mistaken(self, text, why):
        context = Context(PAIRS)
        for at in (0, 7, 12345):
            with self.assertRaises(Mistaken) as caught:
                kind_of(parse_expression(text), context, at)
            self.assertEqual((caught.exception.at, caught.exception.why), (at, why), text)
        self.assertEqual(context.pairs(), list(PAIRS))


class KindsTest(ExpressionCase):
    def test_literals(self):
        for text, kind in (("0", "int"), ("1", "int"), ("65535", "int"), ("true", "bool"), ("false", "bool")):
            self.assert_kind(text, kind)

    def test_names(self):
        self.assert_kind("x", "int")
        self.assert_kind("q", "bool")
        for name in ("c", "d", "e"):
            self.assert_mistaken(name, "kind")
        self.assert_mistaken("z", "unknown")
        self.assert_mistaken("X", "unknown")

    def test_each_operator_with_each_pair_of_operands(self):
        signs = {"+": (["int"], "int"), "-": (["int"], "int"), "*": (["int"], "int"), "<": (["int"], "bool"),
                 "<=": (["int"], "bool"), "==": (["int", "bool"], "bool"), "and": (["bool"], "bool"),
                 "or": (["bool"], "bool")}
        operands = {"x": "int", "y": "int", "7": "int", "p": "bool", "q": "bool", "true": "bool", "c": "end"}
        for sign, (taken, given) in signs.items():
            for one, two in itertools.product(operands, repeat=2):
                text = f"{one} {sign} {two}"
                if operands[one] == operands[two] and operands[one] in taken:
                    self.assert_kind(text, given)
                else:
                    self.assert_mistaken(text, "kind")

    def test_not(self):
        self.assert_kind("not p", "bool")
        self.assert_kind("not false", "bool")
        self.assert_mistaken("not x", "kind")
        self.assert_mistaken("not 1", "kind")
        self.assert_mistaken("not d", "kind")
        self.assert_mistaken("not z", "unknown")

    def test_results_of_operators_as_operands(self):
        self.assert_kind("x + 1 * y < 3 and not (x == y) or p == (1 <= 2)", "bool")
        self.assert_kind("(x - 1) * (x + 1)", "int")
        self.assert_kind("(x < y) == (not p)", "bool")
        self.assert_mistaken("(x < y) + 1", "kind")
        self.assert_mistaken("(x < y) == 1", "kind")
        self.assert_mistaken("not (x + y)", "kind")
        self.assert_mistaken("x + y and p", "kind")
        self.assert_mistaken("(p or q) <= 3", "kind")

    def test_example(self):
        context = Context((("x", "int"),))
        self.assertEqual(kind_of(("lt", ("var", "x"), ("int", 3)), context, 5), "bool")
        with self.assertRaises(Mistaken) as caught:
            kind_of(("add", ("var", "x"), ("bool", True)), context, 5)
        self.assertEqual((caught.exception.at, caught.exception.why), (5, "kind"))


class FirstMistakeTest(ExpressionCase):
    def test_from_the_left_to_the_right(self):
        self.assert_mistaken("z + c", "unknown")
        self.assert_mistaken("c + z", "kind")
        self.assert_mistaken("x + z + c", "unknown")
        self.assert_mistaken("x + c + z", "kind")

    def test_operands_before_their_operator(self):
        self.assert_mistaken("p + z", "unknown")
        self.assert_mistaken("x and z", "unknown")
        self.assert_mistaken("true == 1 + z", "unknown")
        self.assert_mistaken("not (1 + z)", "unknown")
        self.assert_mistaken("p < (q + z)", "unknown")

    def test_an_operator_before_what_stands_behind_it(self):
        self.assert_mistaken("(p + 1) + z", "kind")
        self.assert_mistaken("not 1 and z", "kind")
        self.assert_mistaken("1 + true < z", "kind")
        self.assert_mistaken("(x == p) == z", "kind")


def random_expression(source, levels):
    if levels == 0 or source.random() < 0.2:
        return source.choice((("int", 1), ("bool", True), ("var", "x"), ("var", "p"), ("var", "x"), ("var", "p"),
                              ("var", "c"), ("var", "z")))
    operator = source.choice((*INT_OPERATORS, *COMPARISONS, "eq", *BOOL_OPERATORS, "not"))
    return (operator, *(random_expression(source, levels - 1) for _ in range(1 if operator == "not" else 2)))


def slow_kind(e, kinds):
    """Returns the kind of an expression, or the word of its first mistake in a list, by recursion."""
    if e[0] in ("int", "bool"):
        return e[0]
    if e[0] == "var":
        kind = kinds.get(e[1], ["unknown"])
        return ["kind"] if isinstance(kind, tuple) else kind
    found = [slow_kind(operand, kinds) for operand in e[1:]]
    for kind in found:
        if isinstance(kind, list):
            return kind
    taken = found[:1] if e[0] == "eq" else ["int" if e[0] in INT_OPERATORS + COMPARISONS else "bool"]
    if any(kind != taken[0] for kind in found):
        return ["kind"]
    return "int" if e[0] in INT_OPERATORS else "bool"


class RandomTest(ExpressionCase):
    def test_against_recursion(self):
        found = {}
        for seed in range(4000):
            e = random_expression(random.Random(seed), 3)
            expected = slow_kind(e, dict(PAIRS))
            try:
                kind = kind_of(e, Context(PAIRS), seed)
            except Mistaken as error:
                self.assertEqual(error.at, seed)
                kind = [error.why]
            self.assertEqual(kind, expected, e)
            found[str(kind)] = found.get(str(kind), 0) + 1
        self.assertGreater(min(found.values()), 200, found)
        self.assertEqual(len(found), 4, found)


class DeepTest(ExpressionCase):
    def test_many_operators(self):
        self.assert_kind("+".join(["x"] * 9000), "int")
        self.assert_mistaken("+".join(["x"] * 9000 + ["z"]), "unknown")
        self.assert_mistaken("p" + "+x" * 9000, "kind")

    def test_deep_to_the_right(self):
        e = ("var", "x")
        for _ in range(20000):
            e = ("sub", ("int", 1), e)
        self.assertEqual(kind_of(e, Context(PAIRS), 0), "int")
        for _ in range(20000):
            e = ("not", e)
        with self.assertRaises(Mistaken) as caught:
            kind_of(e, Context(PAIRS), 9)
        self.assertEqual((caught.exception.at, caught.exception.why), (9, "kind"))


if __name__ == "__main__":
    unittest.main()
