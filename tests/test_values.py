"""Promises 30.1 and 30.2."""

import itertools
import random
import unittest

from pourparler.errors import Unknown
from pourparler.parser import parse_expression
from pourparler.values import ends_of, evaluate, is_end

EDGES = (0, 1, 2, 3, 255, 256, 32767, 32768, 65534, 65535)
NUMBERS = {"add": lambda a, b: (a + b) % 65536, "sub": lambda a, b: (a - b) % 65536,
           "mul": lambda a, b: (a * b) % 65536}
TRUTHS = {"and": {(True, True): True}, "or": {(False, True): True, (True, False): True, (True, True): True}}


class ValuesCase(unittest.TestCase):
    def assert_value(self, e, expected, names=None):
        names = dict(names or {})
        before = list(names.items())
        found = evaluate(e, names)
        self.assertEqual(found, expected, e)
        # True equals 1, so the kinds are compared, too.
        self.assertIs(type(found), type(expected), e)
        self.assertEqual(list(names.items()), before)

    def assert_unknown(self, text, name, names):
        with self.assertRaises(Unknown) as caught:
            evaluate(parse_expression(text), names)
        self.assertEqual(caught.exception.name, name)


class EvaluateTest(ValuesCase):
    def test_leaves(self):
        self.assert_value(("int", 7), 7)
        self.assert_value(("int", 0), 0)
        self.assert_value(("bool", True), True)
        self.assert_value(("bool", False), False)
        names = {"x": 3, "p": False, "c": ("end", 2, 1)}
        for name, value in names.items():
            self.assert_value(("var", name), value, names)

    def test_numbers(self):
        for a, b in itertools.product(EDGES, repeat=2):
            for operator, result in NUMBERS.items():
                self.assert_value((operator, ("int", a), ("var", "b")), result(a, b), {"b": b})

    def test_wrapping(self):
        self.assert_value(("add", ("int", 65535), ("int", 1)), 0)
        self.assert_value(("add", ("int", 65535), ("int", 65535)), 65534)
        self.assert_value(("sub", ("int", 0), ("int", 1)), 65535)
        self.assert_value(("sub", ("int", 0), ("int", 65535)), 1)
        self.assert_value(("mul", ("int", 65535), ("int", 65535)), 1)
        self.assert_value(("mul", ("int", 256), ("int", 256)), 0)
        self.assert_value(parse_expression("x - 1 - 1 < 3"), False, {"x": 1})

    def test_comparisons(self):
        for a, b in itertools.product(EDGES, repeat=2):
            operands = ("var", "a"), ("int", b)
            self.assert_value(("lt", *operands), a < b, {"a": a})
            self.assert_value(("le", *operands), a <= b, {"a": a})
            self.assert_value(("eq", *operands), a == b, {"a": a})

    def test_truth_tables(self):
        for a, b in itertools.product((False, True), repeat=2):
            operands = ("bool", a), ("var", "b")
            for operator, table in TRUTHS.items():
                self.assert_value((operator, *operands), table.get((a, b), False), {"b": b})
            self.assert_value(("eq", *operands), a == b, {"b": b})
        self.assert_value(("not", ("bool", True)), False)
        self.assert_value(("not", ("var", "p")), True, {"p": False})

    def test_sums_in_order(self):
        self.assert_value(parse_expression("10 - 3 - 2"), 5)
        self.assert_value(parse_expression("10 - (3 - 2)"), 9)
        self.assert_value(parse_expression("1 + x * 2 <= 7"), True, {"x": 3})
        self.assert_value(parse_expression("not (1 < 2) or true and x == 4"), True, {"x": 4})
        self.assert_value(parse_expression("not p and p"), False, {"p": False})

    def test_example(self):
        self.assert_value(("sub", ("int", 1), ("var", "x")), 65535, {"x": 2})


class UnknownTest(ValuesCase):
    def test_names(self):
        self.assert_unknown("z", "z", {})
        self.assert_unknown("x + z", "z", {"x": 1})
        self.assert_unknown("not Z", "Z", {"z": True})

    def test_the_first_name_counts(self):
        self.assert_unknown("x + y * z", "y", {"x": 1})
        self.assert_unknown("(x + y) * z", "x", {})
        self.assert_unknown("(1 + x) * y", "y", {"x": 3})
        self.assert_unknown("1 < z or y", "z", {})

    def test_both_operands_are_evaluated(self):
        self.assert_unknown("false and z", "z", {})
        self.assert_unknown("true or z", "z", {})
        self.assert_unknown("p and (false and z)", "z", {"p": False})
        self.assert_unknown("true or (true or z)", "z", {})
        self.assert_unknown("true and z", "z", {})
        self.assert_unknown("false or z", "z", {})
        self.assert_unknown("z and y", "z", {})


class DeepTest(ValuesCase):
    def test_many_operators(self):
        self.assert_value(parse_expression("+".join(["x"] * 9000)), 9000 * 9 % 65536, {"x": 9})

    def test_deep_to_the_right(self):
        e = ("var", "x")
        for _ in range(20001):
            e = ("sub", ("int", 1), e)
        self.assertEqual(evaluate(e, {"x": 5}), 65532)


class RandomTest(ValuesCase):
    def test_against_python(self):
        """Expressions of ints are compared with what Python makes of their texts."""
        for seed in range(500):
            source = random.Random(seed)
            names = {name: source.randrange(65536) for name in "xyz"}
            text = source.choice("xyz")
            for _ in range(source.randrange(12)):
                part = source.choice((*"xyz", str(source.randrange(65536))))
                text = f"({text} {source.choice('+-*')} {part})" if source.random() < 0.5 else \
                    f"{part} {source.choice('+-*')} ({text})"
            self.assert_value(parse_expression(text), eval(text, {}, names) % 65536, names)


class EndsTest(ValuesCase):
    def test_is_end(self):
        for value in (("end", 0, 0), ("end", 12, 1)):
            self.assertIs(is_end(value), True)
        for value in (0, 1, 65535, True, False, None):
            self.assertIs(is_end(value), False)

    def test_no_ends(self):
        self.assertEqual(ends_of({}), [])
        self.assertEqual(ends_of({"x": 3, "p": True, "q": False, "y": 0}), [])

    def test_ascending(self):
        names = {"x": 3, "a": ("end", 10, 0), "p": True, "b": ("end", 2, 1), "c": ("end", 2, 0), "d": ("end", 0, 1)}
        self.assertEqual(ends_of(names), [("end", 0, 1), ("end", 2, 0), ("end", 2, 1), ("end", 10, 0)])
        self.assertEqual(list(names), ["x", "a", "p", "b", "c", "d"])

    def test_the_list_may_be_changed(self):
        names = {"a": ("end", 1, 0)}
        ends_of(names).clear()
        self.assertEqual(ends_of(names), [("end", 1, 0)])


if __name__ == "__main__":
    unittest.main()
