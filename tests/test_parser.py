"""Promises 3.1 to 3.7."""

import unittest

from pourparler.errors import Malformed, Oversized
from pourparler.parser import parse, parse_expression, parse_talk


class ParserCase(unittest.TestCase):
    def assert_malformed(self, read, text, at):
        with self.assertRaises(Malformed, msg=text) as caught:
            read(text)
        self.assertEqual(caught.exception.at, at, text)

    def assert_too_deep(self, read, text):
        with self.assertRaises(Oversized, msg=text) as caught:
            read(text)
        self.assertEqual(caught.exception.limit, "depth")

    def block(self, text):
        """Returns the block that is a text, with the indexes that it has behind the actor's head."""
        items = parse("actor A() " + text)
        self.assertEqual(len(items), 1)
        return items[0][1][2]


class TalksTest(ParserCase):
    def test_example(self):
        self.assertEqual(parse_talk("say { a(int): end, b: ~T }"),
                         ("say", (("a", "int", ("end",)), ("b", None, ("dual", "T")))))
        self.assert_malformed(parse_talk, "say { }", 6)

    def test_each_form(self):
        self.assertEqual(parse_talk("end"), ("end",))
        self.assertEqual(parse_talk("T"), ("name", "T"))
        self.assertEqual(parse_talk("~T"), ("dual", "T"))
        self.assertEqual(parse_talk("~ T"), ("dual", "T"))
        self.assertEqual(parse_talk("hear{a:end}"), ("hear", (("a", None, ("end",)),)))
        self.assertEqual(parse_talk(" # x\n end # y"), ("end",))

    def test_payloads(self):
        self.assertEqual(parse_talk("hear { a(int): U, b(bool): U, c(T): U, d(~T): U, e: U }"), ("hear", (
            ("a", "int", ("name", "U")), ("b", "bool", ("name", "U")), ("c", ("name", "T"), ("name", "U")),
            ("d", ("dual", "T"), ("name", "U")), ("e", None, ("name", "U")),
        )))

    def test_nested(self):
        self.assertEqual(parse_talk("say { a: hear { b: say { c: end }, d: ~X } }"), ("say", (
            ("a", None, ("hear", (("b", None, ("say", (("c", None, ("end",)),))), ("d", None, ("dual", "X"))))),
        )))

    def test_labels_may_repeat(self):
        self.assertEqual(parse_talk("say { a: end, a: T }"),
                         ("say", (("a", None, ("end",)), ("a", None, ("name", "T")))))

    def test_wrong_talks(self):
        for text, at in (
            ("", 0), ("  ", 2), ("# x", 3), ("int", 0), ("5", 0), ("~", 1), ("~end", 1), ("~~T", 1), ("(T)", 0),
            ("end end", 4), ("T;", 1), ("say", 3), ("say ", 4), ("say T", 4), ("say {", 5), ("say { a", 7),
            ("say { a }", 8), ("say { a: }", 9), ("say { a: end", 12), ("say { a: end, }", 14),
            ("say { a: end b: end }", 13), ("say { a(): end }", 8), ("say { a(end): end }", 8),
            ("say { a(int: end }", 11), ("say { a(5): end }", 8), ("say { a(~int): end }", 9),
            ("say { int: end }", 6), ("say { 5: end }", 6), ("say { a; end }", 7), ("say { a: end }}", 14),
            ("say { a(int bool): end }", 12), ("say { a(say { b: end }): end }", 8),
        ):
            self.assert_malformed(parse_talk, text, at)


class ExpressionsTest(ParserCase):
    def test_example(self):
        self.assertEqual(parse_expression("1 + x * 2 <= 7"),
                         ("le", ("add", ("int", 1), ("mul", ("var", "x"), ("int", 2))), ("int", 7)))

    def test_units(self):
        self.assertEqual(parse_expression("0"), ("int", 0))
        self.assertEqual(parse_expression("65535"), ("int", 65535))
        self.assertEqual(parse_expression("x"), ("var", "x"))
        self.assertEqual(parse_expression("((x))"), ("var", "x"))
        for text, value in (("true", True), ("false", False)):
            tag, found = parse_expression(text)
            self.assertEqual(tag, "bool")
            self.assertIs(found, value)

    def test_operators(self):
        for sign, name in (("+", "add"), ("-", "sub"), ("*", "mul"), ("<", "lt"), ("<=", "le"), ("==", "eq"),
                           ("and", "and"), ("or", "or")):
            self.assertEqual(parse_expression("a " + sign + " b"), (name, ("var", "a"), ("var", "b")))
        self.assertEqual(parse_expression("not a"), ("not", ("var", "a")))

    def test_repeated_operators_go_to_the_left(self):
        a, b, c, d = (("var", name) for name in "abcd")
        for sign, name in (("+", "add"), ("-", "sub"), ("*", "mul"), ("and", "and"), ("or", "or")):
            self.assertEqual(parse_expression(f"a {sign} b {sign} c"), (name, (name, a, b), c))
            self.assertEqual(parse_expression(f"a {sign} (b {sign} c)"), (name, a, (name, b, c)))
        self.assertEqual(parse_expression("a - b + c - d"), ("sub", ("add", ("sub", a, b), c), d))

    def test_precedence(self):
        for short, full in (
            ("a or b and c", "a or (b and c)"), ("a and b or c", "(a and b) or c"),
            ("not a and b", "(not a) and b"), ("a and not b", "a and (not b)"), ("not a or b", "(not a) or b"),
            ("not a < b", "not (a < b)"), ("not a == b", "not (a == b)"), ("not not a", "not (not a)"),
            ("a + b < c * d", "(a + b) < (c * d)"), ("a < b and c <= d", "(a < b) and (c <= d)"),
            ("a * b + c", "(a * b) + c"), ("a - b * c", "a - (b * c)"),
            ("a or b or c and d", "(a or b) or (c and d)"),
        ):
            self.assertEqual(parse_expression(short), parse_expression(full), short)

    def test_wrong_expressions(self):
        for text, at in (
            ("", 0), (" ", 1), ("+", 0), ("-1", 0), ("a +", 3), ("a + + b", 4), ("a b", 2), ("(a", 2), ("()", 1),
            ("a)", 1), ("(a b)", 3), ("a < b < c", 6), ("a == b == c", 7), ("a <= b < c", 7), ("1 + not a", 4),
            ("a < not b", 4), ("a = b", 2), ("not", 3), ("and a", 0), ("a and", 5), ("a or or b", 5), ("end", 0),
            ("a.b", 1), ("a, b", 1), ("~a", 0), ("let", 0), ("f(x)", 1),
        ):
            self.assert_malformed(parse_expression, text, at)

    def test_long_expressions(self):
        tree = parse_expression("1" + "+1" * 9999)
        many = 0
        while tree[0] == "add":
            self.assertEqual(tree[2], ("int", 1))
            tree = tree[1]
            many += 1
        self.assertEqual(many, 9999)


class StatementsTest(ParserCase):
    def test_simple_statements(self):
        self.assertEqual(self.block("{ let x = 1; done; }"), (("let", "x", ("int", 1), 12), ("done", 23)))
        self.assertEqual(self.block("{ say c.l(x); done; }"), (("say", "c", "l", ("var", "x"), 12), ("done", 24)))
        self.assertEqual(self.block("{ say c.l; done; }"), (("say", "c", "l", None, 12), ("done", 21)))
        self.assertEqual(self.block("{ close c; done; }"), (("close", "c", 12), ("done", 21)))
        self.assertEqual(self.block("{ drop c; done; }"), (("drop", "c", 12), ("done", 20)))
        self.assertEqual(self.block("{ open c = B(); done; }"), (("open", "c", "B", (), 12), ("done", 26)))
        self.assertEqual(self.block("{ open c = B(1, x + 2, d); done; }")[0], (
            "open", "c", "B", (("int", 1), ("add", ("var", "x"), ("int", 2)), ("var", "d")), 12))

    def test_last_statements(self):
        self.assertEqual(self.block("{ done; }"), (("done", 12),))
        self.assertEqual(self.block("{ fail; }"), (("fail", 12),))
        self.assertEqual(self.block("{ become A(); }"), (("become", "A", (), 12),))
        self.assertEqual(self.block("{ become A(x, not y); }"),
                         (("become", "A", (("var", "x"), ("not", ("var", "y"))), 12),))

    def test_if(self):
        self.assertEqual(self.block("{ if x < 1 { close c; done; } else { fail; } }"), (
            ("if", ("lt", ("var", "x"), ("int", 1)), (("close", "c", 23), ("done", 32)), (("fail", 47),), 12),))

    def test_hear(self):
        self.assertEqual(self.block("{ hear c { a: { done; } b(x): { fail; } fall: { done; } } }"), (
            ("hear", "c", (("a", None, (("done", 26),)), ("b", "x", (("fail", 42),))), (("done", 58),), 12),))

    def test_hear_without_branches(self):
        self.assertEqual(self.block("{ hear c { fall: { done; } } }"), (("hear", "c", (), (("done", 29),), 12),))

    def test_hear_with_a_label_twice(self):
        branches = self.block("{ hear c { a: { done; } a: { fail; } fall: { done; } } }")[0][2]
        self.assertEqual([branch[0] for branch in branches], ["a", "a"])

    def test_many_statements(self):
        block = self.block("{ let x = 1; let y = 2; drop c; say d.l; fail; }")
        self.assertEqual([statement[0] for statement in block], ["let", "let", "drop", "say", "fail"])
        self.assertEqual([statement[-1] for statement in block], [12, 23, 34, 42, 51])

    def test_wrong_blocks(self):
        start = len("actor A() ")
        for text, at in (
            ("", 0), ("done;", 0), ("{", 1), ("{ }", 2), ("{ done }", 7), ("{ done;", 7), ("{ done; done; }", 8),
            ("{ let x = 1; }", 13), ("{ fail; let x = 1; }", 8), ("{ let 1 = x; done; }", 6),
            ("{ let x 1; done; }", 8), ("{ let x = ; done; }", 10), ("{ let x = 1 done; }", 12),
            ("{ let let = 1; done; }", 6), ("{ let x == 1; done; }", 8),
            ("{ say c; done; }", 7), ("{ say c.; done; }", 8), ("{ say c.1; done; }", 8), ("{ say c.l(); done; }", 10),
            ("{ say c.l(1, 2); done; }", 11), ("{ say c.l 1; done; }", 10), ("{ say .l; done; }", 6),
            ("{ close; done; }", 7), ("{ close c d; done; }", 10), ("{ drop 1; done; }", 7), ("{ drop c, d; done; }", 8),
            ("{ open c; done; }", 8), ("{ open c = B; done; }", 12), ("{ open c = B(; done; }", 13),
            ("{ open c = B(1,); done; }", 15), ("{ open c = B(1 2); done; }", 15), ("{ open = B(); done; }", 7),
            ("{ become A; }", 10), ("{ become (); }", 9), ("{ become A() }", 13), ("{ fail(); }", 6),
            ("{ if x done; }", 7), ("{ if { done; } else { done; } }", 5), ("{ if x { done; } }", 17),
            ("{ if x { done; } else done; }", 22), ("{ if x { done; } else if x { done; } }", 22),
            ("{ if x { done; } else { done; }; }", 31), ("{ if x { done; } else { done; } done; }", 32),
            ("{ hear { fall: { done; } } }", 7), ("{ hear c fall: { done; } }", 9), ("{ hear c { } }", 11),
            ("{ hear c { a: { done; } } }", 24), ("{ hear c { fall { done; } } }", 16),
            ("{ hear c { fall: done; } }", 17), ("{ hear c { fall: { done; } a: { done; } } }", 27),
            ("{ hear c { a(): { done; } fall: { done; } } }", 13),
            ("{ hear c { a(1): { done; } fall: { done; } } }", 13),
            ("{ hear c { a(x) { done; } fall: { done; } } }", 16),
            ("{ hear c { a(x: { done; } fall: { done; } } }", 14),
            ("{ hear c { a: { done; }, fall: { done; } } }", 23), ("{ hear c { fall(x): { done; } } }", 15),
            ("{ hear c { fall: { done; } }; done; }", 28), ("{ else { done; } }", 2), ("{ x = 1; done; }", 2),
            ("{ done; } }", 10), ("{ ; done; }", 2),
        ):
            self.assert_malformed(parse, "actor A() " + text, start + at)


class ProgramsTest(ParserCase):
    def test_items_in_order(self):
        self.assertEqual(parse("talk T = end; actor A() { done; } talk U = ~T;"), [
            ("talk", "T", ("end",)), ("actor", ("A", (), (("done", 26),), 14)), ("talk", "U", ("dual", "T")),
        ])

    def test_no_items(self):
        self.assertEqual(parse(""), [])
        self.assertEqual(parse(" # nothing\n"), [])

    def test_comments_and_blanks(self):
        self.assertEqual(parse("# a\ntalk # b\n T=~U# c\n;# d\n "), [("talk", "T", ("dual", "U"))])

    def test_parameters(self):
        items = parse("  actor A(x: int, y: bool, c: T, d: ~T) { done; }")
        self.assertEqual(items, [("actor", (
            "A", (("x", "int"), ("y", "bool"), ("c", ("name", "T")), ("d", ("dual", "T"))), (("done", 42),), 2))])

    def test_names_may_repeat(self):
        self.assertEqual(len(parse("talk T = end; talk T = end; actor T() { done; } actor T() { done; }")), 4)

    def test_wrong_programs(self):
        for text, at in (
            ("x", 0), ("talk", 4), ("talk T", 6), ("talk T end;", 7), ("talk T = ;", 9), ("talk T = end", 12),
            ("talk T = end talk", 13), ("talk end = end;", 5), ("talk ~T = end;", 5), ("talk T == end;", 7),
            ("actor", 5), ("actor (", 6), ("actor A {", 8), ("actor A(", 8), ("actor A(x)", 9), ("actor A(x: )", 11),
            ("actor A(x: int y: int)", 15), ("actor A(x: int,)", 15), ("actor A(,)", 8), ("actor A(x: end)", 11),
            ("actor A(x: ~int)", 12), ("actor A(int: int)", 8), ("actor A()", 9), ("actor A() ;", 10),
            ("actor A() { done; };", 19), ("let x = 1;", 0), (";", 0), ("end", 0),
            ("actor A() { done; # }", 21),
        ):
            self.assert_malformed(parse, text, at)

    def test_errors_of_the_tokens_come_first(self):
        self.assert_malformed(parse, "x x x ?", 6)
        self.assert_malformed(parse, "talk talk 07", 10)
        self.assert_malformed(parse_talk, "end end 65536", 8)
        self.assert_malformed(parse_expression, "1 1 " + "x" * 21, 4)
        self.assert_malformed(parse_expression, "(" * 40 + "?", 40)
        for read in (parse, parse_talk, parse_expression):
            with self.assertRaises(Oversized) as caught:
                read("? ?" + " " * 20000)
            self.assertEqual(caught.exception.limit, "text")


def nested_talk(levels, inner="end"):
    """Returns a talk in which the inner part stands at a level."""
    return "say { a: " * (levels - 1) + inner + " }" * (levels - 1)


def nested_ifs(levels, inner="{ done; }"):
    """Returns a block in which the inner one stands at a level, always in the first block."""
    return "{ if x " * (levels - 1) + inner + " else { done; } }" * (levels - 1)


class DepthTest(ParserCase):
    def test_talks(self):
        talk = parse_talk(nested_talk(30))
        self.assertEqual(parse_talk(nested_talk(30, "~T"))[0], "say")
        levels = 1
        while talk[0] == "say":
            talk = talk[1][0][2]
            levels += 1
        self.assertEqual(levels, 30)
        self.assert_too_deep(parse_talk, nested_talk(31))
        self.assert_too_deep(parse_talk, nested_talk(31, "T"))
        self.assert_too_deep(parse_talk, nested_talk(31, "5"))
        self.assert_too_deep(parse_talk, "hear { a: " * 30)
        self.assert_malformed(parse_talk, "say { a: " * 29, 29 * 9)
        self.assert_malformed(parse_talk, "say { a: " * 29 + "say { a", 29 * 9 + 7)
        self.assert_malformed(parse_talk, "say { a: " * 29 + "say { a 5", 29 * 9 + 8)

    def test_talks_in_programs(self):
        self.assertEqual(len(parse("talk T = " + nested_talk(30) + ";")), 1)
        self.assert_too_deep(parse, "talk T = " + nested_talk(31) + ";")

    def test_blocks_of_if(self):
        self.assertEqual(len(parse("actor A() " + nested_ifs(30))), 1)
        self.assert_too_deep(parse, "actor A() " + nested_ifs(31))
        self.assert_too_deep(parse, "actor A() " + nested_ifs(31, "done;"))
        self.assert_too_deep(parse, "actor A() " + "{ if x " * 30)
        self.assert_malformed(parse, "actor A() " + "{ if x " * 29, 10 + 29 * 7)
        self.assert_malformed(parse, "actor A() " + "{ if x " * 29 + "{ if", 10 + 29 * 7 + 4)

    def test_blocks_of_else(self):
        for levels, inner, fits in ((30, "{ done; }", True), (31, "{ done; }", False), (31, ";", False)):
            text = "actor A() " + "{ if x { done; } else " * (levels - 1) + inner + " }" * (levels - 1)
            if fits:
                self.assertEqual(len(parse(text)), 1)
            else:
                # The first block of the innermost if is too deep, too.
                self.assert_too_deep(parse, text)

    def test_blocks_of_hear(self):
        for levels, inner, fits in ((30, "{ done; }", True), (31, "{ done; }", False), (31, "5", False)):
            in_fall = "{ hear c { fall: " * (levels - 1) + inner + " } }" * (levels - 1)
            in_branch = ("{ hear c { a(x): " * (levels - 1) + inner + " fall: { done; } } }" * (levels - 1))
            for text in (in_fall, in_branch):
                if fits:
                    self.assertEqual(len(parse("actor A() " + text)), 1)
                else:
                    self.assert_too_deep(parse, "actor A() " + text)
        self.assert_too_deep(parse, "actor A() " + "{ hear c { fall: " * 30)
        self.assert_malformed(parse, "actor A() " + "{ hear c { fall: " * 29 + "{ hear c { fall", 10 + 29 * 17 + 15)

    def test_parentheses(self):
        self.assertEqual(parse_expression("(" * 29 + "x" + ")" * 29), ("var", "x"))
        self.assert_too_deep(parse_expression, "(" * 30 + "x" + ")" * 30)
        self.assert_too_deep(parse_expression, "(" * 30)
        self.assert_too_deep(parse_expression, "(" * 30 + ")")
        self.assert_malformed(parse_expression, "(" * 29, 29)
        self.assert_malformed(parse_expression, "(" * 29 + ")", 29)

    def test_operands_of_not(self):
        tree = parse_expression("not " * 29 + "x")
        for _ in range(29):
            self.assertEqual(tree[0], "not")
            tree = tree[1]
        self.assertEqual(tree, ("var", "x"))
        self.assert_too_deep(parse_expression, "not " * 30 + "x")
        self.assert_too_deep(parse_expression, "not " * 30)
        self.assert_too_deep(parse_expression, "not " * 30 + "+")
        self.assert_malformed(parse_expression, "not " * 29, 29 * 4)

    def test_not_and_parentheses_together(self):
        self.assertEqual(parse_expression("(not " * 14 + "(x)" + ")" * 14)[0], "not")
        self.assert_too_deep(parse_expression, "(not " * 15 + "x" + ")" * 15)
        self.assertEqual(parse_expression("not " * 14 + "(" * 15 + "x" + ")" * 15)[0], "not")
        self.assert_too_deep(parse_expression, "not " * 15 + "(" * 15 + "x" + ")" * 15)
        # What stands beside the operand of not is not deeper than the not.
        self.assertEqual(parse_expression("not x and " + "(" * 29 + "x" + ")" * 29)[0], "and")
        self.assertEqual(parse_expression("(x) + " + "(" * 29 + "x" + ")" * 29)[0], "add")

    def test_expressions_of_statements_begin_at_level_1(self):
        deep = "(" * 29 + "x" + ")" * 29
        for statement in ("let y = {};", "say c.l({});", "open c = B({}, {});"):
            text = "actor A() " + nested_ifs(30, "{ " + statement.replace("{}", deep) + " done; }")
            self.assertEqual(len(parse(text)), 1)
            self.assert_too_deep(parse, "actor A() { " + statement.replace("{}", "(" + deep + ")") + " done; }")
        self.assertEqual(len(parse("actor A() " + nested_ifs(30, "{ become A(" + deep + "); }"))), 1)
        self.assertEqual(len(parse("actor A() { if " + deep + " { done; } else { done; } }")), 1)
        self.assert_too_deep(parse, "actor A() { become A((" + deep + ")); }")
        self.assert_too_deep(parse, "actor A() { if (" + deep + ") { done; } else { done; } }")

    def test_deepest_expression_in_the_deepest_block(self):
        deep = "(" * 29 + "x" + ")" * 29
        text = "actor A() " + ("{ if " + deep + " ") * 29 + "{ let x = " + deep + "; done; }"
        self.assertEqual(len(parse(text + " else { done; } }" * 29)), 1)


if __name__ == "__main__":
    unittest.main()
