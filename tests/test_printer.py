"""Promises 5.1 to 5.4."""

import random
import unittest

from pourparler.parser import parse, parse_expression, parse_talk
from pourparler.printer import bare, show_definition, show_expression, show_kind, show_program, show_talk
from pourparler.program import Program, program_of

X, Y = ("var", "x"), ("var", "y")
DONE = ("done", 0)


class TalksTest(unittest.TestCase):
    def test_examples(self):
        self.assertEqual(show_talk(("hear", (("a", ("dual", "T"), ("end",)),))), "hear { a(~T): end }")
        self.assertEqual(show_talk(("say", (("a", "int", ("end",)), ("b", None, ("dual", "T"))))),
                         "say { a(int): end, b: ~T }")

    def test_each_form(self):
        self.assertEqual(show_talk(("end",)), "end")
        self.assertEqual(show_talk(("name", "T")), "T")
        self.assertEqual(show_talk(("dual", "T")), "~T")
        self.assertEqual(show_talk(("say", (("a", None, ("name", "T")),))), "say { a: T }")
        self.assertEqual(
            show_talk(("hear", (("a", "bool", ("end",)), ("b", ("name", "T"), ("end",)), ("c", "int", ("end",))))),
            "hear { a(bool): end, b(T): end, c(int): end }")

    def test_nested(self):
        inner = ("hear", (("b", None, ("end",)), ("c", None, ("end",))))
        self.assertEqual(show_talk(("say", (("a", None, inner), ("d", None, inner)))),
                         "say { a: hear { b: end, c: end }, d: hear { b: end, c: end } }")

    def test_many_levels(self):
        talk, text = ("end",), "end"
        for _ in range(130):
            talk, text = ("say", (("a", None, talk),)), "say { a: " + text + " }"
        self.assertEqual(show_talk(talk), text)

    def test_kinds(self):
        for kind, text in (("int", "int"), ("bool", "bool"), (("name", "T"), "T"), (("dual", "T"), "~T")):
            self.assertEqual(show_kind(kind), text)


class ExpressionsTest(unittest.TestCase):
    def test_units(self):
        for e, text in ((("int", 0), "0"), (("int", 65535), "65535"), (("bool", True), "true"),
                        (("bool", False), "false"), (X, "x")):
            self.assertEqual(show_expression(e), text)

    def test_operators(self):
        for name, sign in (("add", "+"), ("sub", "-"), ("mul", "*"), ("lt", "<"), ("le", "<="), ("eq", "=="),
                           ("and", "and"), ("or", "or")):
            self.assertEqual(show_expression((name, X, ("int", 1))), "(x " + sign + " 1)")
        self.assertEqual(show_expression(("not", X)), "(not x)")
        self.assertEqual(show_expression(("not", ("lt", X, ("int", 3)))), "(not (x < 3))")

    def test_nested(self):
        e = ("sub", ("mul", X, ("add", X, Y)), ("sub", Y, X))
        self.assertEqual(show_expression(e), "((x * (x + y)) - (y - x))")
        self.assertEqual(show_expression(("not", ("not", ("bool", True)))), "(not (not true))")

    def test_deep_expressions(self):
        text = show_expression(parse_expression("1" + "+1" * 9999))
        self.assertEqual(text, "(" * 9999 + "1" + " + 1)" * 9999)


class DefinitionsTest(unittest.TestCase):
    def shown(self, *statements):
        """Returns the lines of a block, checked for what is around them."""
        lines = show_definition(("A", (), statements, 5)).split("\n")
        self.assertEqual((lines[0], lines[-2], lines[-1]), ("actor A() {", "}", ""))
        return lines[1:-2]

    def test_parameters(self):
        self.assertEqual(show_definition(("Main", (), (DONE,), 0)), "actor Main() {\n  done;\n}\n")
        self.assertEqual(show_definition(("A", (("x", "int"),), (DONE,), 0)), "actor A(x: int) {\n  done;\n}\n")
        parameters = (("x", "int"), ("c", ("dual", "T")), ("d", ("name", "T")), ("y", "bool"))
        self.assertEqual(show_definition(("B", parameters, (DONE,), 0)),
                         "actor B(x: int, c: ~T, d: T, y: bool) {\n  done;\n}\n")

    def test_simple_statements(self):
        self.assertEqual(self.shown(
            ("let", "x", ("int", 1), 9), ("let", "y", ("add", X, X), 9), ("say", "c", "l", Y, 9),
            ("say", "c", "l", ("add", X, Y), 9), ("say", "c", "l", None, 9), ("close", "c", 9), ("drop", "c", 9),
            ("open", "c", "A", (), 9), ("open", "c", "A", (X,), 9), ("open", "c", "A", (X, ("not", Y)), 9), DONE,
        ), [
            "  let x = 1;", "  let y = (x + x);", "  say c.l(y);", "  say c.l((x + y));", "  say c.l;", "  close c;",
            "  drop c;", "  open c = A();", "  open c = A(x);", "  open c = A(x, (not y));", "  done;",
        ])

    def test_last_statements(self):
        self.assertEqual(self.shown(("done", 1)), ["  done;"])
        self.assertEqual(self.shown(("fail", 1)), ["  fail;"])
        self.assertEqual(self.shown(("become", "A", (), 1)), ["  become A();"])
        self.assertEqual(self.shown(("become", "A", (X, Y), 1)), ["  become A(x, y);"])

    def test_if(self):
        self.assertEqual(self.shown(("if", ("lt", X, Y), (("drop", "c", 0), DONE), (("fail", 0),), 0)), [
            "  if (x < y) {", "    drop c;", "    done;", "  } else {", "    fail;", "  }",
        ])
        self.assertEqual(self.shown(("if", X, (DONE,), (DONE,), 0))[0], "  if x {")

    def test_hear(self):
        branches = (("a", "x", (("drop", "c", 0), DONE)), ("b", None, (DONE,)))
        self.assertEqual(self.shown(("hear", "c", branches, (("fail", 0),), 0)), [
            "  hear c {", "    a(x): {", "      drop c;", "      done;", "    }", "    b: {", "      done;", "    }",
            "    fall: {", "      fail;", "    }", "  }",
        ])

    def test_hear_without_branches(self):
        self.assertEqual(self.shown(("hear", "c", (), (DONE,), 0)),
                         ["  hear c {", "    fall: {", "      done;", "    }", "  }"])

    def test_nested_blocks(self):
        inner = ("if", X, (DONE,), (DONE,), 0)
        hear = ("hear", "c", (("a", None, (inner,)),), (DONE,), 0)
        self.assertEqual(self.shown(("let", "y", X, 0), ("if", Y, (hear,), (inner,), 0)), [
            "  let y = x;", "  if y {", "    hear c {", "      a: {", "        if x {", "          done;",
            "        } else {", "          done;", "        }", "      }", "      fall: {", "        done;", "      }",
            "    }", "  } else {", "    if x {", "      done;", "    } else {", "      done;", "    }", "  }",
        ])


class ProgramsTest(unittest.TestCase):
    def test_empty(self):
        self.assertEqual(show_program(Program()), "")

    def test_talks_come_first(self):
        program = program_of("actor B() { done; } talk T = say { a(~U): T }; actor A(c: T) { fail; } talk U = end;")
        self.assertEqual(show_program(program), (
            "talk T = say { a(~U): T };\n"
            "talk U = end;\n"
            "actor B() {\n"
            "  done;\n"
            "}\n"
            "actor A(c: T) {\n"
            "  fail;\n"
            "}\n"))


class BareTest(unittest.TestCase):
    def test_statements(self):
        for statement in (
            ("let", "x", ("int", 5), 7), ("say", "c", "l", ("int", 5), 7), ("say", "c", "l", None, 7),
            ("close", "c", 7), ("drop", "c", 7), ("open", "c", "A", (("int", 5),), 7), ("done", 7), ("fail", 7),
            ("become", "A", (("int", 5),), 7),
        ):
            self.assertEqual(bare(statement), statement[:-1] + (0,))

    def test_statements_with_blocks(self):
        self.assertEqual(bare(("if", X, (("drop", "c", 3), ("done", 4)), (("fail", 5),), 6)),
                         ("if", X, (("drop", "c", 0), ("done", 0)), (("fail", 0),), 0))
        self.assertEqual(
            bare(("hear", "c", (("a", "x", (("done", 3),)), ("b", None, (("fail", 4),))), (("done", 5),), 6)),
            ("hear", "c", (("a", "x", (("done", 0),)), ("b", None, (("fail", 0),))), (("done", 0),), 0))

    def test_blocks(self):
        self.assertEqual(bare((("done", 5),)), (("done", 0),))
        inner = ("if", X, (("if", Y, (("done", 1),), (("done", 2),), 3),), (("done", 4),), 5)
        self.assertEqual(bare((("drop", "c", 9), inner)), (("drop", "c", 0), (
            "if", X, (("if", Y, (("done", 0),), (("done", 0),), 0),), (("done", 0),), 0)))
        four = (("drop", "a", 1), ("drop", "b", 2), ("drop", "c", 3), ("done", 4))
        self.assertEqual(bare(four), tuple(statement[:-1] + (0,) for statement in four))

    def test_definitions(self):
        self.assertEqual(bare(("A", (("x", "int"),), (("done", 4),), 3)), ("A", (("x", "int"),), (("done", 0),), 0))
        self.assertEqual(bare(("A", (), (("done", 4),), 3)), ("A", (), (("done", 0),), 0))

    def test_the_tree_is_not_changed(self):
        tree = ("A", (), (("if", X, (("done", 1),), (("done", 2),), 3),), 4)
        bare(tree)
        self.assertEqual(tree, ("A", (), (("if", X, (("done", 1),), (("done", 2),), 3),), 4))


NAMES = ("x", "y", "c", "Long_name_0123456789", "Z9")


class Maker:
    """Makes random trees of the language, with indexes that stand for nothing."""

    def __init__(self, seed):
        self.random = random.Random(seed)

    def name(self):
        return self.random.choice(NAMES)

    def kind(self):
        return self.random.choice(("int", "bool", ("name", self.name()), ("dual", self.name())))

    def talk(self, levels):
        form = self.random.choice(("say", "hear", "end", "name", "dual"))
        if form == "end":
            return ("end",)
        if levels == 1 or form in ("name", "dual"):
            return (self.random.choice(("name", "dual")), self.name())
        options = tuple(
            (self.name(), self.random.choice((None, self.kind())), self.talk(levels - 1))
            for _ in range(self.random.randint(1, 3)))
        return (form, options)

    def expression(self, levels):
        form = self.random.choice(("int", "bool", "var", "not", "add", "sub", "mul", "lt", "le", "eq", "and", "or"))
        if levels == 1 or form in ("int", "bool", "var"):
            return self.random.choice((("int", self.random.randint(0, 65535)), ("bool", True), ("bool", False),
                                       ("var", self.name())))
        if form == "not":
            return ("not", self.expression(levels - 1))
        return (form, self.expression(levels - 1), self.expression(levels - 1))

    def arguments(self):
        return tuple(self.expression(3) for _ in range(self.random.randint(0, 3)))

    def simple(self):
        at = self.random.randint(0, 99)
        return self.random.choice((
            ("let", self.name(), self.expression(4), at), ("say", self.name(), self.name(), None, at),
            ("say", self.name(), self.name(), self.expression(3), at), ("close", self.name(), at),
            ("drop", self.name(), at), ("open", self.name(), self.name(), self.arguments(), at)))

    def last(self, levels):
        at = self.random.randint(0, 99)
        form = self.random.choice(("done", "fail", "become", "if", "hear"))
        if form == "become":
            return ("become", self.name(), self.arguments(), at)
        if levels == 1 or form in ("done", "fail"):
            return (self.random.choice(("done", "fail")), at)
        if form == "if":
            return ("if", self.expression(3), self.block(levels - 1), self.block(levels - 1), at)
        branches = tuple(
            (self.name(), self.random.choice((None, self.name())), self.block(levels - 1))
            for _ in range(self.random.randint(0, 3)))
        return ("hear", self.name(), branches, self.block(levels - 1), at)

    def block(self, levels):
        simple = tuple(self.simple() for _ in range(self.random.randint(0, 2)))
        return simple + (self.last(levels),)

    def program(self):
        program = Program()
        for name in self.random.sample(NAMES, 3):
            program.add_talk(name, self.talk(4))
        for name in self.random.sample(NAMES, 3):
            parameters = tuple((self.name(), self.kind()) for _ in range(self.random.randint(0, 3)))
            program.add_actor((name, parameters, self.block(4), self.random.randint(0, 99)))
        return program


class RoundTripTest(unittest.TestCase):
    def assert_comes_back(self, program):
        text = show_program(program)
        again = program_of(text)
        self.assertEqual(again.talks(), program.talks())
        self.assertEqual([bare(definition) for definition in again.actors()],
                         [bare(definition) for definition in program.actors()])
        self.assertEqual(show_program(again), text)

    def test_random_trees(self):
        for seed in range(400):
            maker = Maker(seed)
            talk, e = maker.talk(5), maker.expression(6)
            self.assertEqual(parse_talk(show_talk(talk)), talk)
            self.assertEqual(parse_expression(show_expression(e)), e)

    def test_random_programs(self):
        many = 0
        for seed in range(200):
            program = Maker(seed).program()
            if len(show_program(program)) <= 20000:
                self.assert_comes_back(program)
                many += 1
        self.assertGreater(many, 100)

    def test_a_written_program(self):
        self.assert_comes_back(program_of("""
            # an adder
            talk T = hear { add(int): say { sum(int): T }, stop: end };
            actor Adder(c: T, total: int) {
              hear c {
                add(n): { say c.sum(total + n * 1); become Adder(c, total + n); }
                stop: { close c; done; }
                fall: { if not total < 10 and true or false { fail; } else { done; } }
              }
            }
            actor Main() { open a = Adder(0); say a.add(1 + 2 - 3); drop a; done; }
        """))

    def test_items_but_for_the_indexes(self):
        text = "actor A(x: int) { if x == 1 { done; } else { fail; } } talk T = ~T;"
        items = parse(show_program(program_of(text)))
        self.assertEqual(items[0], ("talk", "T", ("dual", "T")))
        self.assertEqual(bare(items[1][1]), bare(parse(text)[0][1]))
        self.assertNotEqual(items[1][1], parse(text)[0][1])


if __name__ == "__main__":
    unittest.main()
