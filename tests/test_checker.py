"""Promises 22.1 to 22.3, and 3.7."""

import unittest

from pourparler.checker import check_block, check_definition, check_program, mistake
from pourparler.contexts import Context
from pourparler.errors import Mistaken
from pourparler.parser import parse
from pourparler.program import Program, program_of

END = ("end",)
TALKS = """
talk T = say { a: end, n(int): T, b(bool): T, h(S): T };
talk S = hear { x: end, v(int): S, f(bool): S, e(B): S };
talk B = say { a: end };
talk E = end;
talk D = ~T;
talk L = D;
talk X = say { g(X): end };
"""
OTHERS = """
actor Number(i: int) { done; }
actor Worker(c: ~T, n: int, p: bool) { drop c; done; }
actor Sayer(c: T) { say c.a; close c; done; }
actor Taker(c: E, d: B, i: int, f: B) { close c; drop d; drop f; done; }
actor Main() { done; }
"""
OTHER_MAIN = "actor Main() { done; }"
PARAMETERS = "c: T, s: S, k: B, e: E, i: int, p: bool"
# The ends of the parameters are gone behind this.
ALL = "drop c; drop s; drop k; drop e; "


class CheckerCase(unittest.TestCase):
    def assert_accepted(self, text):
        program = program_of(text)
        self.assertIsNone(mistake(program), text)
        self.assertIsNone(check_program(program))
        for definition in program.actors():
            self.assertIsNone(check_definition(program, definition))

    def assert_raises(self, expected, check, *arguments):
        with self.assertRaises(Mistaken) as caught:
            check(*arguments)
        self.assertEqual((caught.exception.at, caught.exception.why), expected)

    def assert_refused(self, text, why):
        """The index of the first mistake is that of the mark in the text."""
        expected = (text.index("@"), why)
        program = program_of(text.replace("@", "", 1))
        self.assertEqual(mistake(program), expected, text)
        self.assert_raises(expected, check_program, program)

    def text_of(self, block, parameters=PARAMETERS):
        return f"{TALKS} actor A({parameters}) {{ {block} }} {OTHERS}"

    def assert_block(self, block, parameters=PARAMETERS):
        self.assert_accepted(self.text_of(block, parameters))

    def assert_mistaken(self, block, why, parameters=PARAMETERS):
        text = self.text_of(block, parameters)
        self.assert_refused(text, why)
        program = program_of(text.replace("@", "", 1))
        definition = program.actor("A")
        expected = (text.index("@"), why)
        self.assert_raises(expected, check_definition, program, definition)
        self.assert_raises(expected, check_block, program, Context(definition[1]), definition[2])


class ProgramTest(CheckerCase):
    def assert_mistake(self, text, at, why):
        program = program_of(text)
        self.assertEqual(mistake(program), (at, why))
        self.assert_raises((at, why), check_program, program)

    def test_small_programs(self):
        self.assert_accepted("actor Main() { done; }")
        self.assert_accepted("actor Main() { fail; }")
        self.assert_accepted(TALKS + OTHERS)

    def test_talks(self):
        main = "actor Main() { done; }"
        self.assert_mistake(" talk T = U;" + main, 0, "talks")
        self.assert_mistake(" talk T = say { a(U): end };" + main, 0, "talks")
        self.assert_mistake(" talk T = say { a: end, a: end };" + main, 0, "talks")
        self.assert_mistake(" talk T = ~T;" + main, 0, "talks")
        self.assert_mistake(main + "talk T = end; talk U = V; talk V = U;", 0, "talks")

    def test_main(self):
        self.assert_mistake("", 0, "main")
        self.assert_mistake(" actor A() { done; }", 0, "main")
        self.assert_mistake(" actor main() { done; }", 0, "main")
        self.assert_mistake(" talk Main = end;", 0, "main")
        self.assert_mistake("actor A() { done; } actor Main(i: int) { done; }", 20, "main")
        self.assert_mistake("  actor Main(c: T) { drop c; done; } talk T = end;", 2, "main")

    def test_talks_come_before_main(self):
        self.assert_mistake("  talk T = U; actor Main(i: int) { done; }", 0, "talks")
        self.assert_mistake("  talk T = U;", 0, "talks")

    def test_main_comes_before_the_definitions(self):
        self.assert_mistake("actor A(i: int, i: int) { close i; done; }", 0, "main")
        self.assert_refused("actor A(i: int, i: int) { close i; done; } @actor Main(i: U) { close i; done; }", "main")

    def test_parameters_come_before_all_blocks(self):
        self.assert_refused("actor Main() { close z; done; } @actor A(i: int, i: int) { done; }", "twice")
        self.assert_refused("actor Main() { close z; done; } actor B(i: int) { done; } @actor A(c: T) { fail; }",
                            "unknown")

    def test_parameters_in_the_order_of_the_definitions(self):
        self.assert_refused("@actor A(c: T) { fail; } actor B(i: int, i: int) { done; } actor Main() { done; }",
                            "unknown")
        self.assert_refused("@actor B(i: int, i: int) { done; } actor A(c: T) { fail; } actor Main() { done; }",
                            "twice")

    def test_blocks_in_the_order_of_the_definitions(self):
        self.assert_refused("actor B() { done; } actor A() { @close z; done; } "
                            "actor Main() { let x = 1 + true; done; }", "unknown")
        self.assert_refused("actor Main() { @let x = 1 + true; done; } actor A() { close z; done; }", "kind")

    def test_statements_in_order(self):
        self.assert_refused("actor Main() { let x = 1; @let x = 2; close z; done; }", "twice")

    def test_definitions_may_be_used_before_they_stand(self):
        self.assert_accepted("actor Main() { become A(3); } actor A(i: int) { become A(i + 1); }")

    def test_talks_may_stand_behind(self):
        self.assert_accepted("actor Main() { open c = A(); say c.a; close c; done; } "
                             "actor A(c: ~T) { fail; } talk T = say { a: end };")

    def test_the_program_stays_the_same(self):
        program = program_of(TALKS + OTHERS)
        before = (program.talks(), program.actors())
        check_program(program)
        self.assertEqual((program.talks(), program.actors()), before)

    def test_any_index(self):
        program = Program()
        program.add_actor(("Main", (), (("close", "z", -7),), 4))
        self.assertEqual(mistake(program), (-7, "unknown"))


class ParametersTest(CheckerCase):
    def assert_parameters(self, parameters, why):
        text = f"{TALKS} {OTHERS} @actor A({parameters}) {{ close none; done; }}"
        self.assert_refused(text, why)
        program = program_of(text.replace("@", "", 1))
        self.assert_raises((text.index("@"), why), check_definition, program, program.actor("A"))

    def test_names_that_stand_twice(self):
        self.assert_parameters("i: int, i: int", "twice")
        self.assert_parameters("i: int, c: T, j: bool, c: int", "twice")

    def test_unknown_talks(self):
        self.assert_parameters("c: U", "unknown")
        self.assert_parameters("c: ~U", "unknown")
        self.assert_parameters("i: int, p: bool, c: T, d: ~t", "unknown")
        self.assert_parameters("c: Main", "unknown")

    def test_parameter_by_parameter_and_the_name_first(self):
        self.assert_parameters("i: int, i: U", "twice")
        self.assert_parameters("c: U, c: int", "unknown")
        self.assert_parameters("i: int, c: U, i: int", "unknown")
        self.assert_parameters("i: int, i: int, c: U", "twice")

    def test_the_block_has_the_parameters(self):
        self.assert_block(ALL + "let x = i + 1; let y = p and true; done;")
        self.assert_block("become A(c, s, k, e, i, p);")
        self.assert_mistaken("@close z; done;", "unknown", "")


class BlockTest(CheckerCase):
    def test_the_context_changes(self):
        program = program_of(TALKS + OTHERS)
        context = Context((("c", ("name", "T")), ("i", "int")))
        self.assertIsNone(check_block(program, context, (("let", "x", ("var", "i"), 0), ("fail", 1))))
        self.assertEqual(context.kind("c"), ("name", "T"))
        self.assertEqual(context.kind("i"), "int")

    def test_whole_talks_in_the_context(self):
        program = program_of(TALKS + OTHERS)
        talk = ("say", (("h", ("name", "S"), ("hear", (("n", "bool", END),))),))
        context = Context((("c", talk), ("d", ("hear", (("x", None, END),)))))
        block = parse("actor A() { say c.h(d); hear c { n(b): { let q = not b; close c; done; } "
                      "fall: { done; } } }")[0][1][2]
        self.assertIsNone(check_block(program, context, block))

    def test_many_statements(self):
        self.assert_block("say c.n(1); " * 1000 + "say c.a; close c; done;", "c: T")
        self.assert_mistaken("say c.n(1); " * 1000 + "say c.a; @say c.n(1); done;", "talk", "c: T")

    def test_a_long_expression(self):
        self.assert_block("let x = " + "+".join(["i"] * 9000) + "; done;", "i: int")

    def test_deep_blocks(self):
        block = (("fail", 0),)
        for at in range(90):
            block = (("hear", "c", (("a", "x" + str(at), block),), (("fail", 0),), at),)
        program = program_of("talk T = hear { a(int): T }; actor Main() { done; }")
        self.assertIsNone(check_block(program, Context((("c", ("name", "T")),)), block))
        self.assert_raises((89, "talk"), check_block, program, Context((("c", ("dual", "T")),)), block)


class LetTest(CheckerCase):
    def test_the_kind_of_the_expression(self):
        self.assert_mistaken("@let x = z; done;", "unknown")
        self.assert_mistaken("@let x = c; done;", "kind")
        self.assert_mistaken("@let x = 1 + p; done;", "kind")
        self.assert_mistaken("@let x = x; done;", "unknown")

    def test_the_name(self):
        self.assert_mistaken("let x = 1; @let x = 1; done;", "twice")
        self.assert_mistaken("@let i = 1; done;", "twice")
        self.assert_mistaken("@let c = 1; done;", "twice")

    def test_the_expression_comes_first(self):
        self.assert_mistaken("@let i = z; done;", "unknown")
        self.assert_mistaken("@let i = i and p; done;", "kind")

    def test_the_effect(self):
        self.assert_block(ALL + "let x = 1; let y = x < i; let z = y or p; done;")
        self.assert_mistaken("let x = 1; @let y = x or p; done;", "kind")
        self.assert_mistaken("let x = true; @let y = x + 1; done;", "kind")
        self.assert_mistaken("let x = 1; @close x; done;", "kind")


class SayTest(CheckerCase):
    def test_the_end(self):
        self.assert_mistaken("@say z.a; done;", "unknown")
        self.assert_mistaken("@say i.a; done;", "kind")
        self.assert_mistaken("@say p.a; done;", "kind")

    def test_the_talk(self):
        self.assert_mistaken("@say s.x; done;", "talk")
        self.assert_mistaken("@say e.x; done;", "talk")
        self.assert_mistaken("say c.a; @say c.a; done;", "talk")

    def test_the_label(self):
        self.assert_mistaken("@say c.x; done;", "label")
        self.assert_mistaken("@say c.A; done;", "label")
        self.assert_mistaken("@say k.n(1); done;", "label")

    def test_the_payload(self):
        self.assert_mistaken("@say c.a(1); done;", "payload")
        self.assert_mistaken("@say c.n; done;", "payload")
        self.assert_mistaken("@say c.h; done;", "payload")

    def test_plain_arguments(self):
        self.assert_mistaken("@say c.n(p); done;", "kind")
        self.assert_mistaken("@say c.n(z); done;", "unknown")
        self.assert_mistaken("@say c.n(s); done;", "kind")
        self.assert_mistaken("@say c.n(1 + true); done;", "kind")
        self.assert_mistaken("@say c.b(3); done;", "kind")
        self.assert_mistaken("@say c.b(not z); done;", "unknown")
        self.assert_mistaken("@say c.n(c); done;", "kind")
        self.assert_mistaken("@say c.n(1 + c); done;", "kind")

    def test_ends_as_arguments(self):
        self.assert_mistaken("@say c.h(1); done;", "kind")
        self.assert_mistaken("@say c.h(true); done;", "kind")
        self.assert_mistaken("@say c.h(s + 1); done;", "kind")
        self.assert_mistaken("@say c.h(not z); done;", "kind")
        self.assert_mistaken("@say c.h(z); done;", "unknown")
        self.assert_mistaken("@say c.h(i); done;", "kind")
        self.assert_mistaken("@say c.h(e); done;", "fit")
        self.assert_mistaken("@say c.h(k); done;", "fit")

    def test_an_end_is_not_said_on_itself(self):
        self.assert_mistaken("@say c.h(c); done;", "kind")
        self.assert_mistaken("@say c.g(c); done;", "kind", "c: X")
        self.assert_block("say c.g(d); close c; done;", "c: X, d: X")

    def test_subtalks_as_arguments(self):
        talks = "talk P = say { p(Q): end }; talk Q = say { a: end }; talk Q2 = say { b: end, a: end };"
        good = "{ say c.p(d); close c; done; }"
        self.assert_accepted(f"{talks} actor A(c: P, d: Q2) {good} actor B(c: P, d: Q) {good} {OTHER_MAIN}")
        self.assert_refused(f"{talks} talk R = say {{ p(Q2): end }}; "
                            f"actor A(c: R, d: Q) {{ @say c.p(d); close c; done; }} {OTHER_MAIN}", "fit")
        self.assert_refused(f"{talks} actor A(c: P, d: ~Q) {{ @say c.p(d); close c; done; }} {OTHER_MAIN}", "fit")

    def test_the_talk_of_the_argument_is_the_one_that_it_has_then(self):
        talks = "talk P = say { p(E): P }; talk E = end; talk Q = say { a: end };"
        self.assert_accepted(f"{talks} actor A(c: P, d: Q) {{ say d.a; say c.p(d); drop c; done; }} {OTHER_MAIN}")
        self.assert_refused(f"{talks} actor A(c: P, d: Q) {{ @say c.p(d); drop c; done; }} {OTHER_MAIN}", "fit")

    def test_order(self):
        self.assert_mistaken("@say z.x(y); done;", "unknown")
        self.assert_mistaken("@say s.q(z); done;", "talk")
        self.assert_mistaken("@say c.q(z); done;", "label")
        self.assert_mistaken("@say c.a(z); done;", "payload")
        self.assert_mistaken("@say c.a(c); done;", "payload")

    def test_the_effect_on_the_end(self):
        self.assert_block("say c.n(1); say c.n(i + 2); say c.b(p); say c.a; close c; done;", "c: T, i: int, p: bool")
        self.assert_mistaken("say c.n(1); @close c; done;", "talk", "c: T")
        self.assert_mistaken("say k.a; @say k.a; done;", "talk")

    def test_the_effect_on_the_argument(self):
        self.assert_mistaken("say c.h(s); @drop s; done;", "unknown")
        self.assert_mistaken("say c.h(s); @say c.h(s); done;", "unknown")
        self.assert_block("say c.h(s); let s = 1; say c.n(s); drop c; done;", "c: T, s: S")
        self.assert_block("say c.n(i); say c.n(i); say c.b(p); drop c; let x = i; done;", "c: T, i: int, p: bool")


class CloseAndDropTest(CheckerCase):
    def test_the_end(self):
        for word in ("close", "drop"):
            self.assert_mistaken(f"@{word} z; done;", "unknown")
            self.assert_mistaken(f"@{word} i; done;", "kind")
            self.assert_mistaken(f"@{word} p; done;", "kind")

    def test_the_talk_of_a_close(self):
        self.assert_mistaken("@close c; done;", "talk")
        self.assert_mistaken("@close s; done;", "talk")
        self.assert_block("close e; done;", "e: E")
        self.assert_block("close e; done;", "e: ~E")

    def test_a_drop_takes_any_talk(self):
        self.assert_block(ALL + "done;")

    def test_the_effect(self):
        self.assert_mistaken("close e; @close e; done;", "unknown")
        self.assert_mistaken("drop c; @drop c; done;", "unknown")
        self.assert_mistaken("drop c; @say c.a; done;", "unknown")
        self.assert_block(ALL + "let e = 1; let c = e + i; done;")
        self.assert_block("close e; open e = Sayer(); drop e; done;", "e: E")


class TalksOfEndsTest(CheckerCase):
    """What is said of the talk of an end is said of its head."""

    def test_dual_names_and_names_that_lead_on(self):
        hearing = "hear c { a: { close c; done; } n(x): { fail; } b(x): { fail; } h(x): { fail; } fall: { done; } }"
        for kind in ("~T", "D", "L"):
            self.assert_block(hearing, f"c: {kind}")
            self.assert_mistaken("@say c.a; done;", "talk", f"c: {kind}")
        for kind in ("T", "~D", "~L"):
            self.assert_block("say c.n(1); say c.a; close c; done;", f"c: {kind}")
            self.assert_mistaken("@" + hearing, "talk", f"c: {kind}")

    def test_duals_of_payloads(self):
        # The dual turns the talk, but not the payload.
        self.assert_block("say s.e(k); say s.x; close s; done;", "s: ~S, k: B")
        self.assert_mistaken("@say s.e(k); done;", "fit", "s: ~S, k: ~B")

    def test_what_stands_behind_a_label_of_a_dual(self):
        self.assert_block("say s.v(1); say s.f(true); say s.x; close s; done;", "s: ~S")
        self.assert_mistaken("say s.v(1); say s.x; @say s.x; done;", "talk", "s: ~S")


class OpenTest(CheckerCase):
    def test_the_definition(self):
        self.assert_mistaken("@open w = Nobody(); done;", "unknown")
        self.assert_mistaken("@open w = T(); done;", "unknown")
        self.assert_mistaken("@open w = Main(); done;", "open")
        self.assert_mistaken("@open w = Number(); done;", "open")
        self.assert_mistaken("@open w = Number(1); done;", "open")

    def test_the_count(self):
        self.assert_mistaken("@open w = Worker(); done;", "count")
        self.assert_mistaken("@open w = Worker(1); done;", "count")
        self.assert_mistaken("@open w = Worker(1, true, 3); done;", "count")
        self.assert_mistaken("@open w = Sayer(c); done;", "count")

    def test_the_arguments(self):
        self.assert_mistaken("@open w = Worker(1, 2); done;", "kind")
        self.assert_mistaken("@open w = Worker(p, true); done;", "kind")
        self.assert_mistaken("@open w = Worker(c, true); done;", "kind")
        self.assert_mistaken("@open w = Worker(z, 2); done;", "unknown")
        self.assert_mistaken("@open w = Worker(true, z); done;", "kind")
        self.assert_mistaken("@open w = Taker(e, 1, k); done;", "fit")
        self.assert_mistaken("@open w = Taker(1, 1, k); done;", "kind")
        self.assert_mistaken("@open w = Taker(i, 1, k); done;", "kind")
        self.assert_mistaken("@open w = Taker(z, 1, k); done;", "unknown")
        self.assert_mistaken("@open w = Taker(k, 1, s); done;", "fit")

    def test_an_end_is_an_argument_once(self):
        self.assert_mistaken("@open w = Taker(k, 1, k); done;", "unknown")
        self.assert_mistaken("@open w = Taker(k, k, c); done;", "unknown")
        self.assert_mistaken("open w = Taker(k, 1, c); @drop k; done;", "unknown")
        self.assert_mistaken("open w = Taker(k, 1, c); @drop c; done;", "unknown")

    def test_the_name(self):
        self.assert_mistaken("@open i = Sayer(); done;", "twice")
        self.assert_mistaken("@open c = Sayer(); done;", "twice")
        self.assert_mistaken("@open k = Worker(1, p); done;", "twice")

    def test_the_name_of_an_argument_is_free_again(self):
        self.assert_block("open k = Taker(c, 1, k); close k; done;", "c: T, k: B")

    def test_order(self):
        self.assert_mistaken("@open i = Nobody(z); done;", "unknown")
        self.assert_mistaken("@open c = Worker(1); done;", "count")
        self.assert_mistaken("@open i = Worker(true, true); done;", "kind")
        self.assert_mistaken("@open i = Worker(1, z); done;", "unknown")

    def test_the_effect(self):
        self.assert_block("open w = Worker(1, true); say w.n(1); say w.a; close w; done;", "")
        self.assert_mistaken("open w = Worker(1, true); @close w; done;", "talk", "")
        self.assert_block("open w = Sayer(); hear w { a: { close w; done; } n(x): { fail; } b(x): { fail; } "
                          "h(x): { fail; } fall: { done; } }", "")
        self.assert_mistaken("open w = Sayer(); @say w.a; done;", "talk", "")
        self.assert_mistaken("open w = Sayer(); @done;", "left", "")
        self.assert_mistaken("open w = Sayer(); @open w = Sayer(); done;", "twice", "")


class LeavingTest(CheckerCase):
    def test_done(self):
        self.assert_block("done;", "i: int, p: bool")
        self.assert_mistaken("@done;", "left")
        self.assert_mistaken("drop c; drop s; drop k; @done;", "left")
        self.assert_mistaken("@done;", "left", "i: int, e: E")

    def test_fail(self):
        self.assert_block("fail;")
        self.assert_block("open w = Sayer(); let x = 1; fail;")

    def test_the_definition_of_a_become(self):
        self.assert_mistaken("@become Nobody(); ", "unknown")
        self.assert_mistaken("@become T();", "unknown")
        self.assert_block("become Main();", "i: int")

    def test_the_count_of_a_become(self):
        self.assert_mistaken("@become Number();", "count", "i: int")
        self.assert_mistaken("@become Number(1, 2);", "count", "i: int")
        self.assert_mistaken("@become Main(i);", "count", "i: int")
        self.assert_mistaken("@become Sayer();", "count")

    def test_the_arguments_of_a_become(self):
        self.assert_block("become Number(i * 2);", "i: int")
        self.assert_mistaken("@become Number(p);", "kind", "p: bool")
        self.assert_mistaken("@become Number(z);", "unknown", "p: bool")
        self.assert_mistaken("@become Number(c);", "kind", "c: T")
        self.assert_block("become Sayer(c);", "c: T, i: int")
        self.assert_block("become Sayer(c);", "c: ~D")
        self.assert_mistaken("@become Sayer(c);", "fit", "c: ~T")
        self.assert_mistaken("@become Sayer(k);", "fit", "k: B")
        self.assert_mistaken("@become Sayer(1);", "kind", "")
        self.assert_mistaken("@become Sayer(i);", "kind", "i: int")
        self.assert_mistaken("@become Sayer(z);", "unknown", "")
        self.assert_block("become Taker(e, c, 2, k);", "e: E, c: T, k: B")
        self.assert_mistaken("@become Taker(e, k, 2, k);", "unknown", "e: E, k: B")

    def test_ends_that_are_left(self):
        self.assert_mistaken("@become Main();", "left", "e: E")
        self.assert_mistaken("@become Sayer(c);", "left", "c: T, d: T")

    def test_the_order_of_a_become(self):
        self.assert_mistaken("@become Nobody(z);", "unknown")
        self.assert_mistaken("@become Sayer(z, z);", "count")
        self.assert_mistaken("@become Taker(e, 1, z, k);", "kind", "e: E, k: B")
        self.assert_mistaken("@become Number(z);", "unknown", "e: E")
        self.assert_mistaken("@become Number(true);", "kind", "e: E")


class IfTest(CheckerCase):
    def test_the_expression(self):
        self.assert_block("if i < 3 { done; } else { fail; }", "i: int")
        self.assert_mistaken("@if i { done; } else { done; }", "kind")
        self.assert_mistaken("@if z { done; } else { done; }", "unknown")
        self.assert_mistaken("@if c { done; } else { done; }", "kind")
        self.assert_mistaken("@if 1 == true { done; } else { done; }", "kind")

    def test_the_blocks_in_order(self):
        self.assert_mistaken("if p { @close z; done; } else { let x = c; done; }", "unknown")
        self.assert_mistaken("if p { fail; } else { @let x = c; done; }", "kind")
        self.assert_mistaken("if p { @done; } else { close z; fail; }", "left")

    def test_each_block_in_the_context_before(self):
        self.assert_block("let x = 1; if p { let y = x; drop c; done; } else { let y = p; say c.a; close c; done; }",
                          "c: T, p: bool")
        self.assert_mistaken("if p { drop c; done; } else { @done; }", "left", "c: T, p: bool")
        self.assert_mistaken("if p { say c.a; close c; done; } else { @close c; done; }", "talk", "c: T, p: bool")
        self.assert_mistaken("if p { let y = 1; done; } else { @let x = y; done; }", "unknown", "p: bool")

    def test_blocks_inside(self):
        self.assert_mistaken("if p { if i < 1 { fail; } else { @let i = 1; done; } } else { done; }", "twice")


class HearTest(CheckerCase):
    GOOD = ("x: { close s; done; } v(n): { let m = n + 1; drop s; done; } f(n): { let m = not n; drop s; done; } "
            "e(n): { say n.a; close n; drop s; done; }")

    def assert_hear(self, branches, fallen="done;", parameters="s: S"):
        self.assert_block(f"hear s {{ {branches} fall: {{ {fallen} }} }}", parameters)

    def assert_wrong(self, branches, why, fallen="done;", parameters="s: S"):
        mark = "" if "@" in branches + fallen else "@"
        self.assert_mistaken(f"{mark}hear s {{ {branches} fall: {{ {fallen} }} }}", why, parameters)

    def test_good_branches(self):
        self.assert_hear(self.GOOD)
        self.assert_hear("e(n): { fail; } f(n): { fail; } x: { fail; } v(n): { fail; }")

    def test_the_end(self):
        self.assert_mistaken("@hear z { fall: { done; } }", "unknown")
        self.assert_mistaken("@hear i { fall: { done; } }", "kind")

    def test_the_talk(self):
        self.assert_mistaken("@hear c { a: { fail; } fall: { done; } }", "talk")
        self.assert_mistaken("@hear e { fall: { done; } }", "talk")

    def test_a_hear_without_branches(self):
        self.assert_wrong("", "missing")
        self.assert_mistaken("@hear c { fall: { done; } }", "missing", "c: ~B")
        self.assert_mistaken("@hear c { fall: { done; } }", "talk", "c: B")

    def test_labels(self):
        self.assert_wrong(self.GOOD + "a: { fail; }", "label")
        self.assert_wrong("z: { fail; }" + self.GOOD, "label")
        self.assert_wrong(self.GOOD + "x: { fail; }", "twice")
        self.assert_wrong("v(m): { fail; }" + self.GOOD, "twice")

    def test_payloads(self):
        self.assert_wrong("x(n): { fail; } v(n): { fail; } f(n): { fail; } e(n): { fail; }", "payload")
        self.assert_wrong("x: { fail; } v: { fail; } f(n): { fail; } e(n): { fail; }", "payload")
        self.assert_wrong("x: { fail; } v(n): { fail; } f(n): { fail; } e: { fail; }", "payload")

    def test_names(self):
        good = "x: { fail; } f(n): { fail; } e(n): { fail; }"
        for name in ("i", "k", "s"):
            self.assert_wrong(f"{good} v({name}): {{ fail; }}", "twice", parameters="s: S, i: int, k: B")
        self.assert_wrong(good + "v(y): { fail; }", "twice", parameters="y: bool, s: S")
        self.assert_hear(good + "v(s2): { fail; }", "drop k; done;", "s: S, i: int, k: B")

    def test_missing_labels(self):
        self.assert_wrong("x: { fail; }", "missing")
        self.assert_wrong("x: { fail; } v(n): { fail; } e(n): { fail; }", "missing")

    def test_branches_in_order(self):
        self.assert_wrong("z: { fail; } x(n): { fail; }", "label")
        self.assert_wrong("x(n): { fail; } z: { fail; }", "payload")
        self.assert_wrong("x: { fail; } x: { fail; } v: { fail; }", "twice")
        self.assert_wrong("v: { fail; } v: { fail; }", "payload")

    def test_conditions_of_one_branch_in_order(self):
        self.assert_wrong("z(s): { fail; }", "label")
        self.assert_wrong("x: { fail; } x(s): { fail; }", "twice")
        self.assert_wrong("x(s): { fail; }", "payload")

    def test_branches_before_missing_labels_before_blocks(self):
        self.assert_wrong("x: { close z; done; } v(s): { fail; }", "twice")
        self.assert_wrong("x: { close z; done; }", "missing")
        self.assert_wrong("x: { close z; done; }", "missing", fallen="close z; done;")

    def test_blocks_in_order(self):
        rest = "f(n): { fail; } e(n): { fail; }"
        self.assert_wrong("x: { @close z; done; } v(n): { let n = 1; done; }" + rest, "unknown", "let x = 1 + p; done;")
        self.assert_wrong("x: { fail; } v(n): { @let n = 1; done; }" + rest, "twice", "let x = 1 + p; done;")
        self.assert_wrong("v(n): { @let n = 1; done; } x: { close z; done; }" + rest, "twice")
        self.assert_wrong(self.GOOD, "unknown", "@let x = 1 + p; done;")

    def test_the_talk_behind_the_label(self):
        rest = "f(n): { fail; } e(n): { fail; }"
        self.assert_wrong("x: { fail; } v(n): { @close s; done; }" + rest, "talk")
        self.assert_wrong("x: { @hear s { fall: { done; } } } v(n): { fail; }" + rest, "talk")
        self.assert_wrong("x: { @done; } v(n): { fail; }" + rest, "left")
        again = "hear s { x: { close s; done; } v(o): { fail; } f(o): { fail; } e(o): { fail; } fall: { done; } }"
        self.assert_hear(f"x: {{ close s; done; }} v(n): {{ {again} }}" + rest)

    def test_the_kinds_of_the_names(self):
        self.assert_wrong("x: { fail; } v(n): { @let m = not n; fail; } f(n): { fail; } e(n): { fail; }", "kind")
        self.assert_wrong("x: { fail; } v(n): { fail; } f(n): { @let m = n + 1; fail; } e(n): { fail; }", "kind")
        self.assert_wrong("x: { fail; } v(n): { fail; } f(n): { fail; } e(n): { drop s; @done; }", "left")
        self.assert_wrong("x: { fail; } v(n): { fail; } f(n): { fail; } e(n): { @close n; fail; }", "talk")

    def test_names_are_bound_in_their_own_branch_only(self):
        self.assert_wrong("v(n): { fail; } x: { @let m = n; fail; } f(o): { fail; } e(n): { fail; }", "unknown")
        self.assert_wrong("v(n): { fail; } x: { fail; } f(o): { @let m = n; fail; } e(n): { fail; }", "unknown")
        self.assert_wrong("v(n): { fail; } x: { fail; } f(o): { fail; } e(n): { fail; }", "unknown",
                          "@let m = n; done;")

    def test_each_block_in_the_context_before(self):
        self.assert_hear("x: { drop k; close s; done; } v(n): { let y = n; drop k; drop s; done; } "
                         "f(n): { let y = n; say k.a; close k; drop s; done; } e(n): { fail; }",
                         "let y = 1; drop k; done;", "s: S, k: B")
        self.assert_wrong("x: { drop k; close s; done; } v(n): { drop s; @done; } f(n): { fail; } e(n): { fail; }",
                          "left", parameters="s: S, k: B")
        self.assert_wrong("x: { drop k; close s; done; } v(n): { fail; } f(n): { fail; } e(n): { fail; }",
                          "left", "@done;", "s: S, k: B")

    def test_the_end_is_gone_behind_fall(self):
        self.assert_wrong(self.GOOD, "unknown", "@drop s; done;")
        self.assert_hear(self.GOOD, "let s = 1; let t = s + 1; done;")
        self.assert_hear(self.GOOD, "open s = Sayer(); drop s; done;")


class FirstMistakeTest(CheckerCase):
    def test_a_mistake_in_an_earlier_block(self):
        self.assert_refused(TALKS + "actor A(c: T) { if true { @done; } else { close z; done; } } "
                            "actor B(i: int) { close i; done; } actor Main() { close z; done; }", "left")


if __name__ == "__main__":
    unittest.main()
