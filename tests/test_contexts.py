"""Promise 21.1."""

import unittest

from pourparler.contexts import Context

END = ("end",)
TALK = ("say", (("a", None, END),))
PAIRS = (("x", "int"), ("c", TALK), ("b", "bool"), ("d", ("name", "T")), ("e", ("dual", "T")), ("f", END))


class ContextTest(unittest.TestCase):
    def test_empty(self):
        context = Context()
        self.assertEqual((context.pairs(), context.ends(), list(context)), ([], [], []))
        self.assertIs(context.binds("x"), False)
        self.assertIs(context.is_end("x"), False)

    def test_empty_contexts_are_independent(self):
        Context().bind("x", "int")
        self.assertIs(Context().binds("x"), False)

    def test_pairs(self):
        context = Context(PAIRS)
        self.assertEqual(context.pairs(), list(PAIRS))
        for name, kind in PAIRS:
            self.assertIs(context.binds(name), True)
            self.assertEqual(context.kind(name), kind)
        self.assertIs(context.binds("y"), False)

    def test_iterating(self):
        context = Context(PAIRS)
        self.assertEqual(list(context), list(PAIRS))
        self.assertEqual([name for name, _ in context], [name for name, _ in PAIRS])
        self.assertEqual(dict(context), dict(PAIRS))

    def test_ends(self):
        context = Context(PAIRS)
        self.assertEqual(context.ends(), ["c", "d", "e", "f"])
        self.assertEqual([context.is_end(name) for name, _ in PAIRS], [False, True, False, True, True, True])
        self.assertIs(context.is_end("y"), False)

    def test_bind(self):
        context = Context((("x", "int"),))
        context.bind("c", TALK)
        context.bind("a", "bool")
        self.assertEqual(context.pairs(), [("x", "int"), ("c", TALK), ("a", "bool")])
        self.assertEqual((context.kind("c"), context.ends()), (TALK, ["c"]))

    def test_change_keeps_the_place(self):
        context = Context(PAIRS)
        context.change("c", END)
        self.assertEqual(context.kind("c"), END)
        self.assertEqual(context.pairs(), [("x", "int"), ("c", END), *PAIRS[2:]])
        self.assertEqual(context.ends(), ["c", "d", "e", "f"])

    def test_release(self):
        context = Context(PAIRS)
        context.release("c")
        context.release("b")
        self.assertEqual(context.pairs(), [("x", "int"), *PAIRS[3:]])
        self.assertEqual(context.ends(), ["d", "e", "f"])
        self.assertIs(context.binds("c"), False)
        self.assertIs(context.is_end("c"), False)

    def test_a_released_name_is_bound_behind_all_others(self):
        context = Context((("x", "int"), ("c", TALK), ("d", END)))
        context.release("c")
        context.bind("c", "bool")
        self.assertEqual(context.pairs(), [("x", "int"), ("d", END), ("c", "bool")])
        context.release("d")
        context.bind("d", TALK)
        self.assertEqual(list(context), [("x", "int"), ("c", "bool"), ("d", TALK)])
        self.assertEqual(context.ends(), ["d"])

    def test_twins_are_independent(self):
        context = Context(PAIRS)
        twin = context.twin()
        self.assertEqual(twin.pairs(), list(PAIRS))
        twin.release("x")
        twin.change("c", END)
        twin.bind("y", "bool")
        self.assertEqual(context.pairs(), list(PAIRS))
        self.assertEqual(twin.pairs(), [("c", END), *PAIRS[2:], ("y", "bool")])
        other = context.twin()
        context.release("b")
        context.change("d", TALK)
        context.bind("z", "int")
        self.assertEqual(other.pairs(), list(PAIRS))
        self.assertEqual(twin.pairs(), [("c", END), *PAIRS[2:], ("y", "bool")])

    def test_twins_keep_the_order(self):
        context = Context(PAIRS)
        context.release("x")
        context.bind("x", "bool")
        self.assertEqual(list(context.twin()), [*PAIRS[1:], ("x", "bool")])

    def test_returned_lists_may_be_changed(self):
        context = Context(PAIRS)
        context.pairs().clear()
        context.ends().append("x")
        self.assertEqual((context.pairs(), context.ends()), (list(PAIRS), ["c", "d", "e", "f"]))


if __name__ == "__main__":
    unittest.main()
