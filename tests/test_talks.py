"""Promises 10.1 to 10.6."""

import unittest

from pourparler.errors import Clashing, Misused, Unknown
from pourparler.talks import check_table, dual, dual_kind, head, row_of, stages

END = ("end",)
SAY_A = ("say", (("go", "int", ("name", "A")), ("stop", None, END)))
HEAR_A = ("hear", (("go", "int", ("dual", "A")), ("stop", None, END)))
TABLE = {"A": SAY_A, "B": ("name", "A"), "C": ("dual", "B"), "D": ("dual", "C"), "E": END}


def say(*rows):
    return ("say", rows)


def hear(*rows):
    return ("hear", rows)


class CheckTableTest(unittest.TestCase):
    def assert_wrong(self, table, error, word):
        before = list(table.items())
        with self.assertRaises(error) as caught:
            check_table(table)
        self.assertEqual(caught.exception.why if error is Misused else caught.exception.name, word)
        self.assertEqual(list(table.items()), before)

    def test_well_formed_tables(self):
        for table in (
            {}, TABLE, {"T": END}, {"T": say(("a", ("dual", "T"), ("dual", "T")))},
            {"T": say(("a", None, END)), "U": ("dual", "T")}, {"T": ("name", "U"), "U": END},
            {"T": hear(("a", None, say(("a", None, END))), ("b", None, hear(("a", None, END), ("b", "int", END))))},
        ):
            self.assertIsNone(check_table(table))

    def test_labels_that_stand_twice(self):
        self.assert_wrong({"T": say(("a", None, END), ("a", None, END))}, Clashing, "a")
        self.assert_wrong({"T": hear(("a", "int", END), ("b", None, END), ("b", None, END), ("a", None, END))},
                          Clashing, "b")
        self.assert_wrong({"T": say(("x", None, hear(("a", None, END), ("a", None, END))))}, Clashing, "a")

    def test_unknown_names(self):
        self.assert_wrong({"T": ("name", "U")}, Unknown, "U")
        self.assert_wrong({"T": ("dual", "U")}, Unknown, "U")
        self.assert_wrong({"T": say(("a", None, ("name", "U")))}, Unknown, "U")
        self.assert_wrong({"T": say(("a", ("name", "U"), END))}, Unknown, "U")
        self.assert_wrong({"T": say(("a", ("dual", "U"), END))}, Unknown, "U")
        self.assert_wrong({"T": say(("a", None, hear(("b", ("dual", "U"), END))))}, Unknown, "U")

    def test_labels_are_no_names(self):
        self.assertIsNone(check_table({"T": say(("U", "int", END))}))

    def test_the_first_place_counts(self):
        twice = say(("a", None, END), ("a", None, END))
        self.assert_wrong({"T": ("name", "U"), "V": twice}, Unknown, "U")
        self.assert_wrong({"V": twice, "T": ("name", "U")}, Clashing, "a")
        # A label stands before its payload, and a payload before its talk.
        self.assert_wrong({"T": say(("a", None, END), ("a", ("name", "U"), ("name", "V")))}, Clashing, "a")
        self.assert_wrong({"T": say(("a", ("name", "U"), ("name", "V")))}, Unknown, "U")
        self.assert_wrong({"T": say(("a", ("name", "U"), twice))}, Unknown, "U")
        # The talk of a row stands before the next row.
        self.assert_wrong({"T": say(("a", None, ("name", "U")), ("a", None, END))}, Unknown, "U")
        self.assert_wrong({"T": say(("x", None, twice), ("y", None, ("name", "U")))}, Clashing, "a")
        self.assert_wrong({"T": say(("x", None, say(("b", None, END), ("b", None, END))), ("x", None, END))},
                          Clashing, "b")

    def test_names_that_come_back(self):
        self.assert_wrong({"T": ("name", "T")}, Misused, "T")
        self.assert_wrong({"T": ("dual", "T")}, Misused, "T")
        self.assert_wrong({"T": ("name", "U"), "U": ("dual", "T")}, Misused, "T")
        self.assert_wrong({"V": END, "U": ("dual", "T"), "T": ("name", "U")}, Misused, "U")
        self.assert_wrong({"V": ("name", "V2"), "V2": END, "A": ("name", "B"), "B": ("name", "C"),
                           "C": ("dual", "B")}, Misused, "A")

    def test_places_come_before_names_that_come_back(self):
        self.assert_wrong({"T": ("name", "T"), "V": ("name", "U")}, Unknown, "U")
        self.assert_wrong({"T": ("name", "T"), "V": say(("a", None, END), ("a", None, END))}, Clashing, "a")

    def test_long_chains_of_names(self):
        table = {"N" + str(i): ("dual", "N" + str(i + 1)) for i in range(5000)}
        table["N5000"] = END
        self.assertIsNone(check_table(table))
        table["N5000"] = ("name", "N4000")
        self.assert_wrong(table, Misused, "N0")

    def test_many_levels(self):
        talk = END
        for _ in range(130):
            talk = say(("a", None, talk))
        self.assertIsNone(check_table({"T": talk}))
        self.assert_wrong({"T": say(("b", None, talk), ("b", None, talk))}, Clashing, "b")


class DualTest(unittest.TestCase):
    def test_each_form(self):
        self.assertEqual(dual(END), END)
        self.assertEqual(dual(("name", "T")), ("dual", "T"))
        self.assertEqual(dual(("dual", "T")), ("name", "T"))
        self.assertEqual(dual(say(("a", None, END))), hear(("a", None, END)))
        self.assertEqual(dual(hear(("a", None, END))), say(("a", None, END)))

    def test_talks_turn_and_payloads_do_not(self):
        talk = say(("a", "int", ("name", "T")), ("b", ("name", "T"), hear(("c", ("dual", "T"), ("dual", "U")))),
                   ("d", "bool", END))
        turned = hear(("a", "int", ("dual", "T")), ("b", ("name", "T"), say(("c", ("dual", "T"), ("name", "U")))),
                      ("d", "bool", END))
        self.assertEqual(dual(talk), turned)
        self.assertEqual(dual(turned), talk)

    def test_kinds(self):
        self.assertEqual(dual_kind(("name", "T")), ("dual", "T"))
        self.assertEqual(dual_kind(("dual", "T")), ("name", "T"))

    def test_many_levels(self):
        talk, turned = END, END
        for _ in range(130):
            talk, turned = say(("a", None, talk)), hear(("a", None, turned))
        self.assertEqual(dual(talk), turned)


class HeadTest(unittest.TestCase):
    def test_own_heads(self):
        for talk in (END, SAY_A, HEAR_A):
            self.assertEqual(head({}, talk), talk)

    def test_names(self):
        self.assertEqual(head(TABLE, ("name", "A")), SAY_A)
        self.assertEqual(head(TABLE, ("dual", "A")), HEAR_A)
        self.assertEqual(head(TABLE, ("name", "B")), SAY_A)
        self.assertEqual(head(TABLE, ("dual", "B")), HEAR_A)
        self.assertEqual(head(TABLE, ("name", "C")), HEAR_A)
        self.assertEqual(head(TABLE, ("dual", "C")), SAY_A)
        self.assertEqual(head(TABLE, ("name", "D")), SAY_A)
        self.assertEqual(head(TABLE, ("dual", "D")), HEAR_A)
        self.assertEqual(head(TABLE, ("name", "E")), END)
        self.assertEqual(head(TABLE, ("dual", "E")), END)

    def test_long_chains_of_names(self):
        table = {"N" + str(i): ("dual", "N" + str(i + 1)) for i in range(5001)}
        table["N5001"] = SAY_A
        self.assertEqual(head(table, ("name", "N0")), HEAR_A)
        self.assertEqual(head(table, ("name", "N1")), SAY_A)


class RowOfTest(unittest.TestCase):
    def test_rows(self):
        self.assertEqual(row_of(SAY_A, "go"), ("go", "int", ("name", "A")))
        self.assertEqual(row_of(SAY_A, "stop"), ("stop", None, END))
        self.assertEqual(row_of(HEAR_A, "go"), ("go", "int", ("dual", "A")))

    def test_labels_that_are_not_there(self):
        self.assertIsNone(row_of(SAY_A, "Go"))
        self.assertIsNone(row_of(HEAR_A, ""))
        self.assertIsNone(row_of(say(("a", None, hear(("b", None, END)))), "b"))
        self.assertIsNone(row_of(END, "go"))
        self.assertIsNone(row_of(END, "end"))


class StagesTest(unittest.TestCase):
    def test_ends(self):
        self.assertEqual(stages({}, END), [END])
        self.assertEqual(stages(TABLE, ("dual", "E")), [END])

    def test_example(self):
        self.assertEqual(stages(TABLE, ("name", "A")), [SAY_A, END])
        self.assertEqual(stages(TABLE, ("dual", "A")), [HEAR_A, END])
        self.assertEqual(stages(TABLE, ("name", "D")), [SAY_A, END])

    def test_breadth_first(self):
        deep = say(("x", None, END))
        left, right = hear(("l", None, deep)), hear(("r", None, END))
        top = say(("a", None, left), ("b", None, right))
        self.assertEqual(stages({}, top), [top, left, right, deep, END])

    def test_each_once(self):
        left = hear(("l", None, ("name", "T")), ("m", None, ("name", "L")))
        top = say(("a", None, ("name", "L")), ("b", None, left), ("c", None, ("name", "T")), ("d", None, END))
        table = {"T": top, "L": left}
        self.assertEqual(stages(table, ("name", "T")), [top, left, END])
        self.assertEqual(stages(table, ("name", "L")), [left, top, END])

    def test_a_talk_and_its_dual_are_two_stages(self):
        top = say(("a", None, ("dual", "T")))
        self.assertEqual(stages({"T": top}, ("name", "T")), [top, hear(("a", None, ("name", "T")))])

    def test_equal_heads_that_are_written_twice(self):
        # The dual of the say in the table is the hear that is written out.
        table = {"T": say(("a", None, END)), "U": say(("x", None, ("dual", "T")), ("y", None, hear(("a", None, END))))}
        self.assertEqual(stages(table, ("name", "U")), [table["U"], hear(("a", None, END)), END])

    def test_payloads_do_not_count(self):
        table = {"T": say(("a", ("name", "U"), END)), "U": hear(("b", None, END))}
        self.assertEqual(stages(table, ("name", "T")), [table["T"], END])

    def test_labels_that_look_like_talks(self):
        one, two = say(("a: end, b", None, END)), say(("a", None, END), ("b", None, END))
        top = hear(("x", None, one), ("y", None, two))
        self.assertEqual(stages({}, top), [top, one, two, END])

    def test_many_stages(self):
        table = {"N" + str(i): say(("a", None, ("name", "N" + str((i + 1) % 2000)))) for i in range(2000)}
        found = stages(table, ("name", "N7"))
        self.assertEqual(found, [table["N" + str((i + 7) % 2000)] for i in range(2000)])

    def test_many_levels(self):
        talk = END
        for _ in range(130):
            talk = say(("a", None, talk))
        found = stages({}, talk)
        self.assertEqual((len(found), found[0], found[130]), (131, talk, END))

    def test_arguments_are_not_modified(self):
        table = dict(TABLE)
        stages(table, ("dual", "C"))
        self.assertEqual(list(table.items()), list(TABLE.items()))


if __name__ == "__main__":
    unittest.main()
