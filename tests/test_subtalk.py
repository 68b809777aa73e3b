"""Promises 11.1 to 11.4."""

import itertools
import random
import unittest

from pourparler.subtalk import Subkinds, is_subkind, is_subtalk, wrong_path
from pourparler.talks import dual
from talk_tools import (
    END, NAMES, ONE_HEAR, ONE_SAY, TWO_HEARS, TWO_SAYS, first_wrong, greatest_relation, hear, random_table, say)


class SubtalkCase(unittest.TestCase):
    def assert_subtalk(self, one, two, table=None):
        self.assertIs(is_subtalk(table or {}, one, two), True)
        self.assertIsNone(wrong_path(table or {}, one, two))

    def assert_wrong(self, one, two, path, reason, table=None):
        self.assertEqual(wrong_path(table or {}, one, two), (path, reason))
        self.assertIs(is_subtalk(table or {}, one, two), False)


class HeadsTest(SubtalkCase):
    def test_equal_talks(self):
        for talk in (END, ONE_SAY, TWO_SAYS, ONE_HEAR, TWO_HEARS):
            self.assert_subtalk(talk, talk)

    def test_other_heads(self):
        for one, two in itertools.permutations((END, ONE_SAY, ONE_HEAR), 2):
            self.assert_wrong(one, two, (), ("head",))

    def test_labels_of_says(self):
        self.assert_subtalk(TWO_SAYS, ONE_SAY)
        self.assert_wrong(ONE_SAY, TWO_SAYS, (), ("missing", "b"))

    def test_labels_of_hears(self):
        self.assert_subtalk(ONE_HEAR, TWO_HEARS)
        self.assert_wrong(TWO_HEARS, ONE_HEAR, (), ("missing", "b"))

    def test_the_order_of_labels_does_not_count(self):
        self.assert_subtalk(say(("b", None, END), ("a", None, END)), TWO_SAYS)
        self.assert_subtalk(hear(("b", None, END), ("a", None, END)), TWO_HEARS)

    def test_names(self):
        table = {"T": TWO_SAYS, "U": ("dual", "V"), "V": ONE_HEAR}
        self.assert_subtalk(("name", "T"), ("name", "U"), table)
        self.assert_subtalk(("dual", "U"), ("dual", "T"), table)
        self.assert_subtalk(("name", "V"), ("dual", "T"), table)
        self.assert_subtalk(("name", "T"), ONE_SAY, table)
        self.assert_wrong(("name", "U"), ("name", "T"), (), ("missing", "b"), table)
        self.assert_wrong(("dual", "T"), ("name", "V"), (), ("missing", "b"), table)
        self.assert_wrong(("name", "U"), ("name", "V"), (), ("head",), table)

    def test_behind_labels(self):
        self.assert_subtalk(say(("x", None, TWO_SAYS)), say(("x", None, ONE_SAY)))
        self.assert_subtalk(hear(("x", None, TWO_SAYS)), hear(("x", None, ONE_SAY)))
        self.assert_wrong(say(("x", None, ONE_SAY)), say(("x", None, TWO_SAYS)), (("x", "next"),), ("missing", "b"))
        self.assert_wrong(hear(("x", None, TWO_HEARS)), hear(("x", None, ONE_HEAR)),
                          (("x", "next"),), ("missing", "b"))
        self.assert_wrong(say(("x", None, hear(("y", None, END)))), say(("x", None, hear(("y", None, ONE_SAY)))),
                          (("x", "next"), ("y", "next")), ("head",))

    def test_what_is_behind_a_label_that_is_not_asked(self):
        self.assert_subtalk(say(("a", None, END), ("b", "int", ONE_SAY)), say(("a", None, END)))
        self.assert_subtalk(hear(("a", None, END)), hear(("b", "int", ONE_SAY), ("a", None, END)))


class RecursionTest(SubtalkCase):
    TABLE = {
        "T": ("say", (("go", None, ("name", "T")), ("stop", None, END))),
        "U": ("say", (("go", None, ("say", (("go", None, ("name", "U")), ("stop", None, END)))),)),
        "D": ("hear", (("go", None, ("dual", "U")),)),
        "P": ("say", (("a", None, ("dual", "P")),)),
        "Q": ("say", (("a", None, ("hear", (("a", None, ("name", "Q")),))),)),
    }

    def test_names(self):
        self.assert_subtalk(("name", "T"), ("name", "T"), self.TABLE)
        self.assert_subtalk(("name", "T"), ("name", "U"), self.TABLE)
        self.assert_subtalk(("dual", "U"), ("dual", "T"), self.TABLE)
        self.assert_wrong(("name", "U"), ("name", "T"), (), ("missing", "stop"), self.TABLE)
        self.assert_wrong(("dual", "T"), ("dual", "U"), (), ("missing", "stop"), self.TABLE)
        # The dual of D says go and is U then; behind U stands a stop, too.
        self.assert_wrong(("name", "U"), ("dual", "D"), (("go", "next"), ("go", "next")), ("missing", "stop"),
                          self.TABLE)
        self.assert_wrong(("dual", "D"), ("name", "U"), (("go", "next"),), ("missing", "stop"), self.TABLE)

    def test_dual_names_inside(self):
        self.assert_subtalk(("name", "P"), ("name", "Q"), self.TABLE)
        self.assert_subtalk(("name", "Q"), ("name", "P"), self.TABLE)
        self.assert_subtalk(("dual", "P"), ("dual", "Q"), self.TABLE)
        self.assert_wrong(("name", "P"), ("dual", "Q"), (), ("head",), self.TABLE)

    def test_a_deep_difference(self):
        table = {"N" + str(i): say(("a", None, ("name", "N" + str(i + 1)))) for i in range(300)}
        table["N300"] = say(("a", None, END))
        table["M"] = say(("a", None, ("name", "M")))
        self.assert_wrong(("name", "N0"), ("name", "M"), (("a", "next"),) * 301, ("head",), table)

    def test_cycles_of_different_lengths(self):
        table = {}
        for letter, length in (("A", 60), ("B", 59)):
            for i in range(length):
                after = ("name", letter + str((i + 1) % length))
                table[letter + str(i)] = hear(("a", "int", after), ("b", None, after))
        self.assert_subtalk(("name", "A0"), ("name", "B5"), table)
        table["B58"] = hear(("a", "int", ("name", "B0")))
        self.assert_wrong(("name", "A0"), ("name", "B0"), (("a", "next"),) * 58, ("missing", "b"), table)

    def test_many_levels(self):
        one, two = ONE_SAY, TWO_SAYS
        for _ in range(120):
            one, two = say(("x", None, one)), say(("x", None, two))
        self.assert_subtalk(two, one)
        self.assert_wrong(one, two, (("x", "next"),) * 120, ("missing", "b"))


class PayloadsTest(SubtalkCase):
    TABLE = {"S": ONE_SAY, "S2": TWO_SAYS, "E": END}

    def test_plain_payloads(self):
        for ways in (say, hear):
            for one, two in itertools.product((None, "int", "bool", ("name", "S")), repeat=2):
                talks = ways(("l", one, END)), ways(("l", two, END))
                if one == two:
                    self.assert_subtalk(*talks, self.TABLE)
                else:
                    self.assert_wrong(*talks, (), ("payload", "l"), self.TABLE)

    def test_payloads_that_are_talks(self):
        big, small = ("name", "S2"), ("name", "S")
        self.assert_subtalk(hear(("l", big, END)), hear(("l", small, END)), self.TABLE)
        self.assert_wrong(hear(("l", small, END)), hear(("l", big, END)),
                          (("l", "payload"),), ("missing", "b"), self.TABLE)
        self.assert_subtalk(say(("l", small, END)), say(("l", big, END)), self.TABLE)
        self.assert_wrong(say(("l", big, END)), say(("l", small, END)),
                          (("l", "payload"),), ("missing", "b"), self.TABLE)

    def test_payloads_with_other_heads(self):
        self.assert_wrong(hear(("l", ("name", "S"), END)), hear(("l", ("dual", "S"), END)),
                          (("l", "payload"),), ("head",), self.TABLE)
        self.assert_wrong(say(("l", ("name", "S"), END)), say(("l", ("name", "E"), END)),
                          (("l", "payload"),), ("head",), self.TABLE)
        self.assert_subtalk(say(("l", ("name", "E"), END)), say(("l", ("dual", "E"), END)), self.TABLE)

    def test_payloads_of_payloads(self):
        table = self.TABLE | {"X": hear(("p", ("name", "S2"), END)), "Y": hear(("p", ("name", "S"), END))}
        self.assert_subtalk(hear(("l", ("name", "X"), END)), hear(("l", ("name", "Y"), END)), table)
        # A payload of a say turns the pair.
        self.assert_wrong(say(("l", ("name", "X"), END)), say(("l", ("name", "Y"), END)),
                          (("l", "payload"), ("p", "payload")), ("missing", "b"), table)
        self.assert_wrong(hear(("l", ("dual", "X"), END)), hear(("l", ("dual", "Y"), END)),
                          (("l", "payload"), ("p", "payload")), ("missing", "b"), table)

    def test_recursive_payloads(self):
        table = {"R": say(("l", ("name", "R"), END)), "Q": say(("l", ("name", "Q"), END)),
                 "D": say(("l", ("dual", "D"), ("name", "D")))}
        self.assert_subtalk(("name", "R"), ("name", "Q"), table)
        self.assert_wrong(("name", "R"), ("name", "D"), (("l", "payload"),), ("head",), table)

    def test_subkinds(self):
        kinds = (None, "int", "bool", ("name", "S"), ("dual", "S"))
        for one, two in itertools.product(kinds, repeat=2):
            self.assertIs(is_subkind(self.TABLE, one, two), one == two)
        self.assertIs(is_subkind(self.TABLE, ("name", "S2"), ("name", "S")), True)
        self.assertIs(is_subkind(self.TABLE, ("name", "S"), ("name", "S2")), False)
        self.assertIs(is_subkind(self.TABLE, ("dual", "S"), ("dual", "S2")), True)
        self.assertIs(is_subkind(self.TABLE, ("dual", "E"), ("name", "E")), True)


class OrderTest(SubtalkCase):
    def test_labels_in_order(self):
        asked = say(("b", None, END), ("c", None, END), ("a", "int", END))
        self.assert_wrong(say(("a", None, END)), asked, (), ("missing", "b"))
        self.assert_wrong(say(("a", None, END), ("b", None, END)), asked, (), ("missing", "c"))
        self.assert_wrong(say(("a", None, END), ("c", None, END), ("b", None, END)), asked, (), ("payload", "a"))
        self.assert_wrong(dual(asked), hear(("a", None, END)), (), ("missing", "b"))
        self.assert_wrong(hear(("a", "int", END), ("b", "int", END)), hear(("b", None, END)), (), ("missing", "a"))
        self.assert_wrong(hear(("b", "int", END), ("a", "int", END)), hear(("b", None, END)), (), ("payload", "b"))

    def test_near_places_come_first(self):
        one = say(("x", None, say(("y", None, END))), ("z", None, END))
        two = say(("x", None, say(("y", None, ONE_SAY))), ("z", None, ONE_SAY))
        self.assert_wrong(one, two, (("z", "next"),), ("head",))
        one, two = say(("x", None, END), ("z", None, END)), say(("x", None, ONE_SAY), ("z", "int", END))
        self.assert_wrong(one, two, (), ("payload", "z"))

    def test_payloads_come_before_what_is_behind(self):
        table = {"S": ONE_SAY, "E": END}
        self.assert_wrong(hear(("l", ("name", "S"), END)), hear(("l", ("name", "E"), ONE_SAY)),
                          (("l", "payload"),), ("head",), table)
        self.assert_wrong(hear(("k", None, END), ("l", ("name", "S"), END)),
                          hear(("k", None, ONE_SAY), ("l", ("name", "E"), END)), (("k", "next"),), ("head",), table)

    def test_pairs_that_were_reached_before(self):
        # Both labels lead to the same pair; the path leads through the first one.
        one = say(("p", None, ("name", "T")), ("q", None, ("name", "T")))
        two = say(("q", None, ("name", "U")), ("p", None, ("name", "U")))
        table = {"T": say(("r", None, END)), "U": say(("r", None, ONE_SAY))}
        self.assert_wrong(one, two, (("q", "next"), ("r", "next")), ("head",), table)

    def test_arguments_are_not_modified(self):
        table = {"S": ONE_SAY, "E": END}
        wrong_path(table, ("name", "S"), ("dual", "E"))
        is_subkind(table, ("name", "S"), ("name", "S"))
        self.assertEqual(list(table.items()), [("S", ONE_SAY), ("E", END)])


def links(table, one, two):
    """Returns the reason why a pair of heads fails, and the steps from it with the pairs that they lead to."""
    if one[0] != two[0]:
        return ("head",), []
    if one[0] == "end":
        return None, []
    asked, given = (two, one) if one[0] == "say" else (one, two)
    rows = {row[0]: row for row in given[1]}
    steps = []
    for label, payload, after in asked[1]:
        if label not in rows:
            return ("missing", label), []
        other = rows[label][1]
        if type(payload) is tuple and type(other) is tuple:
            steps.append(((label, "payload"), (payload, other)))
        elif payload != other:
            return ("payload", label), []
        pair = (after, rows[label][2])
        steps.append(((label, "next"), pair if one[0] == "hear" else pair[::-1]))
    return None, steps


class RandomTest(SubtalkCase):
    def test_greatest_relation(self):
        found = {True: 0, False: 0}
        for seed in range(120):
            table = random_table(random.Random(seed))
            kinds = [(way, name) for way in ("name", "dual") for name in NAMES]
            for one, two in itertools.product(kinds, repeat=2):
                expected = greatest_relation(table, links, one, two)
                self.assertIs(is_subtalk(table, one, two), expected, (table, one, two))
                self.assertIs(is_subkind(table, one, two), expected)
                self.assertIs(is_subtalk(table, dual(two), dual(one)), expected)
                if one != two:
                    found[expected] += 1
        self.assertGreater(found[True], 100)
        self.assertGreater(found[False], 100)

    def test_one_question_after_the_other(self):
        found = {True: 0, False: 0}
        for seed in range(60):
            source = random.Random(seed)
            table = random_table(source)
            subkinds = Subkinds(table)
            kinds = [None, "int"] + [(way, name) for way in ("name", "dual") for name in NAMES]
            for _ in range(60):
                one, two = source.choice(kinds), source.choice(kinds)
                expected = is_subkind(table, one, two)
                self.assertIs(subkinds.holds(one, two), expected, (table, one, two))
                found[expected] += one != two
        self.assertGreater(min(found.values()), 100)

    def test_first_wrong_path(self):
        lengths = [0] * 10
        for seed in range(300):
            table = random_table(random.Random(seed))
            for one, two in itertools.permutations(NAMES, 2):
                found = wrong_path(table, ("name", one), ("name", two))
                if found is None:
                    continue
                lengths[len(found[0])] += 1
                if len(found[0]) <= 6:
                    self.assertEqual(found, first_wrong(table, links, ("name", one), ("name", two), 6))
        self.assertGreater(sum(lengths[2:]), 10)


if __name__ == "__main__":
    unittest.main()
