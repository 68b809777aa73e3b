"""Promises 12.1 to 12.4."""

import itertools
import random
import unittest

from pourparler.fitting import fits, wrong_run
from pourparler.subtalk import is_subkind, is_subtalk
from pourparler.talks import dual, head, row_of
from talk_tools import (
    END, NAMES, ONE_HEAR, ONE_SAY, TWO_HEARS, TWO_SAYS, first_wrong, greatest_relation, hear, random_table, say)


def exchanged(run, reason):
    """Returns a run and its reason as they are when the sides are exchanged."""
    turned = reason if len(reason) == 1 else (reason[0], 1 - reason[1], *reason[2:])
    return tuple((1 - side, label) for side, label in run), turned


class FittingCase(unittest.TestCase):
    def assert_fit(self, one, two, table=None):
        for talks in ((one, two), (two, one)):
            self.assertIs(fits(table or {}, *talks), True)
            self.assertIsNone(wrong_run(table or {}, *talks))

    def assert_wrong(self, one, two, run, reason, table=None):
        self.assertEqual(wrong_run(table or {}, one, two), (run, reason))
        self.assertEqual(wrong_run(table or {}, two, one), exchanged(run, reason))
        self.assertIs(fits(table or {}, one, two), False)
        self.assertIs(fits(table or {}, two, one), False)


class HeadsTest(FittingCase):
    def test_ends(self):
        self.assert_fit(END, END)

    def test_a_say_and_a_hear(self):
        self.assert_fit(ONE_SAY, ONE_HEAR)
        self.assert_fit(TWO_SAYS, TWO_HEARS)

    def test_both_say(self):
        self.assert_wrong(ONE_SAY, ONE_SAY, (), ("both say",))
        self.assert_wrong(ONE_SAY, TWO_SAYS, (), ("both say",))

    def test_both_hear(self):
        self.assert_wrong(ONE_HEAR, ONE_HEAR, (), ("both hear",))
        self.assert_wrong(TWO_HEARS, ONE_HEAR, (), ("both hear",))

    def test_one_at_the_end(self):
        for talk in (ONE_SAY, ONE_HEAR):
            self.assertEqual(wrong_run({}, talk, END), ((), ("left", 0)))
            self.assertEqual(wrong_run({}, END, talk), ((), ("left", 1)))
            self.assertIs(fits({}, talk, END), False)
            self.assertIs(fits({}, END, talk), False)

    def test_example(self):
        self.assertEqual(wrong_run({}, say(("a", None, END)), hear(("b", None, END))), ((), ("deaf", 0, "a")))


class LabelsTest(FittingCase):
    def test_a_label_that_the_say_lacks(self):
        self.assert_fit(ONE_SAY, TWO_HEARS)
        self.assert_fit(ONE_SAY, hear(("b", "int", ONE_SAY), ("a", None, END)))

    def test_a_label_that_the_hear_lacks(self):
        self.assertEqual(wrong_run({}, TWO_SAYS, ONE_HEAR), ((), ("deaf", 0, "b")))
        self.assertEqual(wrong_run({}, ONE_HEAR, TWO_SAYS), ((), ("deaf", 1, "b")))

    def test_the_order_of_the_hear_does_not_count(self):
        self.assert_fit(TWO_SAYS, hear(("b", None, END), ("a", None, END)))
        self.assert_wrong(say(("c", None, END), ("b", None, END)), hear(("a", None, END)), (), ("deaf", 0, "c"))

    def test_behind_labels(self):
        self.assert_fit(say(("x", None, ONE_HEAR)), hear(("x", None, ONE_SAY), ("y", None, END)))
        self.assert_wrong(say(("x", None, ONE_HEAR)), hear(("x", None, TWO_SAYS)),
                          ((0, "x"),), ("deaf", 1, "b"))
        self.assert_wrong(say(("x", None, ONE_HEAR)), hear(("x", None, TWO_HEARS)), ((0, "x"),), ("both hear",))
        self.assert_wrong(say(("x", None, ONE_HEAR)), hear(("x", None, say(("a", None, ONE_SAY)))),
                          ((0, "x"), (1, "a")), ("left", 1))
        self.assert_wrong(hear(("x", None, hear(("y", None, say(("z", None, END)))))),
                          say(("x", None, say(("y", None, hear(("w", None, END)))))),
                          ((1, "x"), (1, "y")), ("deaf", 0, "z"))

    def test_what_is_behind_a_label_that_is_never_said(self):
        self.assert_fit(say(("a", None, END)), hear(("a", None, END), ("b", None, ONE_HEAR)))

    def test_many_levels(self):
        one, two = ONE_SAY, ONE_HEAR
        for _ in range(120):
            one, two = hear(("x", None, one)), say(("x", None, two))
        self.assert_fit(one, two)
        self.assert_wrong(one, dual(one)[:1] + ((("x", None, END),),), ((1, "x"),), ("left", 0))


class PayloadsTest(FittingCase):
    TABLE = {"S": ONE_SAY, "S2": TWO_SAYS, "E": END}

    def test_plain_payloads(self):
        for one, two in itertools.product((None, "int", "bool", ("name", "S")), repeat=2):
            talks = say(("l", one, END)), hear(("l", two, END))
            if one == two:
                self.assert_fit(*talks, self.TABLE)
            else:
                self.assert_wrong(*talks, (), ("payload", 0, "l"), self.TABLE)

    def test_payloads_that_are_subkinds(self):
        big, small = ("name", "S2"), ("name", "S")
        self.assert_fit(say(("l", big, END)), hear(("l", small, END)), self.TABLE)
        self.assertEqual(wrong_run(self.TABLE, say(("l", small, END)), hear(("l", big, END))),
                         ((), ("payload", 0, "l")))
        self.assertEqual(wrong_run(self.TABLE, hear(("l", big, END)), say(("l", small, END))),
                         ((), ("payload", 1, "l")))

    def test_payloads_of_hears(self):
        big, small = ("dual", "S"), ("dual", "S2")
        self.assert_fit(say(("l", big, END)), hear(("l", small, END)), self.TABLE)
        self.assert_wrong(say(("l", small, END)), hear(("l", big, END)), (), ("payload", 0, "l"), self.TABLE)

    def test_a_payload_and_its_dual(self):
        self.assert_wrong(say(("l", ("name", "S"), END)), hear(("l", ("dual", "S"), END)),
                          (), ("payload", 0, "l"), self.TABLE)
        self.assert_fit(say(("l", ("name", "E"), END)), hear(("l", ("dual", "E"), END)), self.TABLE)

    def test_a_payload_that_fails_far_inside(self):
        table = {"X": say(("a", None, hear(("b", None, ("name", "X"))))),
                 "Y": say(("a", None, hear(("b", None, say(("c", None, END))))))}
        self.assert_wrong(say(("l", ("name", "X"), END)), hear(("l", ("name", "Y"), END)),
                          (), ("payload", 0, "l"), table)
        self.assert_wrong(hear(("k", None, hear(("l", ("name", "Y"), END)))),
                          say(("k", None, say(("l", ("name", "X"), END)))), ((1, "k"),), ("payload", 1, "l"), table)


class RecursionTest(FittingCase):
    TABLE = {
        "T": say(("go", None, ("name", "T")), ("stop", None, END)),
        "U": hear(("go", None, hear(("go", None, ("name", "U")), ("stop", None, END))), ("stop", None, END)),
        "V": hear(("go", None, hear(("go", None, ("name", "V")))), ("stop", None, END)),
        "P": say(("a", None, ("dual", "P"))),
        "Q": hear(("a", None, ("dual", "Q"))),
        "N": ("dual", "M"),
        "M": ("name", "T"),
    }

    def test_names(self):
        self.assert_fit(("name", "T"), ("name", "U"), self.TABLE)
        self.assert_fit(("dual", "U"), ("dual", "T"), self.TABLE)
        self.assert_fit(("name", "M"), ("name", "N"), self.TABLE)
        self.assert_fit(("dual", "N"), ("name", "U"), self.TABLE)
        self.assert_wrong(("name", "T"), ("name", "M"), (), ("both say",), self.TABLE)
        self.assert_wrong(("name", "U"), ("name", "N"), (), ("both hear",), self.TABLE)
        self.assert_wrong(("name", "T"), ("name", "V"), ((0, "go"),), ("deaf", 0, "stop"), self.TABLE)
        self.assert_fit(("dual", "T"), ("dual", "V"), self.TABLE)

    def test_dual_names_inside(self):
        self.assert_fit(("name", "P"), ("name", "Q"), self.TABLE)
        self.assert_fit(("name", "P"), ("dual", "P"), self.TABLE)
        self.assert_wrong(("name", "P"), ("dual", "Q"), (), ("both say",), self.TABLE)

    def test_a_deep_difference(self):
        table = {"N" + str(i): say(("a", None, ("name", "N" + str(i + 1)))) for i in range(300)}
        table["N300"] = say(("a", None, END))
        table["M"] = hear(("a", None, ("name", "M")))
        self.assert_wrong(("name", "N0"), ("name", "M"), ((0, "a"),) * 301, ("left", 1), table)

    def test_cycles_of_different_lengths(self):
        table = {}
        for letter, length, way in (("A", 60, "say"), ("B", 59, "hear")):
            for i in range(length):
                after = ("name", letter + str((i + 1) % length))
                table[letter + str(i)] = (way, (("a", "int", after), ("b", None, after)))
        self.assert_fit(("name", "A0"), ("name", "B5"), table)
        table["B58"] = hear(("a", "int", ("name", "B0")))
        self.assert_wrong(("name", "A0"), ("name", "B0"), ((0, "a"),) * 58, ("deaf", 0, "b"), table)

    def test_many_payloads(self):
        table = {}
        for letter, way in (("A", "say"), ("B", "hear"), ("P", "say"), ("Q", "say")):
            for i in range(1500):
                after = ("name", letter + str((i + 1) % 1500))
                kind = ("name", ("P" if letter in "AP" else "Q") + str(i))
                table[letter + str(i)] = (way, (("a", kind, after),))
        self.assert_fit(("name", "A0"), ("name", "B0"), table)


class OrderTest(FittingCase):
    def test_labels_in_the_order_of_the_say(self):
        said = say(("b", None, END), ("c", None, END), ("a", "int", END))
        self.assert_wrong(said, hear(("a", None, END)), (), ("deaf", 0, "b"))
        self.assert_wrong(said, hear(("a", None, END), ("b", None, END)), (), ("deaf", 0, "c"))
        self.assert_wrong(said, hear(("a", None, END), ("c", None, END), ("b", "int", END)),
                          (), ("payload", 0, "b"))
        self.assert_wrong(said, hear(("a", None, END), ("c", None, END), ("b", None, END)),
                          (), ("payload", 0, "a"))

    def test_near_places_come_first(self):
        one = say(("x", None, say(("y", None, ONE_SAY))), ("z", None, ONE_SAY))
        two = hear(("x", None, hear(("y", None, ONE_SAY))), ("z", None, END))
        self.assert_wrong(one, two, ((0, "z"),), ("left", 0))
        one, two = say(("x", None, ONE_SAY), ("z", "int", END)), hear(("x", None, ONE_SAY), ("z", None, END))
        self.assert_wrong(one, two, (), ("payload", 0, "z"))

    def test_the_first_label_comes_first(self):
        one = say(("x", None, ONE_SAY), ("z", None, ONE_HEAR))
        two = hear(("z", None, ONE_HEAR), ("x", None, ONE_SAY))
        self.assert_wrong(one, two, ((0, "x"),), ("both say",))

    def test_pairs_that_were_reached_before(self):
        one = say(("q", None, ("name", "T")), ("p", None, ("name", "T")))
        two = hear(("p", None, ("name", "U")), ("q", None, ("name", "U")))
        table = {"T": say(("r", None, END)), "U": hear(("r", None, ONE_SAY))}
        self.assert_wrong(one, two, ((0, "q"), (0, "r")), ("left", 1), table)

    def test_arguments_are_not_modified(self):
        table = {"S": ONE_SAY, "E": END}
        wrong_run(table, ("name", "S"), ("dual", "S"))
        fits(table, ("name", "S"), ("name", "E"))
        self.assertEqual(list(table.items()), [("S", ONE_SAY), ("E", END)])


def links(table, one, two):
    """Returns the reason why a pair of heads goes wrong, and the messages with the pairs that they lead to."""
    if one[0] == two[0]:
        return (None if one[0] == "end" else ("both " + one[0],)), []
    if "end" in (one[0], two[0]):
        return ("left", 0 if two[0] == "end" else 1), []
    side = (one[0], two[0]).index("say")
    rows = {row[0]: row for row in (two, one)[side][1]}
    steps = []
    for label, payload, after in (one, two)[side][1]:
        if label not in rows:
            return ("deaf", side, label), []
        if not is_subkind(table, payload, rows[label][1]):
            return ("payload", side, label), []
        pair = (after, rows[label][2])
        steps.append(((side, label), pair if side == 0 else pair[::-1]))
    return None, steps


KINDS = [(way, name) for way in ("name", "dual") for name in NAMES]


class RandomTest(FittingCase):
    def test_a_talk_and_its_dual_fit(self):
        for seed in range(40):
            table = random_table(random.Random(seed))
            for kind in KINDS:
                self.assert_fit(kind, dual(kind), table)
                self.assert_fit(table[kind[1]], dual(table[kind[1]]), table)

    def test_subtalks_and_fitting(self):
        found = {True: 0, False: 0}
        for seed in range(60):
            table = random_table(random.Random(seed))
            for one, two in itertools.product(KINDS, repeat=2):
                expected = is_subtalk(table, one, two)
                self.assertIs(fits(table, two, dual(one)), expected, (table, one, two))
                self.assertIs(fits(table, dual(one), two), expected, (table, one, two))
                if one != two:
                    found[expected] += 1
        self.assertGreater(min(found.values()), 100)

    def assert_partners_meet(self, source, table, *talks):
        """Plays two partners with mailboxes: each message is heard, and never do both of them wait."""
        talks, mailboxes = list(talks), ([], [])
        for _ in range(25):
            heads = [head(table, talk) for talk in talks]
            moving = [side for side in (0, 1) if heads[side][0] == "say" or mailboxes[side]]
            if not moving:
                self.assertEqual(heads, [("end",), ("end",)])
                return
            side = source.choice(moving)
            if mailboxes[side]:
                label, payload = mailboxes[side].pop(0)
                self.assertEqual(heads[side][0], "hear")
                row = row_of(heads[side], label)
                self.assertTrue(is_subkind(table, payload, row[1]))
            else:
                row = source.choice(heads[side][1])
                mailboxes[1 - side].append(row[:2])
            talks[side] = row[2]

    def test_an_end_that_is_used_as_another_talk(self):
        met = 0
        for seed in range(60):
            source = random.Random(seed)
            table = random_table(source)
            for one, two, three in itertools.product(KINDS, repeat=3):
                if one != two and is_subtalk(table, one, two) and fits(table, two, three):
                    self.assert_partners_meet(source, table, two, three)
                    self.assert_partners_meet(source, table, two, dual(one))
                    met += 1
        self.assertGreater(met, 100)

    def test_greatest_relation(self):
        found = {True: 0, False: 0}
        for seed in range(60):
            table = random_table(random.Random(seed))
            for one, two in itertools.product(KINDS, repeat=2):
                expected = greatest_relation(table, links, one, two)
                self.assertIs(fits(table, one, two), expected, (table, one, two))
                if one != dual(two):
                    found[expected] += 1
        self.assertGreater(min(found.values()), 100)

    def test_first_wrong_run(self):
        lengths, reasons = [0] * 10, {}
        for seed in range(80):
            table = random_table(random.Random(seed))
            for one, two in itertools.product(KINDS, repeat=2):
                found = wrong_run(table, one, two)
                if found is None:
                    continue
                self.assertEqual(wrong_run(table, two, one), exchanged(*found))
                lengths[len(found[0])] += 1
                reasons[found[1][:2]] = True
                if len(found[0]) <= 6:
                    self.assertEqual(found, first_wrong(table, links, one, two, 6))
        self.assertGreater(sum(lengths[2:]), 10)
        self.assertEqual(len(reasons), 8, reasons)


if __name__ == "__main__":
    unittest.main()
