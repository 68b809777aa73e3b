"""Promises 50.1 to 50.3."""

import copy
import random
import unittest

from pourparler.errors import Misused, Refused
from pourparler.history import Ledger
from pourparler.subtalk import is_subtalk
from pourparler.talks import dual, head
from talk_tools import END, hear, random_table, say

TABLE = {
    "T": hear(("n", "int", ("name", "T")), ("p", "bool", ("name", "T")), ("a", None, ("dual", "E")),
              ("e", ("name", "U"), say(("k", None, END), ("m", "int", ("name", "T"))))),
    "U": hear(("a", None, END), ("b", None, END)),
    "Less": hear(("a", None, END)),
    "E": END,
    "Send": say(("e", ("dual", "Send"), ("name", "Send")), ("stop", None, END)),
}
KINDS = {word: ("name", word) for word in TABLE}
DUALS = {word: ("dual", word) for word in TABLE}
OPEN = ("open", 0, 1, 0, KINDS["T"])
# Values that are no numbers, although some of them equal a number.
NO_NUMBERS = (True, False, None, "0", 0.0, 1.0, (0,), [0], {}, "")


class Anything:
    """An object that equals everything."""

    def __eq__(self, other):
        return True

    def __hash__(self):
        return 0


def end(conversation, side):
    return ("end", conversation, side)


def seen(ledger):
    """Returns all that can be asked of a ledger."""
    sides = [(number, side) for number in range(ledger.conversations()) for side in (0, 1)]
    parts = [(ledger.talk_of(*one), ledger.mark_of(*one), ledger.mailbox_of(*one)) for one in sides]
    # The text, because True equals 1.
    return repr((parts, ledger.owed(), [ledger.finished(actor) for actor in range(ledger.actors())]))


class LedgerCase(unittest.TestCase):
    def made(self, *events):
        """Returns a ledger with some opens by the actor 0 and other events."""
        ledger = Ledger(TABLE)
        for event in events:
            if event in (*KINDS.values(), *DUALS.values()):
                event = ("open", 0, ledger.actors(), ledger.conversations(), event)
            self.assert_entered(ledger, event)
        return ledger

    def assert_entered(self, ledger, event):
        before = seen(ledger)
        self.assertIs(ledger.allows(event), True, event)
        self.assertEqual(seen(ledger), before)
        ledger.enter(event)

    def assert_refused(self, ledger, *events):
        before = seen(ledger)
        for event in events:
            self.assertIs(ledger.allows(event), False, event)
            with self.assertRaises(Misused, msg=event) as caught:
                ledger.enter(event)
            self.assertEqual(caught.exception.why, "event")
            self.assertIsInstance(caught.exception, Refused)
            self.assertEqual(seen(ledger), before)

    def assert_side(self, ledger, side, talk=None, mark=None, mailbox=None):
        if talk is not None:
            self.assertEqual(ledger.talk_of(*side), talk)
        if mark is not None:
            self.assertEqual(ledger.mark_of(*side), mark)
        if mailbox is not None:
            self.assertEqual(repr(ledger.mailbox_of(*side)), repr(mailbox))


class StartTest(LedgerCase):
    def test_the_beginning(self):
        ledger = Ledger(TABLE)
        self.assertEqual((ledger.actors(), ledger.conversations(), ledger.owed()), (1, 0, []))
        self.assertIs(ledger.finished(0), False)

    def test_the_table_is_copied(self):
        table = dict(TABLE)
        ledger = Ledger(table)
        before = repr(table)
        ledger.enter(OPEN)
        ledger.enter(("say", 0, 0, "n", 1))
        self.assertEqual(repr(table), before)
        table.clear()
        table["V"] = END
        self.assert_entered(ledger, ("say", 0, 0, "n", 1))
        self.assert_entered(ledger, ("open", 1, 2, 1, KINDS["U"]))
        self.assert_refused(ledger, ("open", 1, 3, 2, ("name", "V")))

    def test_sides_that_do_not_exist(self):
        ledger = self.made(KINDS["T"], KINDS["U"])
        for ask in (ledger.talk_of, ledger.mark_of, ledger.mailbox_of):
            for side in ((2, 0), (0, 2), (0, -1), (-1, 0), (-1, 1), (1000, 1), (1, 2)):
                with self.assertRaises(Misused) as caught:
                    ask(*side)
                self.assertEqual(caught.exception.why, "side")
        with self.assertRaises(Misused):
            Ledger(TABLE).talk_of(0, 0)

    def test_lists_may_be_changed(self):
        ledger = self.made(KINDS["T"], ("say", 0, 0, "n", 1))
        ledger.mailbox_of(0, 1).clear()
        ledger.owed().append((0, 0))
        self.assert_side(ledger, (0, 1), mailbox=[("n", 1)])
        self.assertEqual(ledger.owed(), [])


class OtherValuesTest(LedgerCase):
    def test_values_of_other_kinds(self):
        for ledger in (Ledger(TABLE), self.made(KINDS["T"]), self.made(KINDS["T"], ("say", 0, 0, "n", 1))):
            self.assert_refused(
                ledger, None, True, 0, 7, 1.5, "", "done", "open", b"done", [], {}, set(), (), object(), Ledger,
                ["done", 0], [*OPEN], {"done": 0}, ("done",), "fall", ("done", 0, 0), (("done", 0),), ("done", "0"))

    def test_other_words(self):
        ledger = self.made(KINDS["T"])
        self.assert_refused(
            ledger, ("let", 0), ("Done", 0), ("", 0), ("sent", 0, 0), (None, 0), (0, 0), (True, 0), ([], 0),
            ({}, 0, 0), (("done",), 0), (b"done", 0), ("end", 0, 0), ("if", 0))

    def test_other_numbers_of_parts(self):
        ledger = self.made(KINDS["T"], ("say", 0, 0, "n", 1))
        for event in (("open", 0, 2, 1, KINDS["T"]), ("say", 0, 0, "n", 1), ("hear", 0, 1, "n", 1),
                      ("drop", 0, 0), ("become", 0, "A"), ("done", 0), ("fall", 0)):
            self.assertIs(ledger.allows(event), True)
            self.assert_refused(ledger, event[:-1], event + (0,), event + (None,), event[:1])
        ledger = self.made(KINDS["E"])
        self.assertIs(ledger.allows(("close", 0, 0)), True)
        self.assert_refused(ledger, ("close", 0), ("close", 0, 0, 0), ("close",))
        ledger = self.made(KINDS["U"], ("drop", 0, 0))
        self.assertIs(ledger.allows(("told", 0, 1)), True)
        self.assert_refused(ledger, ("told", 0), ("told", 0, 1, 0), ("told",))


    def test_objects_that_equal_everything(self):
        ledger = self.made(KINDS["T"], KINDS["U"], ("say", 0, 0, "n", 1), ("say", 1, 0, "a", None))
        for event in (("open", 0, 3, 2, KINDS["T"]), ("say", 0, 0, "n", 1), ("hear", 0, 1, "n", 1),
                      ("hear", 1, 1, "a", None), ("drop", 0, 0), ("become", 0, "A"), ("done", 0), ("fall", 0)):
            self.assertIs(ledger.allows(event), True)
            places = range(2 if event[0] == "become" else len(event))
            self.assert_refused(ledger, *[(*event[:place], Anything(), *event[place + 1:]) for place in places])
        self.assert_refused(ledger, Anything(), (Anything(),), ("open", 0, 3, 2, (Anything(), "T")),
                            ("open", 0, 3, 2, ("name", Anything())), ("open", 0, 3, 2, (Anything(), Anything())))
        self.assert_refused(ledger, *[("say", 0, 0, "e", (*end(1, 1)[:place], Anything(), *end(1, 1)[place + 1:]))
                                      for place in range(3)])


class OpenTest(LedgerCase):
    def test_talks_and_marks(self):
        for word in TABLE:
            for kind, other in ((KINDS[word], DUALS[word]), (DUALS[word], KINDS[word])):
                ledger = self.made(("open", 0, 1, 0, kind))
                self.assert_side(ledger, (0, 1), kind, "open", [])
                self.assert_side(ledger, (0, 0), other, "open", [])
                self.assertEqual((ledger.actors(), ledger.conversations()), (2, 1))
                self.assertEqual([ledger.finished(0), ledger.finished(1)], [False, False])

    def test_actors_that_open_others(self):
        ledger = self.made(OPEN, ("open", 1, 2, 1, KINDS["U"]), ("open", 0, 3, 2, DUALS["E"]), ("done", 1))
        self.assert_refused(ledger, ("open", 1, 4, 3, KINDS["T"]), ("open", 4, 4, 3, KINDS["T"]),
                            ("open", -1, 4, 3, KINDS["T"]))
        self.assert_entered(ledger, ("fall", 3))
        self.assert_refused(ledger, ("open", 3, 4, 3, KINDS["T"]))
        self.assert_entered(ledger, ("open", 2, 4, 3, KINDS["T"]))

    def test_numbers(self):
        ledger = self.made(OPEN)
        self.assert_refused(ledger, *[("open", 0, child, number, KINDS["T"]) for child in (-1, 0, 1, 2, 3)
                                      for number in (-1, 0, 1, 2) if (child, number) != (2, 1)])
        for other in NO_NUMBERS:
            self.assert_refused(ledger, ("open", other, 2, 1, KINDS["T"]), ("open", 0, other, 1, KINDS["T"]),
                                ("open", 0, 2, other, KINDS["T"]))
        # True and False equal the numbers that are asked for here.
        self.assert_refused(Ledger(TABLE), ("open", False, 1, 0, KINDS["T"]), ("open", 0, True, 0, KINDS["T"]),
                            ("open", 0, 1, False, KINDS["T"]))

    def test_kinds(self):
        kinds = ("int", "bool", None, "T", ("end",), ("name", "V"), ("dual", "V"), ("name",), ("name", "T", "T"),
                 ["name", "T"], ("Name", "T"), ("name", ["T"]), ("name", None), (None, "T"), ([], "T"), END,
                 TABLE["U"], ("say", "T"), 0, {}, ("name", 0), ("name", ("name", "T")))
        self.assert_refused(Ledger(TABLE), *[("open", 0, 1, 0, kind) for kind in kinds])


class SayTest(LedgerCase):
    def test_payloads(self):
        ledger = self.made(KINDS["T"])
        messages = [("n", 0), ("n", 1), ("n", 65535), ("p", True), ("p", False), ("n", 7), ("a", None)]
        for at, message in enumerate(messages):
            self.assert_entered(ledger, ("say", 0, 0, *message))
            self.assert_side(ledger, (0, 1), KINDS["T"], "open", messages[:at + 1])
            self.assert_side(ledger, (0, 0), KINDS["E"] if at == 6 else DUALS["T"], "open", [])
        self.assert_refused(ledger, ("say", 0, 0, "n", 1), ("say", 0, 0, "a", None))

    def test_the_talk_is_the_one_in_the_row(self):
        ledger = self.made(KINDS["T"], DUALS["U"], ("say", 0, 0, "e", end(1, 0)))
        # The dual of what stands in the row: the side 0 goes by the dual of T.
        self.assert_side(ledger, (0, 0), hear(("k", None, END), ("m", "int", ("dual", "T"))), "open")
        self.assert_entered(ledger, ("hear", 0, 1, "e", end(1, 0)))
        self.assert_side(ledger, (0, 1), say(("k", None, END), ("m", "int", ("name", "T"))), "open")
        self.assert_entered(ledger, ("say", 0, 1, "m", 3))
        self.assert_side(ledger, (0, 1), KINDS["T"])
        self.assert_entered(ledger, ("hear", 0, 0, "m", 3))
        self.assert_side(ledger, (0, 0), DUALS["T"])

    def test_payloads_of_other_kinds(self):
        ledger = self.made(KINDS["T"], KINDS["U"])
        for label, wrong in (("n", (None, True, False, -1, 65536, 10 ** 5000, 1.0, "1", (1,), [1], end(1, 0), {})),
                             ("p", (None, 0, 1, 2, "True", (True,), end(1, 0), 1.0)),
                             ("a", (0, False, "", (), [], "None", end(1, 0))),
                             ("e", (None, 0, True, "end", ("end", 1), ("end", 1, 0, 0), ["end", 1, 1], (1, 0), ()))):
            self.assert_refused(ledger, *[("say", 0, 0, label, payload) for payload in wrong])

    def test_labels(self):
        ledger = self.made(KINDS["T"])
        self.assert_refused(ledger, *[("say", 0, 0, label, None)
                                      for label in ("b", "", "A", None, 0, ("a",), ["a"], b"a", {})])

    def test_sides(self):
        ledger = self.made(KINDS["T"])
        self.assert_refused(ledger, *[("say", number, side, "n", 1) for number in (-1, 0, 1, 2)
                                      for side in (-1, 0, 1, 2) if (number, side) != (0, 0)])
        for other in NO_NUMBERS:
            self.assert_refused(ledger, ("say", other, 0, "n", 1), ("say", 0, other, "n", 1))
        ledger = self.made(KINDS["U"], DUALS["T"])
        self.assert_entered(ledger, ("say", 1, 1, "n", 1))
        self.assert_refused(ledger, ("say", True, True, "n", 1), ("say", True, 1, "n", 1), ("say", 1, True, "n", 1))

    def test_marks(self):
        send, other = KINDS["Send"], KINDS["Send"]
        away = self.made(send, other, ("say", 0, 1, "e", end(1, 0)))
        self.assert_side(away, (1, 0), mark="away")
        # The other side goes on while its partner travels.
        self.assert_refused(away, ("hear", 1, 0, "stop", None))
        self.assert_entered(away, ("say", 1, 1, "stop", None))
        self.assert_side(away, (1, 0), mark="away", mailbox=[("stop", None)])
        for last in (("drop", 0, 0), ("drop", 0, 1)):
            ledger = self.made(DUALS["Send"], last)
            self.assert_refused(ledger, ("say", 0, last[2], "stop", None))
        ledger = self.made(KINDS["E"], ("close", 0, 0))
        self.assert_refused(ledger, ("say", 0, 0, "n", 1), ("drop", 0, 0), ("close", 0, 0))

    def test_a_side_that_travels_says_nothing(self):
        # The side (1, 1) has the talk U, which a say of e on T may hand over.
        ledger = self.made(KINDS["T"], DUALS["U"], DUALS["T"])
        self.assert_entered(ledger, ("say", 2, 1, "e", end(1, 0)))
        self.assert_refused(ledger, ("hear", 1, 0, "a", None), ("drop", 1, 0), ("say", 0, 0, "e", end(1, 0)))

    def test_messages_that_are_lost(self):
        ledger = self.made(KINDS["T"], DUALS["U"], ("say", 1, 1, "a", None), ("drop", 0, 1))
        self.assert_entered(ledger, ("say", 0, 0, "n", 1))
        self.assert_side(ledger, (0, 1), mark="fallen", mailbox=[])
        self.assertEqual(ledger.owed(), [])
        self.assert_entered(ledger, ("say", 0, 0, "e", end(1, 0)))
        self.assert_side(ledger, (1, 0), mark="away", mailbox=[("a", None)])
        self.assert_side(ledger, (0, 1), mark="fallen", mailbox=[])
        self.assertEqual(ledger.owed(), [(1, 0)])

    def test_a_talk_goes_on_with_a_partner_that_is_fallen(self):
        ledger = self.made(KINDS["T"], DUALS["U"], ("say", 0, 0, "e", end(1, 0)), ("drop", 0, 0))
        self.assert_entered(ledger, ("hear", 0, 1, "e", end(1, 0)))
        self.assert_entered(ledger, ("say", 0, 1, "m", 3))
        self.assert_side(ledger, (0, 0), mark="fallen", mailbox=[])
        self.assert_entered(ledger, ("told", 0, 1))


class EndsTest(LedgerCase):
    def test_an_end_travels(self):
        ledger = self.made(KINDS["T"], DUALS["U"], ("say", 0, 0, "e", end(1, 0)))
        self.assert_side(ledger, (1, 0), KINDS["U"], "away")
        self.assert_side(ledger, (0, 1), mailbox=[("e", end(1, 0))])
        self.assert_refused(ledger, ("drop", 1, 0), ("say", 0, 0, "e", end(1, 0)))
        self.assert_entered(ledger, ("hear", 0, 1, "e", end(1, 0)))
        self.assert_side(ledger, (1, 0), KINDS["U"], "open")
        self.assert_entered(ledger, ("drop", 1, 0))

    def test_subtalks(self):
        # Each side with a kind that may stand for U, and each that may not.
        for kind in (*KINDS.values(), *DUALS.values()):
            ledger = self.made(KINDS["T"], kind)
            event = ("say", 0, 0, "e", end(1, 1))
            if kind in (KINDS["U"], KINDS["Less"]):
                self.assert_entered(ledger, event)
                self.assert_side(ledger, (1, 1), kind, "away")
            else:
                self.assert_refused(ledger, event)

    def test_the_talk_of_the_end_then_counts(self):
        ledger = self.made(KINDS["T"], KINDS["U"], ("say", 1, 0, "a", None), ("hear", 1, 1, "a", None))
        self.assert_refused(ledger, ("say", 0, 0, "e", end(1, 1)))

    def test_another_side_than_the_one_that_is_said_on(self):
        ledger = self.made(KINDS["Send"])
        self.assert_refused(ledger, ("say", 0, 1, "e", end(0, 1)))
        # The partner may be handed over, if its talk fits.
        self.assert_entered(ledger, ("say", 0, 1, "e", end(0, 0)))
        self.assert_side(ledger, (0, 0), DUALS["Send"], "away", [("e", end(0, 0))])
        self.assert_refused(ledger, ("hear", 0, 0, "e", end(0, 0)))

    def test_marks(self):
        for leave in (("drop", 1, 1), ("close", 1, 1)):
            ledger = self.made(KINDS["Send"], KINDS["E"], leave)
            self.assert_refused(ledger, ("say", 0, 1, "e", end(1, 1)), ("say", 0, 1, "e", end(1, 0)))
        ledger = self.made(KINDS["T"], KINDS["U"], ("drop", 1, 1))
        self.assert_refused(ledger, ("say", 0, 0, "e", end(1, 1)))

    def test_ends_that_do_not_exist(self):
        ledger = self.made(KINDS["T"], KINDS["U"])
        self.assert_refused(ledger, *[("say", 0, 0, "e", end(*side)) for side in (
            (2, 0), (1, 2), (1, -1), (-1, 1), (-2, 1), (True, 1), (1, True), (True, True), (1.0, 1), ("1", "1"),
            (None, 1), ([], 1))])
        self.assert_refused(ledger, *[("say", 0, 0, "e", payload) for payload in (
            ("END", 1, 1), (None, 1, 1), ([], 1, 1), ["end", 1, 1], ("end", (1, 1)), (1, 1))])
        self.assert_entered(ledger, ("say", 0, 0, "e", end(1, 1)))


class HearTest(LedgerCase):
    def test_the_oldest_message(self):
        ledger = self.made(KINDS["T"], ("say", 0, 0, "n", 1), ("say", 0, 0, "n", 2), ("say", 0, 0, "a", None))
        self.assert_refused(ledger, ("hear", 0, 1, "n", 2), ("hear", 0, 1, "a", None), ("hear", 0, 1, "p", True))
        self.assert_entered(ledger, ("hear", 0, 1, "n", 1))
        self.assert_side(ledger, (0, 1), KINDS["T"], "open", [("n", 2), ("a", None)])
        self.assert_refused(ledger, ("hear", 0, 1, "n", 1))
        self.assert_entered(ledger, ("hear", 0, 1, "n", 2))
        self.assert_entered(ledger, ("hear", 0, 1, "a", None))
        self.assert_side(ledger, (0, 1), DUALS["E"], "open", [])
        self.assert_refused(ledger, ("hear", 0, 1, "a", None))

    def test_payloads_of_another_kind(self):
        for said, others in (
            (("n", 1), (True, 1.0, "1", None, 0, 2, (1,), [1])), (("n", 0), (False, None, 0.0, "", ())),
            (("p", True), (1, False, None, "True", 1.0)), (("p", False), (0, True, None, 0.0)),
            (("a", None), (0, False, "", "None", ())),
            (("e", end(1, 1)), (("end", True, 1), ("end", 1, True), ("end", 1.0, 1), ("end", 1, 0), ("end", 0, 1),
                                ["end", 1, 1], ("end", 1, 1, 1), ("end", 1), (1, 1), None, 1)),
        ):
            ledger = self.made(KINDS["T"], KINDS["U"], ("say", 0, 0, *said))
            self.assert_refused(ledger, *[("hear", 0, 1, said[0], other) for other in others])
            self.assert_refused(ledger, *[("hear", 0, 1, label, said[1]) for label in ("x", None, [], 0, b"n", "b")])
            self.assert_entered(ledger, ("hear", 0, 1, *said))

    def test_another_label_with_the_same_payload(self):
        ledger = self.made(KINDS["U"], ("say", 0, 0, "b", None))
        self.assert_refused(ledger, ("hear", 0, 1, "a", None))
        self.assert_entered(ledger, ("hear", 0, 1, "b", None))

    def test_sides(self):
        ledger = self.made(KINDS["T"], KINDS["T"], ("say", 0, 0, "n", 1), ("say", 1, 0, "n", 1))
        self.assert_refused(ledger, *[("hear", number, side, "n", 1) for number in (-1, -2, 0, 1, 2)
                                      for side in (-1, 0, 2)])
        for other in NO_NUMBERS:
            self.assert_refused(ledger, ("hear", other, 1, "n", 1), ("hear", 0, other, "n", 1))
        self.assert_entered(ledger, ("hear", 1, 1, "n", 1))

    def test_the_head_must_be_a_hear_with_the_label(self):
        ledger = self.made(KINDS["T"])
        self.assert_refused(ledger, ("hear", 0, 0, "n", 1), ("hear", 0, 1, "n", 1))

    def test_messages_behind_a_fall(self):
        ledger = self.made(KINDS["T"], ("say", 0, 0, "n", 1), ("drop", 0, 0))
        self.assert_refused(ledger, ("told", 0, 1))
        self.assert_entered(ledger, ("hear", 0, 1, "n", 1))
        self.assert_entered(ledger, ("told", 0, 1))

    def test_marks(self):
        ledger = self.made(KINDS["T"], ("say", 0, 0, "n", 1), ("drop", 0, 1))
        self.assert_refused(ledger, ("hear", 0, 1, "n", 1))
        ledger = self.made(KINDS["T"], KINDS["U"], ("say", 1, 0, "a", None), ("say", 0, 0, "e", end(1, 1)))
        self.assert_refused(ledger, ("hear", 1, 1, "a", None))


class ToldTest(LedgerCase):
    def test_allowed(self):
        ledger = self.made(KINDS["U"], ("drop", 0, 0), ("told", 0, 1))
        self.assert_side(ledger, (0, 1), KINDS["U"], "closed", [])
        self.assert_refused(ledger, ("told", 0, 1), ("drop", 0, 1), ("close", 0, 1))

    def test_the_partner_must_be_fallen(self):
        self.assert_refused(self.made(KINDS["U"]), ("told", 0, 1), ("told", 0, 0))
        ledger = self.made(KINDS["T"], KINDS["U"], DUALS["U"])
        self.assert_entered(ledger, ("say", 0, 0, "e", end(1, 1)))
        self.assert_refused(ledger, ("told", 1, 0), ("told", 1, 1))

    def test_the_head_must_be_a_hear(self):
        for kind in (DUALS["U"], KINDS["E"]):
            self.assert_refused(self.made(kind, ("drop", 0, 0)), ("told", 0, 1))

    def test_the_mailbox_must_be_empty(self):
        ledger = self.made(KINDS["U"], ("say", 0, 0, "a", None), ("drop", 0, 0))
        self.assert_refused(ledger, ("told", 0, 1))

    def test_sides(self):
        ledger = self.made(KINDS["U"], ("drop", 0, 0))
        self.assert_refused(ledger, ("told", 1, 1), ("told", -1, 1), ("told", 0, -1), ("told", 0, 2), ("told", 0, 0))
        for other in NO_NUMBERS:
            self.assert_refused(ledger, ("told", other, 1), ("told", 0, other))

    def test_marks(self):
        ledger = self.made(KINDS["T"], KINDS["U"], ("say", 0, 0, "e", end(1, 1)), ("drop", 1, 0))
        self.assert_refused(ledger, ("told", 1, 1))


class CloseTest(LedgerCase):
    def test_allowed(self):
        ledger = self.made(KINDS["E"], ("close", 0, 1))
        self.assert_side(ledger, (0, 1), KINDS["E"], "closed", [])
        self.assert_side(ledger, (0, 0), mark="open")
        self.assert_entered(ledger, ("close", 0, 0))
        self.assert_refused(ledger, ("close", 0, 1), ("close", 0, 0))

    def test_the_head_must_be_the_end(self):
        ledger = self.made(KINDS["U"])
        self.assert_refused(ledger, ("close", 0, 0), ("close", 0, 1))
        ledger = self.made(KINDS["U"], ("drop", 0, 0))
        self.assert_refused(ledger, ("close", 0, 0), ("close", 0, 1))

    def test_sides(self):
        ledger = self.made(KINDS["E"])
        self.assert_refused(ledger, ("close", 1, 1), ("close", -1, 1), ("close", 0, -1), ("close", 0, 2))
        for other in NO_NUMBERS:
            self.assert_refused(ledger, ("close", other, 1), ("close", 0, other))


class DropTest(LedgerCase):
    def test_allowed(self):
        ledger = self.made(KINDS["U"], ("drop", 0, 1))
        self.assert_side(ledger, (0, 1), KINDS["U"], "fallen", [])
        self.assert_side(ledger, (0, 0), DUALS["U"], "open", [])
        self.assertEqual(ledger.owed(), [])
        self.assert_refused(ledger, ("drop", 0, 1))

    def test_sides(self):
        ledger = self.made(KINDS["U"])
        self.assert_refused(ledger, ("drop", 1, 1), ("drop", -1, 1), ("drop", 0, -1), ("drop", 0, 2))
        for other in NO_NUMBERS:
            self.assert_refused(ledger, ("drop", other, 1), ("drop", 0, other))


class ActorsTest(LedgerCase):
    def test_become(self):
        ledger = self.made(OPEN)
        before = seen(ledger)
        for name in ("A", "", None, 0, [], {}, object(), ("name", "T"), True):
            self.assert_entered(ledger, ("become", 1, name))
        self.assertEqual(seen(ledger), before)

    def test_finished(self):
        for word in ("done", "fall"):
            ledger = self.made(OPEN, (word, 0))
            self.assertEqual([ledger.finished(0), ledger.finished(1)], [True, False])
            self.assert_side(ledger, (0, 0), mark="open")
            self.assert_refused(ledger, ("done", 0), ("fall", 0), ("become", 0, "A"), ("open", 0, 2, 1, KINDS["T"]))
            self.assert_entered(ledger, (word, 1))
            self.assertIs(ledger.finished(1), True)

    def test_numbers(self):
        ledger = self.made(OPEN)
        for word, rest in (("become", ("A",)), ("done", ()), ("fall", ())):
            self.assert_refused(ledger, *[(word, actor, *rest) for actor in (-1, -2, 2, 1000, *NO_NUMBERS)])


class OwedTest(LedgerCase):
    """The side (0, 1) has got the ends (2, 1) and (1, 1), and (2, 1) the end (3, 0)."""

    def owing(self, *last):
        return self.made(
            KINDS["Send"], KINDS["Send"], DUALS["Send"], DUALS["Send"], DUALS["Send"], DUALS["E"],
            ("say", 0, 1, "e", end(2, 1)), ("say", 0, 1, "e", end(1, 0)), ("say", 2, 0, "e", end(3, 1)), *last)

    def test_a_drop_owes_the_ends_in_its_mailbox(self):
        ledger = self.owing(("drop", 0, 0))
        self.assertEqual(ledger.owed(), [(2, 1), (1, 0)])
        self.assert_side(ledger, (0, 0), mark="fallen", mailbox=[])
        self.assert_side(ledger, (2, 1), mark="away", mailbox=[("e", end(3, 1))])
        self.assert_entered(ledger, ("drop", 2, 1))
        self.assert_side(ledger, (2, 1), mark="fallen", mailbox=[])
        # The ends behind those that are owed already.
        self.assertEqual(ledger.owed(), [(1, 0), (3, 1)])
        self.assert_entered(ledger, ("drop", 1, 0))
        self.assertEqual(ledger.owed(), [(3, 1)])
        self.assert_entered(ledger, ("drop", 3, 1))
        self.assertEqual(ledger.owed(), [])
        self.assertEqual([ledger.mark_of(*one) for one in ((2, 1), (1, 0), (3, 1))], ["fallen"] * 3)

    def test_only_two_events_are_allowed(self):
        ledger = self.owing(("drop", 0, 0))
        self.assert_refused(
            ledger, ("drop", 1, 0), ("drop", 3, 1), ("drop", 0, 0), ("open", 0, 7, 6, KINDS["T"]),
            ("say", 0, 1, "stop", None), ("say", 1, 1, "stop", None), ("close", 5, 0), ("become", 0, "A"),
            ("done", 0), ("fall", 1), ("told", 0, 1), ("drop", True, 1), ("drop", 2, True), ("drop", 2.0, 1),
            ("drop", 2), ("drop", 2, 1, 0), ["drop", 2, 1], None, ())
        self.assert_entered(ledger, ("drop", 2, 1))

    def test_hear_and_told_are_not_allowed(self):
        ledger = self.made(KINDS["Send"], KINDS["Send"], KINDS["U"], KINDS["U"], ("say", 2, 0, "a", None),
                           ("drop", 3, 0), ("say", 0, 1, "e", end(1, 0)), ("drop", 0, 0))
        self.assertEqual(ledger.owed(), [(1, 0)])
        self.assert_refused(ledger, ("hear", 2, 1, "a", None), ("told", 3, 1))
        self.assert_entered(ledger, ("drop", 1, 0))
        self.assert_entered(ledger, ("hear", 2, 1, "a", None))
        self.assert_entered(ledger, ("told", 3, 1))

    def test_a_side_with_the_mark_open(self):
        ledger = self.owing(("drop", 0, 0), ("drop", 5, 1))
        self.assert_side(ledger, (5, 1), mark="fallen")
        self.assertEqual(ledger.owed(), [(2, 1), (1, 0)])
        # What falls with it comes behind what is owed already.
        ledger = self.owing(("say", 1, 1, "e", end(4, 1)), ("drop", 0, 0), ("drop", 2, 0))
        self.assertEqual(ledger.owed(), [(2, 1), (1, 0)])
        for side, owed in (((2, 1), [(1, 0), (3, 1)]), ((1, 0), [(3, 1), (4, 1)]), ((3, 1), [(4, 1)]), ((4, 1), [])):
            self.assert_entered(ledger, ("drop", *side))
            self.assertEqual(ledger.owed(), owed)

    def test_an_open_side_with_ends_in_its_mailbox(self):
        ledger = self.made(*[KINDS["Send"]] * 2, *[DUALS["Send"]] * 3, ("say", 0, 1, "e", end(2, 1)),
                           ("say", 1, 1, "e", end(3, 1)), ("drop", 0, 0), ("drop", 1, 0))
        self.assertEqual(ledger.owed(), [(2, 1), (3, 1)])

    def test_an_end_in_a_message_that_is_lost(self):
        ledger = self.made(KINDS["Send"], DUALS["Send"], KINDS["E"], ("drop", 0, 0))
        self.assert_entered(ledger, ("say", 0, 1, "e", end(1, 1)))
        self.assertEqual(ledger.owed(), [(1, 1)])
        self.assert_refused(ledger, ("say", 0, 1, "stop", None), ("done", 0), ("close", 2, 0))
        self.assert_entered(ledger, ("drop", 2, 0))
        self.assert_entered(ledger, ("drop", 1, 1))
        self.assert_entered(ledger, ("say", 0, 1, "stop", None))


class SlowLedger:
    """Another way to keep a ledger: one dict, and each event tried on a copy of it."""

    def __init__(self, table):
        self.table = table
        self.state = {"finished": [False], "sides": {}, "owed": []}

    def allows(self, event):
        return self.behind(event) is not None

    def enter(self, event):
        self.state = self.behind(event)

    def behind(self, event):
        """Returns the state behind an event, or None."""
        state = copy.deepcopy(self.state)
        words = {"open": 5, "say": 5, "hear": 5, "told": 3, "close": 3, "drop": 3, "become": 3, "done": 2, "fall": 2}
        if type(event) is not tuple or not event or type(event[0]) is not str or words.get(event[0]) != len(event):
            return None
        if state["owed"] and event[0] != "drop":
            return None
        return state if getattr(self, "on_" + event[0])(state, *event[1:]) else None

    def on_open(self, state, actor, child, number, kind):
        if not self.active(state, actor) or (type(child), type(number)) != (int, int):
            return False
        if (child, number) != (len(state["finished"]), len(state["sides"]) // 2):
            return False
        if kind not in [(way, name) for way in ("name", "dual") for name in self.table]:
            return False
        state["finished"].append(False)
        state["sides"][number, 0] = [dual(kind), "open", []]
        state["sides"][number, 1] = [kind, "open", []]
        return True

    def active(self, state, actor):
        return type(actor) is int and actor in range(len(state["finished"])) and not state["finished"][actor]

    def side(self, state, number, side, word):
        """Returns an open side whose head is a word, or None."""
        if (type(number), type(side)) != (int, int) or (number, side) not in state["sides"]:
            return None
        found = state["sides"][number, side]
        right = found[1] == "open" and word in (None, head(self.table, found[0])[0])
        return found if right else None

    def row(self, found, label):
        rows = [row for row in head(self.table, found[0])[1] if type(label) is str and row[0] == label]
        return rows[0] if rows else None

    def on_say(self, state, number, side, label, payload):
        found = self.side(state, number, side, "say")
        row = found and self.row(found, label)
        if not row or not self.fits(state, payload, row[1]) or repr(payload) == repr(("end", number, side)):
            return False
        found[0] = row[2]
        partner = state["sides"][number, 1 - side]
        lost = partner[1] in ("closed", "fallen")
        if not lost:
            partner[2].append((label, payload))
        if type(payload) is tuple:
            state["sides"][payload[1:]][1] = "away"
            state["owed"].extend([payload[1:]] * lost)
        return True

    def fits(self, state, payload, kind):
        if type(kind) is tuple:
            if type(payload) is not tuple or len(payload) != 3 or payload[0] != "end":
                return False
            found = self.side(state, *payload[1:], None)
            return found is not None and is_subtalk(self.table, found[0], kind)
        if kind == "int":
            return type(payload) is int and payload in range(65536)
        return type(payload) is (bool if kind == "bool" else type(None))

    def on_hear(self, state, number, side, label, payload):
        found = self.side(state, number, side, "hear")
        row = found and self.row(found, label)
        if not row or not found[2] or repr(found[2][0]) != repr((label, payload)):
            return False
        found[0], found[2] = row[2], found[2][1:]
        if type(payload) is tuple:
            state["sides"][payload[1:]][1] = "open"
        return True

    def on_told(self, state, number, side):
        found = self.side(state, number, side, "hear")
        if not found or found[2] or state["sides"][number, 1 - side][1] != "fallen":
            return False
        found[1] = "closed"
        return True

    def on_close(self, state, number, side):
        return self.leave(state, self.side(state, number, side, "end"), "closed")

    def on_drop(self, state, number, side):
        if (type(number), type(side)) == (int, int) and [(number, side)] == state["owed"][:1]:
            del state["owed"][0]
            return self.leave(state, state["sides"][number, side], "fallen")
        return self.leave(state, self.side(state, number, side, None), "fallen")

    def leave(self, state, found, mark):
        if found is None:
            return False
        state["owed"].extend(payload[1:] for _, payload in found[2] if type(payload) is tuple)
        found[1:] = [mark, []]
        return True

    def on_become(self, state, actor, _):
        return self.active(state, actor)

    def on_done(self, state, actor):
        if not self.active(state, actor):
            return False
        state["finished"][actor] = True
        return True

    on_fall = on_done


class RandomTest(unittest.TestCase):
    def side(self, source, slow, words):
        """Returns the numbers of a side, in most cases of one that is open and at some words."""
        sides = list(slow.state["sides"].items())
        fitting = [side for side, (talk, mark, _) in sides if mark == "open" and head(slow.table, talk)[0] in words]
        if fitting and source.random() < 0.9:
            # Some sides say much, so that many ends come together in a mailbox.
            return source.choice((fitting[0], source.choice(fitting)))
        odd = source.random() < 0.2
        return (source.choice((-1, 0, 1, True, None) if odd else range(len(sides) // 2 + 1)),
                source.choice((-1, 2, True, False, 0.0) if odd else (0, 1)))

    def actor(self, source, slow):
        many = len(slow.state["finished"])
        return source.randrange(many) if source.random() < 0.95 else source.choice((-1, many, True, False, None, 0.0))

    def payload(self, source, slow, kind):
        """Returns a payload, in most cases one of a kind."""
        ends = [("end", *side) for side, (talk, mark, _) in slow.state["sides"].items()
                if isinstance(kind, tuple) and mark == "open" and is_subtalk(slow.table, talk, kind)]
        if ends and source.random() < 0.9:
            return source.choice(ends)
        if kind == "int" and source.random() < 0.9:
            return source.choice((0, 1, 65535))
        ends = [("end", *side) for side in slow.state["sides"]]
        return source.choice((None, None, None, 65536, -1, True, 7, *ends[:3]))

    def event(self, source, slow):
        """Returns a random event, in most cases one that is allowed or nearly so."""
        state = slow.state
        word = source.choice(("open", "become", "done", *["say"] * 9, *["hear"] * 4, "close", "close", "told", "told",
                              "drop"))
        if state["owed"] and source.random() < 0.5:
            return ("drop", *state["owed"][0])
        many = len(state["sides"])
        if many < (24 if word == "open" else 14) and source.random() < (1 if word == "open" else 0.3):
            names = [name for name in slow.table if slow.table[name] != END] * 4 + [*slow.table, "Send", "X"]
            kind = (source.choice(("name", "dual") * 4 + ("end",)), source.choice(names))
            return ("open", self.actor(source, slow), len(state["finished"]), many // 2, kind)
        if word in ("hear", "told"):
            side = self.side(source, slow, "hear")
            messages = state["sides"].get(side, (None, None, ()))[2] or [("a", None)]
            return (word, *side, *messages[0]) if word == "hear" else (word, *side)
        if word == "say":
            side = self.side(source, slow, "say")
            talk = head(slow.table, state["sides"][side][0]) if side in state["sides"] else END
            rows = talk[1] if talk != END else (("a", None, None),)
            handing = [row for row in rows if isinstance(row[1], tuple)]
            label, kind, _ = source.choice(handing if handing and source.random() < 0.7 else rows)
            return (word, *side, label, self.payload(source, slow, kind))
        if word == "close":
            return (word, *self.side(source, slow, "end"))
        if word == "drop" and source.random() < 0.6:
            # Those with many messages first, so that many ends fall together.
            sides = [self.side(source, slow, ("say", "hear")) for _ in range(5)]
            return (word, *max(sides, key=lambda side: len(state["sides"].get(side, ((),))[-1])))
        if word == "done" and source.random() < 0.1:
            return (source.choice((word, "fall")), self.actor(source, slow))
        return ("become", self.actor(source, slow), "A")

    def test_against_a_slow_version(self):
        allowed = {}
        for seed in range(150):
            source = random.Random(seed)
            table = TABLE if seed < 60 else random_table(source)
            ledger, slow = Ledger(table), SlowLedger(table)
            for _ in range(150):
                event = self.event(source, slow)
                right = slow.allows(event)
                self.assertIs(ledger.allows(event), right, (table, event, slow.state))
                if right:
                    allowed[event[0]] = allowed.get(event[0], 0) + 1
                    many = "owed " + str(min(2, len(slow.state["owed"])))
                    allowed[many] = allowed.get(many, 0) + 1
                    ledger.enter(event)
                    slow.enter(event)
                else:
                    self.assertRaises(Misused, ledger.enter, event)
                sides = [tuple(slow.state["sides"][side]) for side in sorted(slow.state["sides"])]
                self.assertEqual(seen(ledger), repr((sides, slow.state["owed"], slow.state["finished"])))
        self.assertEqual(len(allowed), 12, allowed)
        self.assertGreater(min(allowed.values()), 10, allowed)


if __name__ == "__main__":
    unittest.main()
