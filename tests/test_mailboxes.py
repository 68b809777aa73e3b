"""Promises 31.1 to 31.5."""

import random
import unittest

from pourparler.errors import Misused, Refused
from pourparler.mailboxes import Conversations


def end(conversation, side):
    return ("end", conversation, side)


def made(count):
    conversations = Conversations()
    for _ in range(count):
        conversations.create()
    return conversations


class MailboxesCase(unittest.TestCase):
    def assert_marks(self, conversations, *expected):
        found = [(conversations.mark(number, 0), conversations.mark(number, 1))
                 for number in range(len(conversations))]
        self.assertEqual(found, list(expected))

    def assert_empty(self, conversations, *ends):
        for _, number, side in ends:
            self.assertEqual(conversations.mailbox(number, side), [])


class CreateTest(MailboxesCase):
    def test_numbers(self):
        conversations = Conversations()
        self.assertEqual(len(conversations), 0)
        self.assertEqual([conversations.create() for _ in range(4)], [0, 1, 2, 3])
        self.assertEqual(len(conversations), 4)

    def test_new_conversations(self):
        conversations = made(2)
        self.assert_marks(conversations, ("held", "held"), ("held", "held"))
        self.assert_empty(conversations, end(0, 0), end(0, 1), end(1, 0), end(1, 1))
        for number in (0, 1):
            for side in (0, 1):
                self.assertIs(conversations.can_hear(number, side), False)
                self.assertIs(conversations.is_told(number, side), False)

    def test_numbers_go_on_after_ends_are_gone(self):
        conversations = made(1)
        conversations.close(0, 0)
        conversations.drop([end(0, 1)])
        self.assertEqual((conversations.create(), len(conversations)), (1, 2))
        self.assert_marks(conversations, ("closed", "fallen"), ("held", "held"))


class SendTest(MailboxesCase):
    def test_the_mailbox_of_the_partner(self):
        for side in (0, 1):
            conversations = made(2)
            self.assertEqual(conversations.send(1, side, "a", 7), [])
            self.assertEqual(conversations.send(1, side, "b", None), [])
            self.assertEqual(conversations.send(1, side, "a", True), [])
            self.assertEqual(conversations.mailbox(1, 1 - side), [("a", 7), ("b", None), ("a", True)])
            self.assert_empty(conversations, end(1, side), end(0, 0), end(0, 1))
            self.assert_marks(conversations, ("held", "held"), ("held", "held"))

    def test_both_ways(self):
        conversations = made(1)
        conversations.send(0, 0, "a", 1)
        conversations.send(0, 1, "b", 2)
        self.assertEqual(conversations.mailbox(0, 0), [("b", 2)])
        self.assertEqual(conversations.mailbox(0, 1), [("a", 1)])

    def test_an_end_is_marked_as_sent(self):
        conversations = made(2)
        self.assertEqual(conversations.send(0, 0, "take", end(1, 0)), [])
        self.assertEqual([conversations.mark(1, 0), conversations.mailbox(0, 1)], ["sent", [("take", end(1, 0))]])
        self.assert_marks(conversations, ("held", "held"), ("sent", "held"))

    def test_to_an_end_that_is_sent(self):
        conversations = made(2)
        conversations.send(0, 0, "take", end(1, 0))
        self.assertEqual(conversations.send(1, 1, "a", 5), [])
        self.assertEqual(conversations.mailbox(1, 0), [("a", 5)])
        self.assertIs(conversations.can_hear(1, 0), True)

    def test_to_a_closed_partner(self):
        conversations = made(2)
        conversations.close(0, 1)
        self.assertEqual(conversations.send(0, 0, "a", 5), [])
        self.assertEqual(conversations.send(0, 0, "b", None), [])
        self.assertEqual(conversations.send(0, 0, "take", end(1, 1)), [end(1, 1)])
        self.assert_marks(conversations, ("held", "closed"), ("held", "fallen"))
        self.assert_empty(conversations, end(0, 0), end(0, 1))

    def test_to_a_fallen_partner(self):
        conversations = made(2)
        conversations.drop([end(0, 0)])
        self.assertEqual(conversations.send(0, 1, "a", False), [])
        self.assertEqual(conversations.send(0, 1, "take", end(1, 0)), [end(1, 0)])
        self.assert_marks(conversations, ("fallen", "held"), ("fallen", "held"))
        self.assert_empty(conversations, end(0, 0), end(0, 1))

    def test_a_lost_end_takes_others_with_it(self):
        conversations = made(4)
        conversations.send(1, 1, "take", end(2, 0))
        conversations.send(2, 1, "take", end(3, 1))
        conversations.close(0, 1)
        self.assertEqual(conversations.send(0, 0, "take", end(1, 0)), [end(1, 0), end(2, 0), end(3, 1)])
        self.assert_marks(conversations, ("held", "closed"), ("fallen", "held"), ("fallen", "held"),
                          ("held", "fallen"))


class HearTest(MailboxesCase):
    def test_the_oldest_message(self):
        conversations = made(1)
        messages = [("a", 1), ("b", None), ("a", True), ("c", 65535)]
        for label, payload in messages:
            conversations.send(0, 1, label, payload)
        self.assertEqual([conversations.hear(0, 0) for _ in messages], messages)
        self.assert_empty(conversations, end(0, 0))

    def test_an_end_is_held_again(self):
        conversations = made(2)
        conversations.send(0, 0, "take", end(1, 1))
        self.assertEqual(conversations.hear(0, 1), ("take", end(1, 1)))
        self.assert_marks(conversations, ("held", "held"), ("held", "held"))

    def test_what_was_said_to_an_end_on_its_way(self):
        conversations = made(2)
        conversations.send(0, 0, "take", end(1, 1))
        conversations.send(1, 0, "a", 3)
        conversations.hear(0, 1)
        self.assertEqual(conversations.hear(1, 1), ("a", 3))

    def assert_refused(self, conversations, number, side):
        before = conversations.snapshot()
        with self.assertRaises(Misused) as caught:
            conversations.hear(number, side)
        self.assertEqual(caught.exception.why, "empty")
        self.assertIsInstance(caught.exception, Refused)
        self.assertEqual(conversations.snapshot(), before)

    def test_empty_mailboxes(self):
        conversations = made(2)
        self.assert_refused(conversations, 0, 0)
        conversations.send(0, 0, "a", 1)
        self.assert_refused(conversations, 0, 0)
        self.assert_refused(conversations, 1, 1)
        conversations.hear(0, 1)
        self.assert_refused(conversations, 0, 1)
        conversations.drop([end(0, 0)])
        self.assert_refused(conversations, 0, 1)

    def test_can_hear_and_is_told(self):
        conversations = made(1)
        conversations.send(0, 0, "a", 1)
        self.assertEqual((conversations.can_hear(0, 1), conversations.is_told(0, 1)), (True, False))
        self.assertEqual((conversations.can_hear(0, 0), conversations.is_told(0, 0)), (False, False))
        conversations.drop([end(0, 0)])
        self.assertEqual((conversations.can_hear(0, 1), conversations.is_told(0, 1)), (True, False))
        conversations.hear(0, 1)
        self.assertEqual((conversations.can_hear(0, 1), conversations.is_told(0, 1)), (True, True))

    def test_a_closed_partner_tells_nothing(self):
        conversations = made(1)
        conversations.close(0, 0)
        self.assertEqual((conversations.can_hear(0, 1), conversations.is_told(0, 1)), (False, False))

    def test_a_partner_that_is_sent_tells_nothing(self):
        conversations = made(2)
        conversations.send(0, 0, "take", end(1, 0))
        self.assertEqual((conversations.can_hear(1, 1), conversations.is_told(1, 1)), (False, False))


class CloseTest(MailboxesCase):
    def test_an_empty_mailbox(self):
        conversations = made(1)
        self.assertEqual(conversations.close(0, 1), [])
        self.assert_marks(conversations, ("held", "closed"))

    def test_messages_of_the_partner_are_lost(self):
        conversations = made(4)
        conversations.send(0, 0, "a", 5)
        conversations.send(0, 0, "take", end(3, 0))
        conversations.send(0, 0, "b", True)
        conversations.send(0, 0, "take", end(1, 1))
        self.assertEqual(conversations.close(0, 1), [end(3, 0), end(1, 1)])
        self.assert_empty(conversations, end(0, 1))
        self.assert_marks(conversations, ("held", "closed"), ("held", "fallen"), ("held", "held"),
                          ("fallen", "held"))

    def test_messages_to_the_partner_stay(self):
        conversations = made(2)
        conversations.send(0, 0, "take", end(1, 0))
        self.assertEqual(conversations.close(0, 0), [])
        self.assertEqual(conversations.mailbox(0, 1), [("take", end(1, 0))])
        self.assertEqual(conversations.hear(0, 1), ("take", end(1, 0)))
        self.assert_marks(conversations, ("closed", "held"), ("held", "held"))

    def test_both_sides(self):
        conversations = made(1)
        conversations.close(0, 0)
        self.assertEqual(conversations.close(0, 1), [])
        self.assert_marks(conversations, ("closed", "closed"))

    def test_after_the_fall_of_the_partner(self):
        conversations = made(1)
        conversations.drop([end(0, 0)])
        self.assertEqual(conversations.close(0, 1), [])
        self.assert_marks(conversations, ("fallen", "closed"))


class DropTest(MailboxesCase):
    def test_no_ends(self):
        conversations = made(1)
        before = conversations.snapshot()
        self.assertEqual(conversations.drop([]), [])
        self.assertEqual(conversations.snapshot(), before)

    def test_one_after_the_other(self):
        conversations = made(3)
        ends = [end(2, 1), end(0, 0), end(1, 0)]
        self.assertEqual(conversations.drop(ends), ends)
        self.assert_marks(conversations, ("fallen", "held"), ("fallen", "held"), ("held", "fallen"))

    def test_example(self):
        conversations = made(2)
        conversations.send(0, 0, "take", end(1, 0))
        self.assertEqual(conversations.drop([end(0, 1)]), [end(0, 1), end(1, 0)])
        self.assert_empty(conversations, end(0, 1), end(1, 0))

    def test_lost_ends_come_behind(self):
        conversations = made(7)
        conversations.send(0, 0, "take", end(2, 0))
        conversations.send(0, 0, "n", 3)
        conversations.send(0, 0, "take", end(3, 0))
        conversations.send(1, 0, "take", end(4, 0))
        conversations.send(2, 1, "take", end(5, 0))
        conversations.send(4, 1, "take", end(6, 0))
        found = conversations.drop([end(0, 1), end(1, 1)])
        self.assertEqual(found, [end(0, 1), end(1, 1), end(2, 0), end(3, 0), end(4, 0), end(5, 0), end(6, 0)])
        self.assert_marks(conversations, ("held", "fallen"), ("held", "fallen"), *[("fallen", "held")] * 5)
        self.assert_empty(conversations, *found)

    def test_messages_to_the_partner_stay(self):
        conversations = made(2)
        conversations.send(0, 0, "take", end(1, 0))
        self.assertEqual(conversations.drop([end(0, 0)]), [end(0, 0)])
        self.assertEqual(conversations.mailbox(0, 1), [("take", end(1, 0))])
        self.assert_marks(conversations, ("fallen", "held"), ("sent", "held"))

    def test_a_long_chain(self):
        conversations = made(3000)
        for number in range(2999):
            conversations.send(number, 0, "take", end(number + 1, 1))
        self.assertEqual(conversations.drop([end(0, 1)]), [end(number, 1) for number in range(3000)])

    def test_the_argument_is_not_modified(self):
        conversations = made(2)
        conversations.send(0, 0, "take", end(1, 0))
        ends = [end(0, 1)]
        conversations.drop(ends).clear()
        self.assertEqual(ends, [end(0, 1)])
        self.assert_marks(conversations, ("held", "fallen"), ("fallen", "held"))


class SnapshotTest(MailboxesCase):
    def test_a_tuple_of_the_whole_state(self):
        conversations = made(2)
        seen = [conversations.snapshot()]

        def assert_new():
            self.assertIsInstance(conversations.snapshot(), tuple)
            self.assertNotIn(conversations.snapshot(), seen)
            hash(conversations.snapshot())
            seen.append(conversations.snapshot())

        for change in (
            lambda: conversations.send(0, 0, "a", 5), lambda: conversations.send(0, 1, "a", 5),
            lambda: conversations.send(0, 0, "a", 6), lambda: conversations.send(0, 0, "b", end(1, 0)),
            lambda: conversations.hear(0, 1), lambda: conversations.close(0, 0),
            lambda: conversations.drop([end(0, 1)]), conversations.create,
        ):
            change()
            assert_new()

    def test_equal_states(self):
        one, two = made(2), made(1)
        two.send(0, 0, "a", 5)
        two.hear(0, 1)
        two.create()
        self.assertEqual(one.snapshot(), two.snapshot())
        one.close(0, 0)
        one.close(1, 1)
        self.assertNotEqual(one.snapshot(), two.snapshot())
        two.close(1, 1)
        two.send(1, 0, "a", 9)
        two.close(0, 0)
        self.assertEqual(one.snapshot(), two.snapshot())

    def test_ends_in_messages_count(self):
        one, two = made(3), made(3)
        one.send(0, 0, "a", end(1, 0))
        two.send(0, 0, "a", end(2, 0))
        self.assertNotEqual(one.snapshot(), two.snapshot())

    def test_the_order_of_messages_counts(self):
        one, two = made(1), made(1)
        one.send(0, 0, "a", 1)
        one.send(0, 0, "b", 1)
        two.send(0, 0, "b", 1)
        two.send(0, 0, "a", 1)
        self.assertNotEqual(one.snapshot(), two.snapshot())

    def test_a_snapshot_stays(self):
        conversations = made(1)
        before = conversations.snapshot()
        conversations.send(0, 0, "a", 1)
        conversations.create()
        self.assertEqual(before, made(1).snapshot())


class CopiesTest(MailboxesCase):
    def test_twins_are_independent(self):
        one = made(3)
        one.send(0, 0, "a", 1)
        one.send(0, 0, "take", end(2, 0))
        before = one.snapshot()
        two = one.twin()
        self.assertEqual((two.snapshot(), len(two)), (before, 3))
        two.hear(0, 1)
        two.send(0, 1, "b", None)
        two.drop([end(1, 0)])
        two.create()
        self.assertEqual((one.snapshot(), len(one)), (before, 3))
        after = two.snapshot()
        one.close(0, 1)
        one.send(1, 0, "c", 4)
        one.create()
        one.create()
        self.assertEqual((two.snapshot(), len(two)), (after, 4))

    def test_returned_lists_may_be_changed(self):
        conversations = made(3)
        conversations.send(0, 0, "a", 1)
        conversations.mailbox(0, 1).clear()
        conversations.mailbox(0, 0).append(("b", 2))
        self.assertEqual((conversations.mailbox(0, 1), conversations.mailbox(0, 0)), ([("a", 1)], []))
        conversations.send(0, 0, "b", 2).append(end(1, 0))
        conversations.send(2, 0, "take", end(1, 1))
        conversations.close(2, 1).clear()
        self.assert_marks(conversations, ("held", "held"), ("held", "fallen"), ("held", "closed"))


class Slow:
    """Another way to keep conversations: one dict from an end to its mark and its messages, and fresh values only."""

    def __init__(self):
        self.sides = {}

    def create(self):
        number = len(self.sides) // 2
        self.sides |= {(number, 0): ("held", ()), (number, 1): ("held", ())}
        return number

    def marked(self, side, mark):
        self.sides = self.sides | {side: (mark, self.sides[side][1])}

    def fall(self, waiting):
        if not waiting:
            return []
        first, rest = waiting[0], waiting[1:]
        messages = self.sides[first[1:]][1]
        self.sides = self.sides | {first[1:]: ("fallen", ())}
        return [first, *self.fall([*rest, *(payload for _, payload in messages if type(payload) is tuple)])]

    def send(self, number, side, label, payload):
        if type(payload) is tuple:
            self.marked(payload[1:], "sent")
        mark, messages = self.sides[number, 1 - side]
        if mark in ("held", "sent"):
            self.sides = self.sides | {(number, 1 - side): (mark, (*messages, (label, payload)))}
            return []
        return self.fall([payload] if type(payload) is tuple else [])

    def hear(self, number, side):
        mark, messages = self.sides[number, side]
        self.sides = self.sides | {(number, side): (mark, messages[1:])}
        if type(messages[0][1]) is tuple:
            self.marked(messages[0][1][1:], "held")
        return messages[0]

    def close(self, number, side):
        messages = self.sides[number, side][1]
        self.sides = self.sides | {(number, side): ("closed", ())}
        return self.fall([payload for _, payload in messages if type(payload) is tuple])


class RandomTest(MailboxesCase):
    def assert_same(self, conversations, slow):
        self.assertEqual(2 * len(conversations), len(slow.sides))
        for (number, side), (mark, messages) in slow.sides.items():
            self.assertEqual(conversations.mark(number, side), mark)
            self.assertEqual(conversations.mailbox(number, side), list(messages))
            told = not messages and slow.sides[number, 1 - side][0] == "fallen"
            self.assertIs(conversations.is_told(number, side), told)
            self.assertIs(conversations.can_hear(number, side), bool(messages) or told)

    def play(self, source, conversations, slow):
        """Does the same random thing with both, and returns the answers of both."""
        held = [side for side, (mark, _) in slow.sides.items() if mark == "held"]
        way = source.choice(("create", "send", "send", "send", "send", "hear", "hear", "close", "drop"))
        if way == "create" or len(held) < 2:
            return conversations.create(), slow.create()
        number, side = source.choice(held)
        if way == "drop":
            ends = [("end", *one) for one in source.sample(held, source.choice((1, 1, 2)))]
            return conversations.drop(ends), slow.fall(ends)
        if way == "close":
            return conversations.close(number, side), slow.close(number, side)
        if way == "hear":
            full = [one for one in held if slow.sides[one][1]]
            if full:
                number, side = source.choice(full)
                return conversations.hear(number, side), slow.hear(number, side)
        others = [("end", *one) for one in held if one[0] != number]
        payload = source.choice([None, 1, True, *others, *others])
        return conversations.send(number, side, "a", payload), slow.send(number, side, "a", payload)

    def test_against_a_slow_version(self):
        longest = 0
        for seed in range(60):
            source = random.Random(seed)
            conversations, slow = Conversations(), Slow()
            for _ in range(60):
                found, expected = self.play(source, conversations, slow)
                self.assertEqual(found, expected)
                self.assert_same(conversations, slow)
                longest = max(longest, len(found) if isinstance(found, list) else 0)
        self.assertGreater(longest, 3)


if __name__ == "__main__":
    unittest.main()
