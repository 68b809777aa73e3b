"""Ledgers: what the talks of conversations allow next, told from the events alone."""

from pourparler.errors import Misused
from pourparler.subtalk import Subkinds
from pourparler.talks import dual_kind, head, row_of
from pourparler.values import MODULUS


class Side:
    """What a ledger knows of a side of a conversation."""

    def __init__(self, talk):
        self.talk = talk
        self.mark = "open"
        self.mailbox = []


class Ledger:
    """Reads the events of a trace, one after the other, and knows the talks of a table."""

    def __init__(self, table):
        self._talks = dict(table)
        self._subkinds = Subkinds(self._talks)
        self._pairs = []
        self._ended = [False]
        self._owed = []

    def allows(self, event):
        """Tells whether an event, which may be any value, is allowed; the ledger does not change."""
        # The patterns below would take a list, too, and compare a first part of any kind.
        if not (isinstance(event, tuple) and len(event) > 0 and isinstance(event[0], str)):
            return False
        if len(self._owed) > 0 and event[0] != "drop":
            return False
        match event:
            case ("open", actor, child, number, kind):
                return self._is_active(actor) and self._are_next(child, number) and self._is_kind(kind)
            case ("say", number, side, label, payload):
                return self._allows_say(number, side, label, payload)
            case ("hear", number, side, label, payload):
                return self._allows_hear(number, side, label, payload)
            case ("told", number, side):
                return self._allows_told(number, side)
            case ("close", number, side):
                return self._is_at(number, side, "end")
            case ("drop", number, side):
                return self._is_open(number, side) or self._is_first_owed(number, side)
            case ("become", actor, _):
                return self._is_active(actor)
            case ("done" | "fall", actor):
                return self._is_active(actor)
        return False

    def enter(self, event):
        """Enters an event, which must be allowed."""
        if not self.allows(event):
            raise Misused("event")
        match event:
            case ("open", _, _, _, kind):
                self._ended.append(False)
                self._pairs.append((Side(dual_kind(kind)), Side(kind)))
            case ("say", number, side, label, payload):
                self._enter_say(number, side, label, payload)
            case ("hear", number, side, label, payload):
                self._enter_hear(number, side, label, payload)
            case ("told", number, side):
                self._leave(number, side, "closed")
            case ("close", number, side):
                self._leave(number, side, "closed")
            case ("drop", number, side):
                self._enter_drop(number, side)
            case ("done" | "fall", actor):
                self._ended[actor] = True

    def talk_of(self, conversation, side):
        """Returns the talk of a side."""
        return self._known_side(conversation, side).talk

    def mark_of(self, conversation, side):
        """Returns the mark of a side: "open", "away", "closed" or "fallen"."""
        return self._known_side(conversation, side).mark

    def mailbox_of(self, conversation, side):
        """Returns a new list of the messages that were said to a side and not yet heard, the oldest first."""
        return list(self._known_side(conversation, side).mailbox)

    def owed(self):
        """Returns the list of the sides that must fall at once, as pairs of a conversation and a side."""
        return list(self._owed)

    def conversations(self):
        """Returns the number of conversations."""
        return len(self._pairs)

    def actors(self):
        """Returns the number of actors."""
        return len(self._ended)

    def finished(self, actor):
        """Tells whether an actor is finished."""
        return self._ended[actor]

    def _has_side(self, number, side):
        """Tells whether two values of any kind are the numbers of a conversation and of a side."""
        return is_number(number) and is_number(side) and 0 <= number < len(self._pairs) and 0 <= side <= 1

    def _known_side(self, number, side):
        if not self._has_side(number, side):
            raise Misused("side")
        return self._pairs[number][side]

    def _is_open(self, number, side):
        return self._has_side(number, side) and self._pairs[number][side].mark == "open"

    def _is_first_owed(self, number, side):
        return self._has_side(number, side) and self._owed[:1] == [(number, side)]

    def _is_active(self, actor):
        """Tells whether a value of any kind is the number of an actor that is not finished."""
        return is_number(actor) and 0 <= actor < len(self._ended) and not self._ended[actor]

    def _are_next(self, child, number):
        """Tells whether two values of any kind are the numbers that the next actor and conversation get."""
        return is_number(child) and is_number(number) and child == len(self._ended) and number == len(self._pairs)

    def _is_kind(self, kind):
        """Tells whether a value of any kind is a name or a dual name of the table."""
        if not (isinstance(kind, tuple) and len(kind) == 2):
            return False
        if not (isinstance(kind[0], str) and isinstance(kind[1], str)):
            return False
        return kind[0] in ("name", "dual") and kind[1] in self._talks

    def _head(self, number, side):
        return head(self._talks, self._pairs[number][side].talk)

    def _is_at(self, number, side, word):
        """Tells whether there is such a side, it is open, and the head of its talk is a say, a hear or an end."""
        return self._is_open(number, side) and self._head(number, side)[0] == word

    def _row(self, number, side, word, label):
        """Returns the row of a label if a side is at a say or a hear that has it, otherwise None."""
        if not (self._is_at(number, side, word) and isinstance(label, str)):
            return None
        return row_of(self._head(number, side), label)

    def _allows_say(self, number, side, label, payload):
        row = self._row(number, side, "say", label)
        if row is None:
            return False
        kind = row[1]
        if isinstance(kind, tuple):
            return self._may_hand_over(payload, kind) and payload != ("end", number, side)
        return is_plain(payload, kind)

    def _may_hand_over(self, payload, kind):
        """Tells whether a value of any kind is an open end whose talk is a subtalk of a kind."""
        if value_kind(payload) != "end" or not self._is_open(payload[1], payload[2]):
            return False
        return self._subkinds.holds(self._pairs[payload[1]][payload[2]].talk, kind)

    def _allows_hear(self, number, side, label, payload):
        if self._row(number, side, "hear", label) is None:
            return False
        mailbox = self._pairs[number][side].mailbox
        if len(mailbox) == 0:
            return False
        said, value = mailbox[0]
        return said == label and value_kind(value) == value_kind(payload) and value == payload

    def _allows_told(self, number, side):
        if not self._is_at(number, side, "hear"):
            return False
        return len(self._pairs[number][side].mailbox) == 0 and self._pairs[number][1 - side].mark == "fallen"

    def _go_on(self, number, side, label):
        """Gives a side the talk behind a label."""
        going = self._pairs[number][side]
        going.talk = row_of(self._head(number, side), label)[2]

    def _mark_payload(self, payload, mark):
        """Marks a payload if it is an end."""
        if isinstance(payload, tuple):
            handed = self._pairs[payload[1]][payload[2]]
            handed.mark = mark

    def _enter_say(self, number, side, label, payload):
        self._go_on(number, side, label)
        self._mark_payload(payload, "away")
        partner = self._pairs[number][1 - side]
        if partner.mark == "open" or partner.mark == "away":
            partner.mailbox.append((label, payload))
        else:
            self._lose([(label, payload)])

    def _enter_hear(self, number, side, label, payload):
        self._go_on(number, side, label)
        self._mark_payload(payload, "open")
        self._pairs[number][side].mailbox.pop(0)

    def _enter_drop(self, number, side):
        if self._is_first_owed(number, side):
            self._owed.pop(0)
        self._leave(number, side, "fallen")

    def _leave(self, number, side, mark):
        """Gives a side its last mark and empties its mailbox."""
        left = self._pairs[number][side]
        left.mark = mark
        self._lose(left.mailbox)
        left.mailbox = []

    def _lose(self, messages):
        """Adds the ends in messages to the owed drops."""
        for _, payload in messages:
            if isinstance(payload, tuple):
                self._owed.append((payload[1], payload[2]))


def is_number(value):
    """Tells whether a value of any kind is an integer; True and False are none here."""
    return isinstance(value, int) and not isinstance(value, bool)


def value_kind(value):
    """Returns "none", "bool", "int" or "end" for a value of any kind that is None or one of these; otherwise None."""
    if value is None:
        return "none"
    if isinstance(value, bool):
        return "bool"
    if isinstance(value, int):
        return "int"
    if not (isinstance(value, tuple) and len(value) == 3 and isinstance(value[0], str)):
        return None
    return "end" if value[0] == "end" and is_number(value[1]) and is_number(value[2]) else None


def is_plain(payload, kind):
    """Tells whether a value of any kind is a payload of a kind that is None, "int" or "bool"."""
    if kind == "int":
        return value_kind(payload) == "int" and 0 <= payload < MODULUS
    return value_kind(payload) == ("none" if kind is None else kind)
