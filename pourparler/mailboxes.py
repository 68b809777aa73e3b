"""Conversations: the marks and the mailboxes of their ends."""

from pourparler.errors import Misused
from pourparler.values import is_end


class Conversations:
    """Keeps the marks and the mailboxes of both sides of each conversation, by the number of the conversation."""

    def __init__(self):
        self._marks = []
        self._mailboxes = []

    def __len__(self):
        return len(self._marks)

    def create(self):
        """Makes a conversation and returns its number."""
        self._marks.append(["held", "held"])
        self._mailboxes.append([[], []])
        return len(self._marks) - 1

    def send(self, conversation, side, label, payload):
        """Sends a message from a side; returns the list of the ends that fell."""
        partner = 1 - side
        message = (label, payload)
        if is_end(payload):
            self._set_mark(payload, "sent")
        if self._marks[conversation][partner] in ("closed", "fallen"):
            return self.drop(ends_in([message]))
        self._mailboxes[conversation][partner].append(message)
        return []

    def hear(self, conversation, side):
        """Takes the oldest message from the mailbox of a side and returns it."""
        messages = self._mailboxes[conversation][side]
        if not messages:
            raise Misused("empty")
        label, payload = messages.pop(0)
        if is_end(payload):
            self._set_mark(payload, "held")
        return (label, payload)

    def can_hear(self, conversation, side):
        """Tells whether a side can hear a message or be told of a fall."""
        return len(self._mailboxes[conversation][side]) > 0 or self.is_told(conversation, side)

    def is_told(self, conversation, side):
        """Tells whether a side, when it hears, is told of the fall of its partner."""
        return len(self._mailboxes[conversation][side]) == 0 and self._marks[conversation][1 - side] == "fallen"

    def close(self, conversation, side):
        """Closes a side; returns the list of the ends that fell."""
        self._marks[conversation][side] = "closed"
        return self.drop(self._lose_messages(conversation, side))

    def drop(self, ends):
        """Lets the ends of a list fall; returns the list of all ends that fell, in order."""
        fallen = list(ends)
        at = 0
        while at < len(fallen):
            self._set_mark(fallen[at], "fallen")
            _, conversation, side = fallen[at]
            fallen.extend(self._lose_messages(conversation, side))
            at += 1
        return fallen

    def mark(self, conversation, side):
        """Returns the mark of a side: "held", "sent", "closed" or "fallen"."""
        return self._marks[conversation][side]

    def mailbox(self, conversation, side):
        """Returns the list of the messages in the mailbox of a side, the oldest first."""
        return list(self._mailboxes[conversation][side])

    def snapshot(self):
        """Returns a tuple of the whole state."""
        marks = tuple([tuple(sides) for sides in self._marks])
        mailboxes = tuple([(tuple(left), tuple(right)) for left, right in self._mailboxes])
        return (marks, mailboxes)

    def twin(self):
        """Returns an independent copy."""
        other = Conversations()
        other._marks = [list(sides) for sides in self._marks]
        other._mailboxes = [[list(left), list(right)] for left, right in self._mailboxes]
        return other

    def _set_mark(self, end, mark):
        _, conversation, side = end
        self._marks[conversation][side] = mark

    def _lose_messages(self, conversation, side):
        """Empties the mailbox of a side; returns the list of the ends that were in it, in order."""
        messages = self._mailboxes[conversation][side]
        self._mailboxes[conversation][side] = []
        return ends_in(messages)


def ends_in(messages):
    """Returns the list of the ends in messages, in order."""
    return [payload for _, payload in messages if is_end(payload)]
