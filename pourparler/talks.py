"""Talks, tables of talks, and what a talk leads to."""

from pourparler.errors import Clashing, Misused, Unknown


def check_table(table):
    """Raises an error at the first place where a table is not well-formed."""
    for name in table:
        check_talk(table, table[name])
    endless = endless_name(table)
    if endless is not None:
        raise Misused(endless)


def check_talk(table, talk):
    """Raises an error at a label that stands twice in the same rows, or at a name that is not in the table."""
    if stands_for_another(talk) and talk[1] not in table:
        raise Unknown(talk[1])
    labels = {}
    for label, payload, after in rows_of(talk):
        if label in labels:
            raise Clashing(label)
        labels[label] = True
        if isinstance(payload, tuple):
            check_talk(table, payload)
        check_talk(table, after)


def endless_name(table):
    """Returns the first name that does not lead to a say, a hear or an end; None if there is no such name."""
    settled = {}
    for name in table:
        passed = {}
        talk = ("name", name)
        while stands_for_another(talk) and talk[1] not in settled:
            if talk[1] in passed:
                return name
            passed[talk[1]] = True
            talk = table[talk[1]]
        settled.update(passed)
    return None


def stands_for_another(talk):
    """Tells whether a talk is a name or a dual name."""
    return talk[0] == "name" or talk[0] == "dual"


def rows_of(talk):
    """Returns the rows of a say or a hear, and no rows for another talk."""
    return talk[1] if talk[0] == "say" or talk[0] == "hear" else ()


def dual(talk):
    """Returns the dual of a talk."""
    if stands_for_another(talk):
        return dual_kind(talk)
    if talk[0] == "end":
        return talk
    rows = []
    for label, payload, after in talk[1]:
        rows.append((label, payload, dual(after)))
    return ("hear" if talk[0] == "say" else "say", tuple(rows))


def dual_kind(kind):
    """Returns the dual of a name or a dual name."""
    return ("dual" if kind[0] == "name" else "name", kind[1])


def head(table, talk):
    """Returns the say, the hear or the end that a talk stands for."""
    turned = False
    while stands_for_another(talk):
        if talk[0] == "dual":
            turned = not turned
        talk = table[talk[1]]
    return dual(talk) if turned else talk


def row_of(talk, label):
    """Returns the row of a say or a hear with a label, or None."""
    for row in rows_of(talk):
        if row[0] == label:
            return row
    return None


def stages(table, talk):
    """Returns the list of the heads that can be reached from a talk, breadth first."""
    heads = Heads(table)
    heads.number_of(talk)
    at = 0
    while at < heads.many():
        rows = rows_of(heads.head_at(at))
        for row in rows:
            heads.number_of(row[2])
        at += 1
    return [heads.head_at(number) for number in range(heads.many())]


class Heads:
    """Numbers the heads of talks from 0 in the order in which they are met, equal heads by one number.

    A head may be a large tree, so talks are looked up by their texts, and each head is worked out once.
    """

    def __init__(self, table):
        self._source = table
        self._numbers = {}
        self._met = []

    def number_of(self, talk):
        """Returns the number of the head of a talk; a new head gets the next number."""
        text = repr(talk)
        if text not in self._numbers:
            self._numbers[text] = self._head_number(head(self._source, talk))
        return self._numbers[text]

    def _head_number(self, found):
        text = repr(found)
        if text not in self._numbers:
            self._numbers[text] = len(self._met)
            self._met.append(found)
        return self._numbers[text]

    def head_at(self, number):
        """Returns the head of a number."""
        return self._met[number]

    def many(self):
        """Returns how many heads were met."""
        return len(self._met)
