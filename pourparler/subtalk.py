"""Whether an end with one talk may stand where an end with another talk is asked."""

from pourparler.pairs import Pairs
from pourparler.talks import row_of, rows_of


def is_subtalk(table, one, two):
    """Tells whether a talk is a subtalk of another one."""
    return wrong_path(table, one, two) is None


def is_subkind(table, one, two):
    """Tells whether a payload is a subkind of another one."""
    return Subkinds(table).holds(one, two)


def wrong_path(table, one, two):
    """Returns None for a subtalk, otherwise the first path to a place where it fails, and the reason."""
    pairs = Pairs(table)
    pairs.begin(one, two)
    return pairs.first_wrong(lambda at: visit(pairs, at))


class Subkinds:
    """Tells of one payload after the other whether it is a subkind of another one.

    Pairs of talks that held still hold, so they are kept, and none of them is visited for two questions.
    """

    def __init__(self, table):
        self._source = table
        self._held = Pairs(table)

    def holds(self, one, two):
        """Tells whether a payload is a subkind of another one; a payload may be any talk here."""
        if not (isinstance(one, tuple) and isinstance(two, tuple)):
            return one == two
        pairs = self._held
        pairs.begin(one, two)
        if pairs.first_wrong(lambda at: visit(pairs, at)) is None:
            return True
        # Some of the pairs that were reached by now do not hold.
        self._held = Pairs(self._source)
        return False


def visit(pairs, at):
    """Returns the reason why a pair fails, or None; adds the pairs behind it to the search."""
    one, two = pairs.heads_at(at)
    if one[0] != two[0]:
        return ("head",)
    says = one[0] == "say"
    # The first talk must say each label that the second one says, and may hear only what the second one hears.
    asked, given = (two, one) if says else (one, two)
    for label, payload, after in rows_of(asked):
        row = row_of(given, label)
        if row is None:
            return ("missing", label)
        if isinstance(payload, tuple) and isinstance(row[1], tuple):
            pairs.reach(payload, row[1], at, (label, "payload"))
        elif payload != row[1]:
            return ("payload", label)
        if says:
            pairs.reach(row[2], after, at, (label, "next"))
        else:
            pairs.reach(after, row[2], at, (label, "next"))
    return None
