"""Whether two partners that hold the ends of one conversation go well together."""

from pourparler.pairs import Pairs
from pourparler.subtalk import Subkinds
from pourparler.talks import row_of, rows_of


def fits(table, one, two):
    """Tells whether two talks fit."""
    return wrong_run(table, one, two) is None


def wrong_run(table, one, two):
    """Returns None for two talks that fit, otherwise the first run that goes wrong, and the reason."""
    pairs = Pairs(table)
    subkinds = Subkinds(table)
    pairs.begin(one, two)
    return pairs.first_wrong(lambda at: visit_partners(pairs, subkinds, at))


def visit_partners(pairs, subkinds, at):
    """Returns the reason why the partners of a pair go wrong, or None; adds the pairs behind it to the search."""
    one, two = pairs.heads_at(at)
    if one[0] == two[0]:
        return None if one[0] == "end" else ("both " + one[0],)
    if one[0] == "end":
        return ("left", 1)
    if two[0] == "end":
        return ("left", 0)
    side = 0 if one[0] == "say" else 1
    said, heard = (one, two) if side == 0 else (two, one)
    for label, payload, after in rows_of(said):
        row = row_of(heard, label)
        if row is None:
            return ("deaf", side, label)
        if not subkinds.holds(payload, row[1]):
            return ("payload", side, label)
        if side == 0:
            pairs.reach(after, row[2], at, (side, label))
        else:
            pairs.reach(row[2], after, at, (side, label))
    return None
