"""Talks for the tests: short ways to write them, random tables of them, and slow searches through pairs of them.

The searches are given links(table, one, two), which returns the reason why a pair of heads fails, or None, and the
list of the steps from the pair, each with the pair of talks that it leads to.
"""

from pourparler.talks import dual, head

NAMES = ("A", "B", "C")
END = ("end",)


def say(*rows):
    return ("say", rows)


def hear(*rows):
    return ("hear", rows)


ONE_SAY, TWO_SAYS = say(("a", None, END)), say(("a", None, END), ("b", None, END))
ONE_HEAR, TWO_HEARS = dual(ONE_SAY), dual(TWO_SAYS)


def random_table(source):
    """Returns a random well-formed table of talks that are much alike, so that wrong paths are long, too."""
    def name():
        return source.choice((("name", source.choice(NAMES)), ("dual", source.choice(NAMES))))

    def payload():
        return source.choice((None, None, "int", name(), name()))

    def talk(levels):
        if levels == 0:
            return source.choice((END, name(), name(), name()))
        labels = source.sample("ab", source.choice((1, 2, 2)))
        rows = tuple((label, payload(), talk(levels - 1)) for label in labels)
        return (source.choice(("say", "hear")), rows)

    def changed(one):
        if one[0] not in ("say", "hear"):
            return one if source.random() < 0.8 else source.choice((END, name()))
        rows = [(label, kind if source.random() < 0.9 else payload(), changed(after)) for label, kind, after in one[1]]
        if source.random() < 0.1:
            rows.reverse()
        return (one[0], tuple(rows[source.random() < 0.1:] or rows))

    first = talk(2)
    return {"A": first, "B": changed(first), "C": changed(first)}


def greatest_relation(table, links, one, two):
    """Tells whether a pair is in the greatest relation: takes out all pairs that fail, until none does."""
    behind = {}
    first = (head(table, one), head(table, two))
    waiting = [first]
    while waiting:
        pair = waiting.pop()
        if pair not in behind:
            reason, steps = links(table, *pair)
            behind[pair] = None if reason else [(head(table, a), head(table, b)) for _, (a, b) in steps]
            waiting.extend(behind[pair] or [])
    relation = {pair for pair in behind if behind[pair] is not None}
    while True:
        kept = {pair for pair in relation if all(after in relation for after in behind[pair])}
        if kept == relation:
            return first in relation
        relation = kept


def first_wrong(table, links, one, two, longest):
    """Goes through all ways from a pair, the shorter ones first, without remembering any pair."""
    ways = [((), (one, two))]
    for _ in range(longest + 1):
        further = []
        for way, (a, b) in ways:
            reason, steps = links(table, head(table, a), head(table, b))
            if reason is not None:
                return way, reason
            further.extend((way + (step,), pair) for step, pair in steps)
        ways = further
    return None
