"""The parts of expressions, and the kinds of expressions."""

from pourparler.errors import Mistaken

LEAVES = ("int", "bool", "var")
INT_OPERATORS = ("add", "sub", "mul")
BOOL_OPERATORS = ("and", "or", "not")


def operands_of(part):
    """Returns the tuple of the operands of an expression; a number, a truth and a name have none."""
    return () if part[0] in LEAVES else part[1:]


def operands_first(e):
    """Returns the list of all parts of an expression, from the left to the right, operands before their operator."""
    parts = []
    # A stack and no recursion: an expression may be as deep as its text is long.
    waiting = [e]
    while waiting:
        part = waiting.pop()
        parts.append(part)
        waiting.extend(operands_of(part))
    return parts[::-1]


def fold(e, result_of):
    """Works out an expression; result_of(part, results) gives the result of a part from those of its operands."""
    results = []
    for part in operands_first(e):
        first = len(results) - len(operands_of(part))
        taken = results[first:]
        del results[first:]
        results.append(result_of(part, taken))
    return results[0]


def kind_of(expression, context, at):
    """Returns the kind of an expression in a context; mistakes get the index."""
    return fold(expression, lambda part, kinds: part_kind(part, kinds, context, at))


def part_kind(part, kinds, context, at):
    """Returns the kind of a part of an expression, whose operands have some kinds."""
    if part[0] == "var":
        return name_kind(part[1], context, at)
    if part[0] in LEAVES:
        return part[0]
    return operator_kind(part[0], kinds, at)


def name_kind(name, context, at):
    if not context.binds(name):
        raise Mistaken(at, "unknown")
    if context.is_end(name):
        raise Mistaken(at, "kind")
    return context.kind(name)


def operator_kind(operator, kinds, at):
    """Returns the kind that an operator gives, if it takes operands of these kinds."""
    if operator == "eq":
        fitting = kinds[0] == kinds[1]
    else:
        taken = "bool" if operator in BOOL_OPERATORS else "int"
        fitting = all([kind == taken for kind in kinds])
    if not fitting:
        raise Mistaken(at, "kind")
    return "int" if operator in INT_OPERATORS else "bool"
