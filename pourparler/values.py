"""Values, and what expressions come to."""

from pourparler.errors import Unknown
from pourparler.expressions import LEAVES, fold

# Integers go from 0 to one below this.
MODULUS = 65536


def is_end(value):
    """Tells whether a value, or None, is an end."""
    return isinstance(value, tuple)


def ends_of(names):
    """Returns the ascending list of the ends among the values of a dict."""
    return sorted([value for value in names.values() if is_end(value)])


def evaluate(e, names):
    """Returns the value of an expression, with a dict from names to values."""
    return fold(e, lambda part, operands: part_value(part, operands, names))


def part_value(part, operands, names):
    """Returns the value of a part of an expression, whose operands have some values."""
    if part[0] == "var":
        if part[1] not in names:
            raise Unknown(part[1])
        return names[part[1]]
    if part[0] in LEAVES:
        return part[1]
    return operator_value(part[0], operands)


def operator_value(operator, operands):
    """Returns what an operator makes of the list of its operands."""
    if operator == "not":
        return not operands[0]
    one, two = operands
    if operator == "add":
        return (one + two) % MODULUS
    if operator == "sub":
        return (one - two) % MODULUS
    if operator == "mul":
        return (one * two) % MODULUS
    if operator == "lt":
        return one < two
    if operator == "le":
        return one <= two
    if operator == "eq":
        return one == two
    return one and two if operator == "and" else one or two
