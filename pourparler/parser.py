"""The trees of program texts, talks and expressions: one function for each rule of the grammar."""

from pourparler.errors import Malformed, Oversized
from pourparler.reader import Reader

DEEPEST_LEVEL = 30
COMPARISONS = {"<": "lt", "<=": "le", "==": "eq"}
SUMS = {"+": "add", "-": "sub"}


def parse(text):
    """Returns the list of the items of a program text, in order."""
    reader = Reader(text)
    items = []
    while not reader.has("stop"):
        items.append(read_item(reader))
    return items


def parse_talk(text):
    """Returns the talk that a whole text is."""
    reader = Reader(text)
    talk = read_talk(reader, 1)
    reader.finish()
    return talk


def parse_expression(text):
    """Returns the expression that a whole text is."""
    reader = Reader(text)
    expression = read_expression(reader, 1)
    reader.finish()
    return expression


def check_level(level):
    """Raises an error where a part of this level begins too deep."""
    if level > DEEPEST_LEVEL:
        raise Oversized("depth")


def read_item(reader):
    """Reads a talk equation or the definition of an actor."""
    if reader.skip("talk"):
        name = reader.take_name()
        reader.take("=")
        talk = read_talk(reader, 1)
        reader.take(";")
        return ("talk", name, talk)
    return ("actor", read_definition(reader))


def read_definition(reader):
    at = reader.place()
    reader.take("actor")
    name = reader.take_name()
    reader.take("(")
    parameters = []
    if not reader.skip(")"):
        parameters.append(read_parameter(reader))
        while reader.skip(","):
            parameters.append(read_parameter(reader))
        reader.take(")")
    block = read_block(reader, 1)
    return (name, tuple(parameters), block, at)


def read_parameter(reader):
    name = reader.take_name()
    reader.take(":")
    return (name, read_kind(reader))


def read_kind(reader):
    if reader.value() == "int" or reader.value() == "bool":
        return reader.advance()
    return read_named_talk(reader)


def read_named_talk(reader):
    """Reads a name or a dual name, which stand for talks in talks and in kinds."""
    if reader.skip("~"):
        return ("dual", reader.take_name())
    return ("name", reader.take_name())


def read_talk(reader, level):
    check_level(level)
    if reader.skip("end"):
        return ("end",)
    if reader.value() == "say" or reader.value() == "hear":
        way = reader.advance()
        return (way, read_options(reader, level))
    return read_named_talk(reader)


def read_options(reader, level):
    reader.take("{")
    options = [read_option(reader, level)]
    while reader.skip(","):
        options.append(read_option(reader, level))
    reader.take("}")
    return tuple(options)


def read_option(reader, level):
    label = reader.take_name()
    payload = None
    if reader.skip("("):
        payload = read_kind(reader)
        reader.take(")")
    reader.take(":")
    return (label, payload, read_talk(reader, level + 1))


def read_let(reader):
    name = reader.take_name()
    reader.take("=")
    return (name, read_expression(reader, 1))


def read_say(reader):
    name = reader.take_name()
    reader.take(".")
    label = reader.take_name()
    expression = None
    if reader.skip("("):
        expression = read_expression(reader, 1)
        reader.take(")")
    return (name, label, expression)


def read_parting(reader):
    """Reads the name in a close or a drop."""
    return (reader.take_name(),)


def read_opening(reader):
    name = reader.take_name()
    reader.take("=")
    actor = reader.take_name()
    return (name, actor, read_arguments(reader))


# Each function reads what stands between the first word of its statement and the semicolon.
SIMPLE = {"let": read_let, "say": read_say, "close": read_parting, "drop": read_parting, "open": read_opening}


def read_arguments(reader):
    reader.take("(")
    if reader.skip(")"):
        return ()
    arguments = [read_expression(reader, 1)]
    while reader.skip(","):
        arguments.append(read_expression(reader, 1))
    reader.take(")")
    return tuple(arguments)


def read_block(reader, level):
    check_level(level)
    reader.take("{")
    statements = []
    while reader.value() in SIMPLE:
        statements.append(read_simple(reader))
    statements.append(read_last(reader, level))
    reader.take("}")
    return tuple(statements)


def read_simple(reader):
    at = reader.place()
    word = reader.advance()
    read = SIMPLE[word]
    parts = read(reader)
    reader.take(";")
    return (word,) + parts + (at,)


def read_last(reader, level):
    at = reader.place()
    if reader.skip("if"):
        parts = read_if(reader, level)
    elif reader.skip("hear"):
        parts = read_hear(reader, level)
    else:
        parts = read_leaving(reader)
        reader.take(";")
    return parts + (at,)


def read_leaving(reader):
    """Reads a last statement without blocks, up to its semicolon."""
    if reader.skip("become"):
        actor = reader.take_name()
        return ("become", actor, read_arguments(reader))
    if reader.value() == "done" or reader.value() == "fail":
        return (reader.advance(),)
    raise Malformed(reader.place())


def read_if(reader, level):
    """Reads an if behind its first word."""
    expression = read_expression(reader, 1)
    first = read_block(reader, level + 1)
    reader.take("else")
    second = read_block(reader, level + 1)
    return ("if", expression, first, second)


def read_hear(reader, level):
    """Reads a hear behind its first word."""
    name = reader.take_name()
    reader.take("{")
    branches = []
    while not reader.skip("fall"):
        branches.append(read_branch(reader, level))
    reader.take(":")
    block = read_block(reader, level + 1)
    reader.take("}")
    return ("hear", name, tuple(branches), block)


def read_branch(reader, level):
    label = reader.take_name()
    name = None
    if reader.skip("("):
        name = reader.take_name()
        reader.take(")")
    reader.take(":")
    return (label, name, read_block(reader, level + 1))


def read_expression(reader, level):
    check_level(level)
    left = read_both(reader, level)
    while reader.skip("or"):
        left = ("or", left, read_both(reader, level))
    return left


def read_both(reader, level):
    left = read_plain(reader, level)
    while reader.skip("and"):
        left = ("and", left, read_plain(reader, level))
    return left


def read_plain(reader, level):
    if reader.skip("not"):
        check_level(level + 1)
        return ("not", read_plain(reader, level + 1))
    left = read_sum(reader, level)
    if reader.value() in COMPARISONS:
        operator = COMPARISONS[reader.advance()]
        return (operator, left, read_sum(reader, level))
    return left


def read_sum(reader, level):
    left = read_product(reader, level)
    while reader.value() in SUMS:
        operator = SUMS[reader.advance()]
        left = (operator, left, read_product(reader, level))
    return left


def read_product(reader, level):
    left = read_unit(reader, level)
    while reader.skip("*"):
        left = ("mul", left, read_unit(reader, level))
    return left


def read_unit(reader, level):
    if reader.has("number"):
        return ("int", reader.advance())
    if reader.value() == "true" or reader.value() == "false":
        return ("bool", reader.advance() == "true")
    if reader.skip("("):
        inner = read_expression(reader, level + 1)
        reader.take(")")
        return inner
    return ("var", reader.take_name())
