"""The texts of talks, kinds, expressions, definitions and programs."""

from pourparler.lexer import RESERVED

OPERATORS = {
    "add": " + ", "sub": " - ", "mul": " * ", "lt": " < ", "le": " <= ", "eq": " == ", "and": " and ", "or": " or ",
}
STEP = "  "


def show_talk(talk):
    """Returns the text of a talk, on one line."""
    return flat_text(talk, talk_parts)


def show_kind(kind):
    """Returns the text of a kind."""
    if isinstance(kind, str):
        return kind
    return "~" + kind[1] if kind[0] == "dual" else kind[1]


def show_expression(e):
    """Returns the text of an expression, with parentheses around each operation."""
    return flat_text(e, expression_parts)


def flat_text(tree, parts_of):
    """Joins the strings in the parts of a tree, and those in the parts of its parts."""
    pieces = []
    # A stack and no recursion: an expression may be as deep as its text is long.
    waiting = [tree]
    while waiting:
        part = waiting.pop()
        if isinstance(part, str):
            pieces.append(part)
        else:
            parts = parts_of(part)
            waiting.extend(parts[::-1])
    return "".join(pieces)


def talk_parts(talk):
    """Returns the list of the strings and talks that make up a talk."""
    if talk[0] == "end":
        return ["end"]
    if talk[0] == "name" or talk[0] == "dual":
        return [show_kind(talk)]
    parts = [talk[0] + " { "]
    for label, payload, after in talk[1]:
        shown = "" if payload is None else "(" + show_kind(payload) + ")"
        parts.extend([label + shown + ": ", after, ", "])
    # The last option is followed by the brace instead of a comma.
    parts[-1] = " }"
    return parts


def expression_parts(e):
    """Returns the list of the strings and expressions that make up an expression."""
    if e[0] == "int":
        return [str(e[1])]
    if e[0] == "bool":
        return ["true" if e[1] else "false"]
    if e[0] == "var":
        return [e[1]]
    if e[0] == "not":
        return ["(not ", e[1], ")"]
    return ["(", e[1], OPERATORS[e[0]], e[2], ")"]


def show_definition(definition):
    """Returns the text of an actor, in lines."""
    name, parameters, block, _ = definition
    shown = ", ".join([word + ": " + show_kind(kind) for word, kind in parameters])
    lines = braced_lines("actor " + name + "(" + shown + ")", block, "")
    return "".join([line + "\n" for line in lines])


def show_program(program):
    """Returns the text of a program: the talks, then the actors."""
    talks = ["talk " + name + " = " + show_talk(talk) + ";\n" for name, talk in program.talks()]
    actors = [show_definition(definition) for definition in program.actors()]
    return "".join(talks + actors)


def braced_lines(opening, block, indent):
    """Returns the lines of a block in braces, behind the opening words."""
    return [indent + opening + " {"] + block_lines(block, indent + STEP) + [indent + "}"]


def block_lines(block, indent):
    lines = []
    for statement in block:
        lines.extend(statement_lines(statement, indent))
    return lines


def statement_lines(statement, indent):
    if statement[0] == "if":
        return if_lines(statement, indent)
    if statement[0] == "hear":
        return hear_lines(statement, indent)
    return [indent + show_line(statement) + ";"]


def if_lines(statement, indent):
    _, e, first, second, _ = statement
    lines = braced_lines("if " + show_expression(e), first, indent)
    # The word else stands on the line of the brace that ends the first block.
    lines.pop()
    return lines + braced_lines("} else", second, indent)


def hear_lines(statement, indent):
    _, name, branches, fallen, _ = statement
    inner = indent + STEP
    lines = [indent + "hear " + name + " {"]
    for label, word, block in branches:
        shown = "" if word is None else "(" + word + ")"
        lines.extend(braced_lines(label + shown + ":", block, inner))
    lines.extend(braced_lines("fall:", fallen, inner))
    return lines + [indent + "}"]


def show_line(statement):
    """Returns the text of a statement without blocks, up to its semicolon."""
    word = statement[0]
    if word == "let":
        return "let " + statement[1] + " = " + show_expression(statement[2])
    if word == "say":
        shown = "" if statement[3] is None else show_arguments([statement[3]])
        return "say " + statement[1] + "." + statement[2] + shown
    if word == "open":
        return "open " + statement[1] + " = " + statement[2] + show_arguments(statement[3])
    if word == "become":
        return "become " + statement[1] + show_arguments(statement[2])
    if word == "close" or word == "drop":
        return word + " " + statement[1]
    return word


def show_arguments(arguments):
    return "(" + ", ".join([show_expression(e) for e in arguments]) + ")"


def bare(tree):
    """Returns a statement, a block or a definition with 0 in the place of every index."""
    if not tree or isinstance(tree[0], tuple):
        return bare_block(tree)
    # The first words of statements are reserved, so no definition has such a name.
    if tree[0] in RESERVED:
        return bare_statement(tree)
    name, parameters, block, _ = tree
    return (name, parameters, bare_block(block), 0)


def bare_block(block):
    return tuple([bare_statement(statement) for statement in block])


def bare_statement(statement):
    if statement[0] == "if":
        _, e, first, second, _ = statement
        return ("if", e, bare_block(first), bare_block(second), 0)
    if statement[0] == "hear":
        _, name, branches, fallen, _ = statement
        bared = tuple([(label, word, bare_block(block)) for label, word, block in branches])
        return ("hear", name, bared, bare_block(fallen), 0)
    return statement[:-1] + (0,)
