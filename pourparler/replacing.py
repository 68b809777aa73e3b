"""Whether a definition may take the place of the one of its name in a program."""

from pourparler.checker import check_definition, is_known, kinds_of
from pourparler.errors import Mistaken
from pourparler.subtalk import is_subkind


def refusal(program, definition):
    """Returns None if a definition may take the place, otherwise the first reason why it may not."""
    name = definition[0]
    if name == "Main":
        return "main"
    if not program.has_actor(name):
        return "unknown"
    own = kinds_of(program.actor(name))
    kinds = kinds_of(definition)
    if len(own) != len(kinds):
        return "count"
    if not all([is_known(program, kind) for kind in kinds]):
        return "talk"
    table = program.table()
    if not all([is_subkind(table, one, two) for one, two in zip(own, kinds)]):
        return "fit"
    return first_mistake(program, definition)


def may_replace(program, definition):
    """Tells whether a definition may take the place of the one of its name."""
    return refusal(program, definition) is None


def first_mistake(program, definition):
    """Returns None for a definition without a mistake, otherwise the index of the first one and why it is one."""
    try:
        check_definition(program, definition)
    except Mistaken as error:
        return (error.at, error.why)
    return None
