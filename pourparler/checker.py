"""Whether blocks, definitions and programs keep to their talks."""

from pourparler.contexts import Context
from pourparler.errors import Mistaken, Refused
from pourparler.expressions import kind_of
from pourparler.subtalk import Subkinds
from pourparler.talks import check_table, dual_kind, head, row_of, rows_of


def check_block(program, context, block):
    """Checks a block in a context, which may change."""
    Checker(program).check(context, block)


def check_definition(program, definition):
    """Checks the parameters and the block of a definition with the definitions and talks of a program."""
    check_parameters(program, definition)
    check_block(program, Context(definition[1]), definition[2])


def check_program(program):
    """Checks a program."""
    check_talks(program)
    check_main(program)
    for definition in program.actors():
        check_parameters(program, definition)
    checker = Checker(program)
    for definition in program.actors():
        checker.check(Context(definition[1]), definition[2])


def mistake(program):
    """Returns None for a program without a mistake, otherwise the index of the first one and why it is one."""
    try:
        check_program(program)
    except Mistaken as error:
        return (error.at, error.why)
    return None


def require(holds, at, why):
    """Raises a mistake if a condition does not hold."""
    if not holds:
        raise Mistaken(at, why)


def check_talks(program):
    try:
        check_table(program.table())
    except Refused:
        raise Mistaken(0, "talks") from None


def check_main(program):
    require(program.has_actor("Main"), 0, "main")
    _, parameters, _, at = program.actor("Main")
    require(len(parameters) == 0, at, "main")


def check_parameters(program, definition):
    _, parameters, _, at = definition
    names = {}
    for name, kind in parameters:
        require(name not in names, at, "twice")
        require(is_known(program, kind), at, "unknown")
        names[name] = True


def is_known(program, kind):
    """Tells whether a kind is int, bool, or a talk that a program has."""
    return isinstance(kind, str) or program.has_talk(kind[1])


def kinds_of(definition):
    """Returns the list of the kinds of the parameters of a definition."""
    return [kind for _, kind in definition[1]]


def check_end(context, name, at):
    require(context.binds(name), at, "unknown")
    require(context.is_end(name), at, "kind")


def check_no_ends(context, at):
    require(len(context.ends()) == 0, at, "left")


def check_payload(shown, kind, at):
    """Checks that a statement shows a payload if and only if the label has a kind."""
    require((shown is None) == (kind is None), at, "payload")


def check_let(context, name, e, at):
    kind = kind_of(e, context, at)
    require(not context.binds(name), at, "twice")
    context.bind(name, kind)


def check_branches(context, talk, branches, at):
    """Checks the labels and the names of the branches of a hear."""
    labels = {}
    for label, name, _ in branches:
        row = row_of(talk, label)
        require(row is not None, at, "label")
        require(label not in labels, at, "twice")
        check_payload(name, row[1], at)
        require(name is None or not context.binds(name), at, "twice")
        labels[label] = True
    for row in rows_of(talk):
        require(row[0] in labels, at, "missing")


class Checker:
    """Checks blocks with the definitions and the talks of a program."""

    def __init__(self, program):
        self._source = program
        self._talks = program.table()
        self._subkinds = Subkinds(self._talks)

    def check(self, context, block):
        """Checks a block in a context, which may change."""
        for statement in block:
            self._check_statement(context, statement)

    def _check_statement(self, context, statement):
        # A fail has no conditions, so it has no case here.
        match statement:
            case ("let", name, e, at):
                check_let(context, name, e, at)
            case ("say", name, label, e, at):
                self._check_say(context, name, label, e, at)
            case ("close", name, at):
                talk = self._talk_of(context, name, at)
                require(talk[0] == "end", at, "talk")
                context.release(name)
            case ("drop", name, at):
                check_end(context, name, at)
                context.release(name)
            case ("open", name, actor, arguments, at):
                self._check_opening(context, name, actor, arguments, at)
            case ("become", actor, arguments, at):
                self._check_arguments(context, arguments, self._kinds_of(actor, at), at)
                check_no_ends(context, at)
            case ("done", at):
                check_no_ends(context, at)
            case ("if", e, first, second, at):
                self._check_if(context, e, first, second, at)
            case ("hear", name, branches, fallen, at):
                self._check_hear(context, name, branches, fallen, at)

    def _talk_of(self, context, name, at):
        """Checks an end and returns the head of its talk."""
        check_end(context, name, at)
        return head(self._talks, context.kind(name))

    def _kinds_of(self, actor, at):
        """Returns the list of the kinds of the parameters of a definition, which must be there."""
        require(self._source.has_actor(actor), at, "unknown")
        return kinds_of(self._source.actor(actor))

    def _check_arguments(self, context, arguments, kinds, at):
        require(len(arguments) == len(kinds), at, "count")
        for e, kind in zip(arguments, kinds):
            self._check_argument(context, e, kind, at)

    def _check_argument(self, context, e, kind, at):
        if isinstance(kind, str):
            require(kind_of(e, context, at) == kind, at, "kind")
            return
        require(e[0] == "var", at, "kind")
        name = e[1]
        check_end(context, name, at)
        require(self._subkinds.holds(context.kind(name), kind), at, "fit")
        context.release(name)

    def _check_say(self, context, name, label, e, at):
        talk = self._talk_of(context, name, at)
        require(talk[0] == "say", at, "talk")
        row = row_of(talk, label)
        require(row is not None, at, "label")
        check_payload(e, row[1], at)
        if e is not None:
            # An end that is said on cannot be handed on in the same message.
            require(e != ("var", name), at, "kind")
            self._check_argument(context, e, row[1], at)
        context.change(name, row[2])

    def _check_opening(self, context, name, actor, arguments, at):
        kinds = self._kinds_of(actor, at)
        require(len(kinds) > 0 and isinstance(kinds[0], tuple), at, "open")
        self._check_arguments(context, arguments, kinds[1:], at)
        require(not context.binds(name), at, "twice")
        context.bind(name, dual_kind(kinds[0]))

    def _check_if(self, context, e, first, second, at):
        require(kind_of(e, context, at) == "bool", at, "kind")
        self.check(context.twin(), first)
        self.check(context.twin(), second)

    def _check_hear(self, context, name, branches, fallen, at):
        talk = self._talk_of(context, name, at)
        require(talk[0] == "hear", at, "talk")
        check_branches(context, talk, branches, at)
        for label, word, block in branches:
            _, payload, after = row_of(talk, label)
            inner = context.twin()
            inner.change(name, after)
            if word is not None:
                inner.bind(word, payload)
            self.check(inner, block)
        inner = context.twin()
        inner.release(name)
        self.check(inner, fallen)
