"""Random programs without mistakes, made along their talks, and small changes that may make mistakes."""

from pourparler.program import Program
from pourparler.subtalk import is_subtalk
from pourparler.talks import dual, head

WORDS = ("u", "v", "w", "x", "y", "z")
NAMES = ("Ask", "Buy", "Cry", "Dye")
KINDS = tuple((way, name) for way in ("name", "dual") for name in NAMES)


class Maker:
    """Makes definitions with the talks and the parameters that a program has."""

    def __init__(self, source):
        self.source = source
        self.table = self.random_table()
        self.known = {}
        # For each kind there is an actor that begins with it, so that a lonely end can mostly be handed on.
        self.parameters = {way.title() + name: self.random_parameters((way, name)) for way, name in KINDS}
        self.parameters["Main"] = ()
        self.count = 0

    def random_table(self):
        """Returns talks that lead to one another; the last two differ by few labels."""
        table = {name: self.random_talk() for name in NAMES}
        word, rows = table[NAMES[2]]
        more = (*rows, ("d", self.random_payload(), self.random_after()))
        table[NAMES[3]] = (word, self.source.choice((rows, more, more)))
        return table | {"End": ("end",)}

    def random_talk(self):
        labels = self.source.sample("abc", self.source.choice((1, 2, 2)))
        rows = tuple((label, self.random_payload(), self.random_after()) for label in labels)
        return (self.source.choice(("say", "hear")), rows)

    def random_payload(self):
        return self.source.choice((None, "int", "bool", self.random_kind(), self.random_kind()))

    def random_after(self):
        return self.source.choice((("name", "End"), self.random_kind(), self.random_kind(), self.random_kind()))

    def random_kind(self):
        return self.source.choice(KINDS)

    def random_parameters(self, first):
        kinds = [first]
        if self.source.random() < 0.6:
            kinds.append(self.source.choice(("int", "bool", self.random_kind(), self.random_kind())))
        return tuple(zip(self.source.sample(WORDS, len(kinds)), kinds))

    def is_subtalk(self, one, two):
        if (one, two) not in self.known:
            self.known[one, two] = is_subtalk(self.table, one, two)
        return self.known[one, two]

    def program(self):
        program = Program()
        for name, talk in self.table.items():
            program.add_talk(name, talk)
        for name in self.parameters:
            program.add_actor(self.definition(name, self.parameters[name]))
        return program

    def definition(self, name, parameters):
        return (name, parameters, self.block(dict(parameters), 2), self.at())

    def replacement(self):
        """Returns a definition whose parameters mostly may take what those of the program take."""
        name = self.random_actor()
        parameters = []
        for word, kind in self.parameters[name]:
            if isinstance(kind, tuple):
                wider = [other for other in KINDS if self.is_subtalk(kind, other)]
                kind = self.source.choice(wider if self.source.random() < 0.9 else [self.random_kind()])
            parameters.append((word, kind))
        return self.definition(name, tuple(parameters))

    def random_actor(self):
        return self.source.choice([name for name in self.parameters if name != "Main"])

    def at(self):
        self.count += 1
        return self.count

    def head_of(self, context, name):
        return head(self.table, context[name])

    def ends(self, context):
        return [name for name, kind in context.items() if isinstance(kind, tuple)]

    def ends_with(self, context, word):
        return [name for name in self.ends(context) if self.head_of(context, name)[0] == word]

    def free_name(self, context):
        free = [word for word in (*WORDS, "o", "p") if word not in context]
        return self.source.choice(free or ["n" + str(self.at())])

    def expression(self, context, kind, levels=2):
        names = [("var", name) for name, found in context.items() if found == kind]
        leaf = ("int", self.source.randrange(4)) if kind == "int" else ("bool", self.source.random() < 0.5)
        if levels == 0 or self.source.random() < 0.5:
            return self.source.choice([leaf, *names])
        if kind == "int":
            taken = ("add", "int"), ("sub", "int"), ("mul", "int")
        else:
            taken = (("lt", "int"), ("le", "int"), ("eq", "int"), ("eq", "bool"), ("and", "bool"), ("or", "bool"),
                     ("not", "bool"))
        operator, operand = self.source.choice(taken)
        many = 1 if operator == "not" else 2
        return (operator, *(self.expression(context, operand, levels - 1) for _ in range(many)))

    def arguments(self, context, kinds, but=None):
        """Returns arguments and the context behind them, or None if an end is missing; but names an end to keep."""
        context, found = dict(context), []
        for kind in kinds:
            if isinstance(kind, str):
                found.append(self.expression(context, kind))
                continue
            fitting = [name for name in self.ends(context)
                       if name != but and self.is_subtalk(context[name], kind)]
            if not fitting:
                return None
            name = self.source.choice(fitting)
            del context[name]
            found.append(("var", name))
        return tuple(found), context

    def say(self, context):
        sayers = self.ends_with(context, "say")
        if not sayers:
            return None
        name = self.source.choice(sayers)
        label, payload, after = self.source.choice(self.head_of(context, name)[1])
        made = self.arguments(context, () if payload is None else (payload,), name)
        if made is None:
            return None
        found, left = made
        left[name] = after
        return ("say", name, label, found[0] if found else None, self.at()), left

    def open(self, context):
        actor = self.random_actor()
        kinds = [kind for _, kind in self.parameters[actor]]
        made = self.arguments(context, kinds[1:])
        if made is None or len(self.ends(context)) > 2:
            return None
        found, left = made
        name = self.free_name(left)
        left[name] = dual(kinds[0])
        return ("open", name, actor, found, self.at()), left

    def let(self, context):
        kind = self.source.choice(("int", "bool"))
        name = self.free_name(context)
        return ("let", name, self.expression(context, kind), self.at()), {**context, name: kind}

    def close(self, context):
        return self.part("close", context, self.ends_with(context, "end"))

    def drop(self, context):
        return self.part("drop", context, self.ends(context))

    def part(self, word, context, names):
        if not names:
            return None
        name = self.source.choice(names)
        return (word, name, self.at()), {one: kind for one, kind in context.items() if one != name}

    def block(self, context, levels):
        statements = []
        for _ in range(self.source.randrange(2, 6)):
            ways = [self.say] * 10 + [self.open] * 3 + [self.close] * 4 + [self.let]
            ways.extend([self.drop] * (self.source.random() < 0.2))
            made = self.source.choice(ways)(context)
            if made is not None:
                statement, context = made
                statements.append(statement)
        return (*statements, *self.last(context, levels))

    def last(self, context, levels):
        """Returns the last statement, with what must stand before it."""
        if levels > 0 and self.ends_with(context, "hear") and self.source.random() < 0.9:
            return (self.hear(context, levels - 1),)
        if levels > 0 and self.source.random() < 0.2:
            blocks = self.block(context, levels - 1), self.block(context, levels - 1)
            return (("if", self.expression(context, "bool"), *blocks, self.at()),)
        found = [statement for statement in [self.become(context, actor) for actor in self.parameters] if statement]
        if found and self.source.random() < 0.95:
            return (self.source.choice(found),)
        if self.source.random() < 0.1:
            return (("fail", self.at()),)
        return (*(self.leave(context, name) for name in self.ends(context)), ("done", self.at()))

    def become(self, context, actor):
        """Returns a become that takes all ends, or None."""
        made = self.arguments(context, [kind for _, kind in self.parameters[actor]])
        if made is None or self.ends(made[1]):
            return None
        return ("become", actor, made[0], self.at())

    def leave(self, context, name):
        return ("close" if self.head_of(context, name)[0] == "end" else "drop", name, self.at())

    def hear(self, context, levels):
        name = self.source.choice(self.ends_with(context, "hear"))
        branches = []
        for label, payload, after in self.head_of(context, name)[1]:
            inner = {**context, name: after}
            word = None
            if payload is not None:
                word = self.free_name(context)
                inner[word] = payload
            branches.append((label, word, self.block(inner, levels)))
        self.source.shuffle(branches)
        fallen = self.block({one: kind for one, kind in context.items() if one != name}, levels)
        return ("hear", name, tuple(branches), fallen, self.at())


def changed_block(source, block):
    """Returns a block with one small change somewhere in it."""
    at = source.randrange(len(block))
    before, statement, behind = block[:at], block[at], block[at + 1:]
    if statement[0] == "if" and source.random() < 0.8:
        blocks = [statement[2], statement[3]]
        number = source.randrange(2)
        blocks[number] = changed_block(source, blocks[number])
        return (*before, (*statement[:2], *blocks, statement[4]))
    if statement[0] == "hear" and source.random() < 0.8:
        return (*before, changed_hear(source, statement))
    if not behind:
        return (*before, (source.choice(("done", "fail")), 0))
    way = source.randrange(4)
    if way == 0:
        return before + behind
    if way == 1:
        return (*before, statement, statement, *behind)
    if way == 2 and len(behind) > 1:
        return (*before, behind[0], statement, *behind[1:])
    return (*before, changed_words(source, statement), *behind)


def changed_hear(source, statement):
    word, name, branches, fallen, at = statement
    branches = list(branches)
    way = source.randrange(6)
    if way == 0:
        return (word, name, tuple(branches), changed_block(source, fallen), at)
    number = source.randrange(len(branches))
    label, bound, block = branches[number]
    if way == 1 and len(branches) > 1:
        del branches[number]
    elif way == 2:
        branches[number] = (source.choice("ab"), bound, block)
    elif way == 3:
        branches[number] = (label, source.choice((None, *WORDS)), block)
    else:
        branches[number] = (label, bound, changed_block(source, block))
    return (word, name, tuple(branches), fallen, at)


def changed_words(source, statement):
    """Returns a simple statement with another name, label or expression."""
    if statement[0] == "say":
        _, name, label, e, at = statement
        return source.choice((
            ("say", source.choice(WORDS), label, e, at), ("say", name, source.choice("ab"), e, at),
            ("say", name, label, source.choice((None, ("int", 1), ("var", source.choice(WORDS)))), at)))
    if statement[0] == "open":
        _, name, actor, arguments, at = statement
        return source.choice((
            ("open", source.choice(WORDS), actor, arguments, at),
            ("open", name, source.choice(("Main", "NameAsk", "DualBuy")), arguments, at),
            ("open", name, actor, tuple(("var", source.choice(WORDS)) for _ in arguments), at)))
    return (statement[0], source.choice(WORDS), *statement[2:])
