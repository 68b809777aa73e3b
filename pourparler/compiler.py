"""The codes of definitions without mistakes."""

from pourparler.code import Code
from pourparler.expressions import operands_first


def compile_definition(definition):
    """Returns the code of a definition."""
    name, parameters, block, _ = definition
    slots = {}
    for word, _ in parameters:
        slots[word] = len(slots)
    compiler = Compiler(len(slots))
    compiler.add_block(block, slots)
    return compiler.code(name)


def compile_program(program):
    """Returns a dict from the names of the definitions of a program to their codes, in the order of the program."""
    codes = {}
    for definition in program.actors():
        codes[definition[0]] = compile_definition(definition)
    return codes


class Compiler:
    """Collects the instructions of a definition with some parameters, and counts its slots."""

    def __init__(self, size):
        self._size = size
        self._many = size
        self._instructions = []

    def code(self, name):
        """Returns the code of all that was added, for a definition of a name."""
        return Code(name, self._size, self._many, self._instructions)

    def add_block(self, block, bound):
        """Adds the code of a block; bound is a dict from the names that are bound before it to their slots."""
        # A copy, because other blocks do not know the names that this one binds.
        slots = dict(bound)
        for statement in block:
            self._add_statement(statement, slots)

    def _add_statement(self, statement, slots):
        """Adds the code of a statement; a let and an open bind their name in the slots."""
        match statement:
            case ("let", name, e, _):
                self._add_expressions([e], slots)
                slots[name] = self._new_slot()
                self._add(("set", slots[name]))
            case ("say", name, label, e, _):
                said = [] if e is None else [e]
                self._add_expressions(said, slots)
                self._add(("say", slots[name], label, len(said)))
            case ("close", name, _):
                self._add(("close", slots[name]))
            case ("drop", name, _):
                self._add(("drop", slots[name]))
            case ("open", name, actor, arguments, _):
                self._add_expressions(arguments, slots)
                slots[name] = self._new_slot()
                self._add(("open", slots[name], actor, len(arguments)))
            case ("become", actor, arguments, _):
                self._add_expressions(arguments, slots)
                self._add(("become", actor, len(arguments)))
            case ("if", e, first, second, _):
                self._add_if(e, first, second, slots)
            case ("hear", name, branches, fallen, _):
                self._add_hear(slots[name], branches, fallen, slots)
            case ("done", _):
                self._add(("done",))
            case ("fail", _):
                self._add(("fail",))

    def _add(self, instruction):
        self._instructions.append(instruction)

    def _new_slot(self):
        self._many += 1
        return self._many - 1

    def _place(self):
        """Returns the place of the next instruction."""
        return len(self._instructions)

    def _hold_place(self):
        """Adds an instruction that is known later only, because it tells of places behind it; returns its place."""
        self._add(None)
        return self._place() - 1

    def _add_expressions(self, expressions, slots):
        for e in expressions:
            for part in operands_first(e):
                self._add(part_instruction(part, slots))

    def _add_if(self, e, first, second, slots):
        self._add_expressions([e], slots)
        held = self._hold_place()
        self.add_block(first, slots)
        self._instructions[held] = ("test", self._place())
        self.add_block(second, slots)

    def _add_hear(self, slot, branches, fallen, slots):
        held = self._hold_place()
        # All rows get their slots before the first block is compiled.
        heard = [None if name is None else self._new_slot() for _, name, _ in branches]
        rows = []
        for (label, name, block), own in zip(branches, heard):
            rows.append((label, own, self._place()))
            inner = slots if name is None else {**slots, name: own}
            self.add_block(block, inner)
        self._instructions[held] = ("hear", slot, tuple(rows), self._place())
        self.add_block(fallen, slots)


def part_instruction(part, slots):
    """Returns the instruction of a part of an expression, behind those of its operands."""
    if part[0] == "var":
        return ("get", slots[part[1]])
    if part[0] == "int" or part[0] == "bool":
        return ("push", part[1])
    return ("apply", part[0])
