"""The codes of definitions, and their texts."""

SILENT = ("push", "get", "apply")


class Code:
    """The code of a definition: its name, how many parameters and slots it has, and its instructions."""

    def __init__(self, name, size, slots, instructions):
        self.name = name
        self.size = size
        self.slots = slots
        self.instructions = list(instructions)


def is_effect(instruction):
    """Tells whether an instruction is an effect; otherwise it is silent."""
    return instruction[0] not in SILENT


def code_text(code):
    """Returns the text of a code, one line for each instruction."""
    lines = [str(place) + ": " + instruction_text(one) + "\n" for place, one in enumerate(code.instructions)]
    return "".join(lines)


def instruction_text(instruction):
    if instruction[0] == "hear":
        _, slot, rows, fallen = instruction
        return "hear " + str(slot) + " " + ",".join([row_text(row) for row in rows]) + " " + str(fallen)
    return " ".join([str(part) for part in instruction])


def row_text(row):
    label, slot, place = row
    shown = label if slot is None else label + ":" + str(slot)
    return shown + "->" + str(place)
