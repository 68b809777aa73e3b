"""What a judge, who knows the talks alone, says of traces."""

from pourparler.errors import Misused
from pourparler.history import Ledger


def judge(table, trace):
    """Returns None for a trace that is accepted, otherwise the index of the first event that is not allowed.

    If a drop is owed at the end of the trace, the index is the length of the trace.
    """
    ledger = Ledger(table)
    for at, event in enumerate(trace):
        try:
            ledger.enter(event)
        except Misused:
            return at
    return len(trace) if ledger.owed() else None


def history(trace, conversation):
    """Returns the list of the events of a trace that name a conversation as theirs, in order."""
    return [event for event in trace if conversation_of(event) == conversation]


def words(trace, conversation, side):
    """Returns the list of the labels that were said on a side, in order."""
    return [event[3] for event in history(trace, conversation) if event[0] == "say" and event[2] == side]


def conversation_of(event):
    """Returns the number of the conversation that an event names as its own, or None."""
    match event:
        case ("open", _, _, number, _):
            return number
        case ("say" | "hear", number, _, _, _):
            return number
        case ("told" | "close" | "drop", number, _):
            return number
    return None
