"""What actors do with their ends, and the events that tell of it."""


def opening(actor, child, conversation, definition):
    """Returns the event of an actor that opens a child with a definition and a conversation."""
    _, kind = definition[1][0]
    return ("open", actor, child, conversation, kind)


def say_message(conversations, end, label, payload):
    """Sends a message from an end, which changes the conversations; returns the list of the events."""
    _, conversation, side = end
    fallen = conversations.send(conversation, side, label, payload)
    return [("say", conversation, side, label, payload)] + drops_of(fallen)


def hear_message(conversations, end):
    """Hears at an end that can hear, which changes the conversations; returns the message and the event.

    If the end is told of the fall of its partner, it is closed, and None stands in the place of the message.
    """
    _, conversation, side = end
    if conversations.is_told(conversation, side):
        conversations.close(conversation, side)
        return (None, ("told", conversation, side))
    label, payload = conversations.hear(conversation, side)
    return ((label, payload), ("hear", conversation, side, label, payload))


def close_end(conversations, end):
    """Closes an end, which changes the conversations; returns the list of the events."""
    _, conversation, side = end
    fallen = conversations.close(conversation, side)
    return [("close", conversation, side)] + drops_of(fallen)


def drop_ends(conversations, ends):
    """Lets a list of ends fall, which changes the conversations; returns the list of the events."""
    return drops_of(conversations.drop(ends))


def drops_of(ends):
    """Returns the list of the events of ends that fell."""
    return [("drop", conversation, side) for _, conversation, side in ends]
