"""The turns of a run; they are the same for the plain meaning and for the machine."""


def play(player, schedule, falls, replacements, limit):
    """Makes the turns of a run with a player, which changes it; returns the list of all events.

    A player has the methods running, ready, turn, fall and replace_definition.
    """
    events = []
    for turn in range(limit):
        if not player.running():
            break
        for definition in those_of(turn, replacements):
            player.replace_definition(definition)
        for actor in those_of(turn, falls):
            events.extend(player.fall(actor))
        ready = player.ready()
        if ready:
            number = schedule[turn] if turn < len(schedule) else 0
            events.extend(player.turn(ready[number % len(ready)]))
    return events


def those_of(turn, pairs):
    """Returns the list of what stands beside a turn in pairs, in order."""
    return [what for at, what in pairs if at == turn]
