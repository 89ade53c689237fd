"""Who put what is seen."""

from stealbeats.checks import check_address
from stealbeats.runs import run


def deeds(told):
    """(beat, who, deed, address, word) of each beat told that is for a word; who is None for the machine."""
    rows = []
    for when, (moved, did) in enumerate(told):
        if moved is not None:
            rows.append((when, *moved))
        elif isinstance(did, tuple):
            rows.append((when, None, *did))
    return rows


def sights(program, works, memory, asks, beats):
    """(who, beat, address, (beat, who) of the last put there or None) of each get."""
    told, shown = run(program, works, memory, asks, beats)
    seen, puts = [], {}
    for when, who, deed, address, word in deeds(told):
        if deed == "put":
            puts[address] = (when, who)
        else:
            seen.append((who, when, address, puts.get(address)))
    return seen


def worths(program, works, memory, asks, beats, address):
    """(beat, who, word) of each put at the address."""
    told, shown = run(program, works, memory, asks, beats)
    check_address(address, memory)
    return [(when, who, word) for when, who, deed, place, word in deeds(told) if deed == "put" and place == address]
