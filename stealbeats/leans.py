"""What may be leaned on, whenever in a window a work is asked."""

from stealbeats.checks import MOST_BEATS, check_claim, check_windowed
from stealbeats.torn import is_whole
from stealbeats.watch import Watch


def is_over(watch, work, row):
    return row not in watch.dones or work not in watch.on_behind[row]


def is_kept(watch, low, high, one, other):
    if one not in watch.dones:
        return True
    behind, until = watch.dones[one], watch.dones.get(other, MOST_BEATS)
    for going in watch.goings:
        for when, address in going.puts:
            if behind < when <= until and low <= address <= high:
                return False
    return True


def holds(claim, watch, works, size):
    if claim[0] == "over":
        return is_over(watch, claim[1], claim[2])
    if claim[0] == "whole":
        return is_whole(watch, works, size, claim[1])
    return is_kept(watch, claim[1], claim[2], claim[3], claim[4])


def leans(program, works, memory, work, low, high, claim):
    """The least beat of the window at which the work is asked so that the claim doesn't hold, or None."""
    check_windowed(program, works, memory, work, low, high)
    check_claim(claim, program, works)
    for when in range(low, high + 1):
        watch = Watch(program, works, memory, [(when, work)])
        watch.run(MOST_BEATS)
        if not holds(claim, watch, works, len(memory)):
            return when
    return None
