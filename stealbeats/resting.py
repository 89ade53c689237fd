"""The fewest beats of rest that make a pair whole, whenever in a window a work is asked."""

from stealbeats.checks import MOST_BEATS, check_mark, check_pair, check_straight, check_windowed
from stealbeats.torn import is_whole
from stealbeats.watch import Watch

MOST_RESTS = 40


def is_always_whole(program, works, memory, window, row):
    work, low, high = window
    for when in range(low, high + 1):
        watch = Watch(program, works, memory, [(when, work)])
        # A straight program gets the pair once: what comes behind does not matter.
        watch.run_till(row, MOST_BEATS)
        if not is_whole(watch, works, len(memory), row):
            return False
    return True


def fewest(ahead, behind, works, memory, window):
    """The fewest beats of rest between the rows ahead and those behind, the first of which is the pair."""
    for many in range(MOST_RESTS + 1):
        rested = ahead + (("rest", many),) if many else ahead
        if is_always_whole(rested + behind, works, memory, window, len(rested)):
            return many
    return None


def rests(program, works, memory, work, low, high, row):
    """The fewest beats of rest ahead of the pair, so that it is never torn, or None."""
    check_windowed(program, works, memory, work, low, high)
    check_pair(row, program)
    check_straight(program)
    return fewest(program[:row], program[row:], works, memory, (work, low, high))


def guards(program, works, memory, work, low, high, row, mark):
    """The fewest beats of rest between the pair and a mark that is set ahead of it and cleared behind it, or None."""
    check_windowed(program, works, memory, work, low, high)
    check_pair(row, program)
    check_mark(mark)
    check_straight(program)
    ahead = program[:row] + (("mark", mark),)
    behind = (program[row], ("clear", mark)) + program[row + 1:]
    return fewest(ahead, behind, works, memory, (work, low, high))
