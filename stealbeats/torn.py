"""Pairs that are torn by goings of works."""

from stealbeats.checks import MOST_BEATS, check_beats, check_memory, check_program, check_window, check_works
from stealbeats.watch import Watch


def lays_at(work, address, size):
    goal, many = work[1], work[2]
    return any([(goal + nth) % size == address for nth in range(many)])


def laid_ahead(going, got):
    """How often the going laid at the address of a get, ahead of its beat."""
    when, address = got
    return len([at for at, place in going.puts if place == address and at < when])


def is_torn(pair, going, work, size):
    row, first, second = pair
    if not lays_at(work, first[1], size) or not lays_at(work, second[1], size):
        return False
    return laid_ahead(going, first) != laid_ahead(going, second)


def tears(watch, works, size):
    """(row, beat of the second get, work) of each pair seen and each going that tears it."""
    told = []
    for pair in watch.pairs:
        for going in watch.goings:
            if is_torn(pair, going, works[going.number], size):
                told.append((pair[0], pair[2][0], going.number))
    return told


def torns(program, works, memory, asks, beats):
    """(row, beat of the second get, work) of all pairs that are torn within so many beats."""
    watch = Watch(program, works, memory, asks)
    check_beats(beats)
    watch.run(beats)
    return tears(watch, works, len(memory))


def first_torn(program, works, memory, work, low, high):
    """The least beat of the window at which the work is asked so that a pair is torn, or None."""
    check_program(program)
    check_works(works)
    check_memory(memory)
    check_window(work, low, high, works)
    for when in range(low, high + 1):
        if torns(program, works, memory, [(when, work)], MOST_BEATS):
            return when
    return None
