"""Pairs that are torn by goings of works."""

from stealbeats.checks import MOST_BEATS, check_beats, check_hall, check_windowed
from stealbeats.watch import Watch


def lays_at(work, address, size):
    goal, many = work[1], work[2]
    return (address - goal) % size < many


def laid_ahead(going, got):
    """How often the going laid at the address of a get, ahead of its beat."""
    when, address = got
    return len([at for at, place in going.puts if place == address and at < when])


def is_torn(pair, going, work, size):
    row, first, second = pair
    if not lays_at(work, first[1], size) or not lays_at(work, second[1], size):
        return False
    return laid_ahead(going, first) != laid_ahead(going, second)


def tears(watch, pairs, works, size):
    """(row, beat of the second get, work) of each of these pairs and each going that tears it."""
    told = []
    for pair in pairs:
        for going in watch.goings:
            if is_torn(pair, going, works[going.number], size):
                told.append((pair[0], pair[2][0], going.number))
    return told


def is_whole(watch, works, size, row):
    pairs = [pair for pair in watch.pairs if pair[0] == row]
    return not tears(watch, pairs, works, size)


def tears_within(program, works, memory, asks, beats):
    watch = Watch(program, works, memory, asks)
    watch.run(beats)
    return tears(watch, watch.pairs, works, len(memory))


def torns(program, works, memory, asks, beats):
    """(row, beat of the second get, work) of all pairs that are torn within so many beats."""
    check_hall(program, works, memory, asks)
    check_beats(beats)
    return tears_within(program, works, memory, asks, beats)


def first_torn(program, works, memory, work, low, high):
    """The least beat of the window at which the work is asked so that a pair is torn, or None."""
    check_windowed(program, works, memory, work, low, high)
    for when in range(low, high + 1):
        if tears_within(program, works, memory, [(when, work)], MOST_BEATS):
            return when
    return None
