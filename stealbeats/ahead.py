"""Rows ahead, exact to the beat: of straight programs, where nothing hangs on words."""

from stealbeats.checks import (
    FEWEST_WORDS, MOST_BEATS, check_asks, check_program, check_straight, check_window, check_works,
)
from stealbeats.watch import Watch


def check_ahead(program, works, asks):
    check_program(program)
    check_works(works)
    check_asks(asks, works)
    check_straight(program)


def watched(program, works, asks):
    # Any words do: where no row is gone to, no beat hangs on what a word or a cell is.
    watch = Watch(program, works, [0] * FEWEST_WORDS, asks)
    watch.run(MOST_BEATS)
    return watch


def row_times(program, works, asks):
    watch = watched(program, works, asks)
    return [watch.dones.get(row) for row in range(len(program))]


def times(program, works, asks):
    """For each row the beat in which it is done, None if that isn't within 300 beats."""
    check_ahead(program, works, asks)
    return row_times(program, works, asks)


def overs(program, works, asks):
    """For each work the beat in which it is over first, None if that isn't within 300 beats."""
    check_ahead(program, works, asks)
    told = [None] * len(works)
    for going in watched(program, works, asks).goings:
        whole = len(going.puts) == works[going.number][2]
        if whole and told[going.number] is None:
            told[going.number] = going.puts[-1][0]
    return told


def least_and_most(beats):
    done = [when for when in beats if when is not None]
    most = max(done) if len(done) == len(beats) else None
    return min(done, default=None), most


def spread(program, works, work, low, high):
    """For each row (the least, the most) of its times, for each beat of the window at which the work is asked."""
    check_program(program)
    check_works(works)
    check_window(work, low, high, works)
    check_straight(program)
    told = [row_times(program, works, [(when, work)]) for when in range(low, high + 1)]
    return [least_and_most([beats[row] for beats in told]) for row in range(len(program))]
