"""Many beats at once."""

from stealbeats.checks import check_beats
from stealbeats.hall import Hall


def run(program, works, memory, asks, beats):
    """Tells (a list of so many beats, what is shown behind them)."""
    hall = Hall(program, works, memory, asks)
    check_beats(beats)
    told = [hall.beat() for done in range(beats)]
    return told, hall.shown()
