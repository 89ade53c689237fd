"""Logs, judged."""

from stealbeats.checks import check_log
from stealbeats.hall import Hall


def judged(program, works, memory, asks, log):
    """The number of the first beat of the log that can't be behind those ahead, or None."""
    hall = Hall(program, works, memory, asks)
    check_log(log)
    for at, beat in enumerate(log):
        if hall.beat() != beat:
            return at
    return None
