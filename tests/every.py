"""Every function that is handed something, with the names of what it is handed, in turn; good and bad values of each."""

from stealbeats.ahead import overs, spread, times
from stealbeats.errors import (BadAsks, BadBeats, BadClaim, BadLog, BadMemory, BadProgram, BadRow, BadWindow, BadWorks,
                               BeatError)
from stealbeats.hall import Hall
from stealbeats.judging import judged
from stealbeats.leans import leans
from stealbeats.notes import written
from stealbeats.resting import guards, rests
from stealbeats.runs import run
from stealbeats.sights import sights, worths
from stealbeats.torn import first_torn, torns

PAIR = ("pair", 0, 0)
WORK = (0, 0, 2, 1, "idle", None, None)
NO_NUMBERS = (True, False, None, "1", "", (), (1,))
BEYOND = (-1, 10 ** 30, -10 ** 30)

# Those that refuse programs that aren't straight.
STRAIGHT = {
    times: "program works asks",
    overs: "program works asks",
    spread: "program works work low high",
    rests: "program works memory work low high row",
    guards: "program works memory work low high row mark",
}
CROOKED = {
    Hall: "program works memory asks",
    run: "program works memory asks beats",
    torns: "program works memory asks beats",
    first_torn: "program works memory work low high",
    leans: "program works memory work low high claim",
    sights: "program works memory asks beats",
    worths: "program works memory asks beats address",
    judged: "program works memory asks log",
    written: "program works memory asks",
}
ALL = {**STRAIGHT, **CROOKED}
GOOD = {"program": (("rest", 1), PAIR, ("get", 0, 1)), "works": [WORK, WORK], "memory": [0, 1, 2, 3],
        "asks": [(3, 1)], "beats": 9, "work": 1, "low": 2, "high": 4, "claim": ("whole", 1), "row": 1, "mark": 2,
        "address": 3, "log": [(None, "goes"), (None, ("get", 0, 0))]}
BAD = {"program": (("rest", 0),), "works": [None], "memory": [1, 2, 3], "asks": [(0, 0), (201, 0)], "beats": 301,
       "work": 2, "low": -1, "high": 1, "claim": ("whole", 0), "row": 0, "mark": 3, "address": 4, "log": [None]}
KINDS = {"program": BadProgram, "works": BadWorks, "memory": BadMemory, "asks": BadAsks, "beats": BadBeats,
         "work": BadWindow, "low": BadWindow, "high": BadWindow, "claim": BadClaim, "row": BadRow, "mark": BadRow,
         "address": BadRow, "log": BadLog}


def having(name):
    return [function for function in ALL if name in ALL[function].split()]


def called(function, **others):
    return function(*[others.get(name, GOOD[name]) for name in ALL[function].split()])


def refusal(function, **others):
    """What it refuses; None, if nothing."""
    try:
        called(function, **others)
    except BeatError as error:
        return error
    return None
