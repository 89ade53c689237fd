"""What may be handed in, and what is refused."""

from stealbeats.errors import (
    BadAsks, BadBeats, BadClaim, BadLog, BadMemory, BadProgram, BadRow, BadWindow, BadWorks, Crooked,
)

# The parts behind the word of each row; a "first" cell is one that has a next one.
FORMS = {
    "set": ("cell", "word"),
    "add": ("cell", "cell"),
    "less": ("cell", "cell"),
    "get": ("cell", "address"),
    "put": ("address", "cell"),
    "getx": ("cell", "cell"),
    "putx": ("cell", "cell"),
    "pair": ("first", "address"),
    "lay": ("address", "first"),
    "go": ("row",),
    "if": ("cell", "row"),
    "ask": ("work",),
    "done": ("cell", "work"),
    "mark": ("mark",),
    "clear": ("mark",),
    "rest": ("rest",),
    "end": (),
}

BOUNDS = {
    "cell": (0, 3),
    "first": (0, 2),
    "word": (0, 999),
    "address": (0, 31),
    "work": (0, 5),
    "mark": (0, 2),
    "rest": (1, 9),
    "many": (1, 16),
    "block": (1, 4),
    "ask": (0, 200),
}

GREEDS = ("all", "turn", "idle")
DEEDS = ("get", "put")

# What a machine does in a beat in which it gets or puts no word.
WORDLESS = ("waits", "goes", "ends")

FEWEST_WORDS = 4
MOST_WORDS = 32
MOST_ROWS = 40
MOST_WORKS = 6
MOST_ASKS = 8
MOST_BEATS = 300
WIDEST_WINDOW = 40


def is_number(value, low, high):
    # True and False are integers for Python, but no numbers here.
    return isinstance(value, int) and not isinstance(value, bool) and low <= value <= high


def is_part(value, kind):
    low, high = BOUNDS[kind]
    return is_number(value, low, high)


def is_one_of(value, many):
    return is_number(value, 0, many - 1)


def is_row(row, row_count):
    # A key of FORMS is looked for only by a text: a tuple may hold what is no key.
    if not isinstance(row, tuple) or not row or not isinstance(row[0], str) or row[0] not in FORMS:
        return False
    form = FORMS[row[0]]
    if len(row) != len(form) + 1:
        return False
    for value, kind in zip(row[1:], form):
        fits = is_one_of(value, row_count) if kind == "row" else is_part(value, kind)
        if not fits:
            return False
    return True


def is_work(work, work_count):
    if not isinstance(work, tuple) or len(work) != 7:
        return False
    begin, goal, many, block, greed, mark, follow = work
    moves = is_part(begin, "address") and is_part(goal, "address") and is_part(many, "many")
    held = is_part(block, "block") and (mark is None or is_part(mark, "mark"))
    return moves and held and greed in GREEDS and (follow is None or is_one_of(follow, work_count))


def is_ask(ask, work_count, earliest):
    if not isinstance(ask, tuple) or len(ask) != 2:
        return False
    when, work = ask
    return is_part(when, "ask") and when >= earliest and is_one_of(work, work_count)


def is_window(work, low, high, works):
    if not is_one_of(work, len(works)) or not is_part(low, "ask") or not is_part(high, "ask"):
        return False
    return low <= high <= low + WIDEST_WINDOW


def is_pair(row, program):
    return is_one_of(row, len(program)) and program[row][0] == "pair"


def is_claim(claim, program, works):
    if not isinstance(claim, tuple):
        return False
    match claim:
        case ("over", work, row):
            return is_one_of(work, len(works)) and is_one_of(row, len(program))
        case ("whole", row):
            return is_pair(row, program)
        case ("kept", low, high, one, other):
            stretch = is_part(low, "address") and is_part(high, "address") and low <= high
            return stretch and is_one_of(one, len(program)) and is_one_of(other, len(program))
    return False


def is_deed(told):
    """Whether it is a deed, an address and a word, as a Hall tells them."""
    if not isinstance(told, tuple) or len(told) != 3:
        return False
    deed, address, word = told
    return deed in DEEDS and is_part(address, "address") and is_part(word, "word")


def is_moved(told):
    """Whether it is what a Hall may tell of a device, whichever words and works there are."""
    if told is None:
        return True
    return isinstance(told, tuple) and len(told) == 4 and is_part(told[0], "work") and is_deed(told[1:])


def is_told(beat):
    if not isinstance(beat, tuple) or len(beat) != 2:
        return False
    moved, did = beat
    return is_moved(moved) and (did in WORDLESS or is_deed(did))


def check_program(program):
    if not isinstance(program, tuple) or not program:
        raise BadProgram(0)
    for at, row in enumerate(program):
        if at == MOST_ROWS or not is_row(row, len(program)):
            raise BadProgram(at)


def check_works(works):
    if not isinstance(works, list):
        raise BadWorks(0)
    for at, work in enumerate(works):
        if at == MOST_WORKS or not is_work(work, len(works)):
            raise BadWorks(at)


def check_memory(memory):
    if not isinstance(memory, list) or not FEWEST_WORDS <= len(memory) <= MOST_WORDS:
        raise BadMemory("words are a list of 4 to 32 numbers")
    for word in memory:
        if not is_part(word, "word"):
            raise BadMemory("a word is a number from 0 to 999")


def check_asks(asks, works):
    if not isinstance(asks, list):
        raise BadAsks(0)
    earliest = 0
    for at, ask in enumerate(asks):
        if at == MOST_ASKS or not is_ask(ask, len(works), earliest):
            raise BadAsks(at)
        earliest = ask[0]


def check_hall(program, works, memory, asks):
    check_program(program)
    check_works(works)
    check_memory(memory)
    check_asks(asks, works)


def check_beats(beats):
    if not is_number(beats, 0, MOST_BEATS):
        raise BadBeats("beats are a number from 0 to 300")


def check_window(work, low, high, works):
    if not is_window(work, low, high, works):
        raise BadWindow("a window is a work that there is, and at most 41 beats from 0 to 200")


def check_windowed(program, works, memory, work, low, high):
    check_program(program)
    check_works(works)
    check_memory(memory)
    check_window(work, low, high, works)


def check_claim(claim, program, works):
    if not is_claim(claim, program, works):
        raise BadClaim("a claim is over, whole or kept, of works and rows that there are")


def check_pair(row, program):
    if not is_pair(row, program):
        raise BadRow("this row is none of the program's pairs")


def check_mark(mark):
    if not is_part(mark, "mark"):
        raise BadRow("a mark is a number from 0 to 2")


def check_address(address, memory):
    if not is_one_of(address, len(memory)):
        raise BadRow("there is no word of this address")


def check_log(log):
    if not isinstance(log, list):
        raise BadLog(0)
    for at, beat in enumerate(log):
        if at == MOST_BEATS or not is_told(beat):
            raise BadLog(at)


def check_straight(program):
    for row in program:
        if row[0] in ("go", "if"):
            raise Crooked("a straight program has no go and no if")
