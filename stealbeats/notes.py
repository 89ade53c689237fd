"""Programs, works, words and asks as texts."""

from stealbeats.checks import FORMS, GREEDS, check_hall
from stealbeats.errors import BadText

FIGURES = "0123456789"
MOST_FIGURES = 3
NOTHING = "-"

# Which kinds of rows may stand behind a row of each kind; "" is ahead of the first row.
FOLLOWERS = {
    "": ("words",),
    "words": ("work", "row"),
    "work": ("work", "row"),
    "row": ("row", "at"),
    "at": ("at",),
}

WORK_PLACES = ("number", "number", "number", "number", "greed", "choice", "choice")


def part_text(part):
    return NOTHING if part is None else str(part)


def row_text(row):
    return " ".join([part_text(part) for part in row])


def written(program, works, memory, asks):
    """The text of them, one row a line."""
    check_hall(program, works, memory, asks)
    rows = [("words", *memory)]
    rows.extend([("work", *work) for work in works])
    rows.extend(program)
    rows.extend([("at", *ask) for ask in asks])
    return "\n".join([row_text(row) for row in rows])


def kind_of(word):
    """The kind of a row that begins with this word, None if there is none."""
    if word in ("words", "work", "at"):
        return word
    return "row" if word in FORMS else None


def places_of(kind, parts):
    """What stands behind the first word of a row of this kind."""
    if kind == "work":
        return WORK_PLACES
    if kind == "words":
        return ("number",) * (len(parts) - 1)
    many = 2 if kind == "at" else len(FORMS[parts[0]])
    return ("number",) * many


def is_number_text(text):
    if not 1 <= len(text) <= MOST_FIGURES or not all([sign in FIGURES for sign in text]):
        return False
    return text == "0" or text[0] != "0"


def fits(text, place):
    if place == "greed":
        return text in GREEDS
    return is_number_text(text) or (place == "choice" and text == NOTHING)


def is_text_row(kind, parts):
    places = places_of(kind, parts)
    if len(parts) != len(places) + 1:
        return False
    return all([fits(text, place) for text, place in zip(parts[1:], places)])


def kinds_of(rows):
    """The kind of each row; BadText is refused with the first row that can't stand there."""
    kinds = []
    ahead = ""
    for at, parts in enumerate(rows):
        kind = kind_of(parts[0])
        if kind not in FOLLOWERS[ahead] or not is_text_row(kind, parts):
            raise BadText(at)
        kinds.append(kind)
        ahead = kind
    if "row" not in kinds:
        raise BadText(len(rows))
    return kinds


def part_read(text):
    if text == NOTHING:
        return None
    return int(text) if is_number_text(text) else text


def read(text):
    """(program, works, words, asks) of a text."""
    rows = [row.split(" ") for row in text.split("\n")]
    found = {"words": [], "work": [], "row": [], "at": []}
    for kind, parts in zip(kinds_of(rows), rows):
        found[kind].append(tuple([part_read(part) for part in parts]))
    program = tuple(found["row"])
    works = [row[1:] for row in found["work"]]
    memory = list(found["words"][0][1:])
    asks = [row[1:] for row in found["at"]]
    check_hall(program, works, memory, asks)
    return program, works, memory, asks
