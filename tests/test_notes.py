"""Point 17: texts, written, read and refused."""

import random
import unittest

from stealbeats.errors import BadAsks, BadMemory, BadProgram, BadText, BadWorks, BeatError
from stealbeats.notes import read, written
from stealbeats.runs import run
from tests.model import random_hall

# Each row at the edges of its numbers.
PROGRAM = (
    ("set", 0, 0), ("set", 3, 999), ("add", 0, 3), ("add", 3, 0), ("less", 0, 3), ("less", 3, 0), ("get", 0, 31),
    ("get", 3, 0), ("put", 0, 3), ("put", 31, 0), ("getx", 0, 3), ("getx", 3, 0), ("putx", 0, 3), ("putx", 3, 0),
    ("pair", 0, 31), ("pair", 2, 0), ("lay", 0, 2), ("lay", 31, 0), ("go", 0), ("go", 32), ("if", 0, 32), ("if", 3, 0),
    ("ask", 0), ("ask", 5), ("done", 0, 5), ("done", 3, 0), ("mark", 0), ("mark", 2), ("clear", 0), ("clear", 2),
    ("rest", 1), ("rest", 9), ("end",),
)
WORKS = [
    (0, 31, 1, 4, "all", None, None), (31, 0, 16, 1, "turn", 0, 0), (10, 20, 9, 2, "idle", 2, None),
    (0, 0, 1, 1, "all", None, 5), (9, 10, 10, 3, "turn", 1, 4), (30, 29, 11, 4, "idle", 2, 5),
]
MEMORY = [0, 999, 9, 10, 99, 100, 7]
ASKS = [(0, 0), (0, 5), (9, 1), (10, 2), (99, 3), (100, 4), (200, 5), (200, 0)]
TEXT = """words 0 999 9 10 99 100 7
work 0 31 1 4 all - -
work 31 0 16 1 turn 0 0
work 10 20 9 2 idle 2 -
work 0 0 1 1 all - 5
work 9 10 10 3 turn 1 4
work 30 29 11 4 idle 2 5
set 0 0
set 3 999
add 0 3
add 3 0
less 0 3
less 3 0
get 0 31
get 3 0
put 0 3
put 31 0
getx 0 3
getx 3 0
putx 0 3
putx 3 0
pair 0 31
pair 2 0
lay 0 2
lay 31 0
go 0
go 32
if 0 32
if 3 0
ask 0
ask 5
done 0 5
done 3 0
mark 0
mark 2
clear 0
clear 2
rest 1
rest 9
end
at 0 0
at 0 5
at 9 1
at 10 2
at 99 3
at 100 4
at 200 5
at 200 0"""


def kinds(value):
    """The same value, with the kind of each part."""
    if isinstance(value, (tuple, list)):
        return value.__class__, [kinds(part) for part in value]
    return value.__class__, value


class Notes(unittest.TestCase):
    def same(self, handed, text=None):
        told = written(*handed)
        self.assertIs(told.__class__, str)
        if text is not None:
            self.assertEqual(told, text)
        self.assertEqual(kinds(read(told)), kinds(handed))
        self.assertEqual(written(*read(told)), told)

    def refused(self, text, row):
        with self.assertRaises(BeatError, msg=repr(text)) as caught:
            read(text)
        self.assertIs(caught.exception.__class__, BadText, repr(text))
        self.assertEqual(caught.exception.row, row, repr(text))
        self.assertIs(caught.exception.row.__class__, int)

    def refused_behind(self, kind, text, at=None):
        """Refused, though all rows can stand there."""
        with self.assertRaises(BeatError, msg=repr(text)) as caught:
            read(text)
        self.assertIs(caught.exception.__class__, kind, repr(text))
        if at is not None:
            self.assertEqual(caught.exception.at, at)


class Same(Notes):
    def test_all(self):
        self.same((PROGRAM, WORKS, MEMORY, ASKS), TEXT)

    def test_each_part_alone(self):
        self.same(((("end",),), [], [1, 2, 3, 4], []), "words 1 2 3 4\nend")
        self.same((PROGRAM, [], [1, 2, 3, 4], []))
        self.same(((("end",),), WORKS, [1, 2, 3, 4], []))
        self.same(((("end",),), WORKS, [1, 2, 3, 4], ASKS))
        self.same(((("rest", 3),), WORKS[:1], [0] * 4, [(7, 0)]),
                  "words 0 0 0 0\nwork 0 31 1 4 all - -\nrest 3\nat 7 0")

    def test_as_many_as_may_be(self):
        program, works = (("set", 3, 999),) * 40, [(31, 31, 16, 4, "turn", 2, 5)] * 6
        text = written(program, works, [999] * 32, [(200, 5)] * 8)
        self.assertEqual(len(text.split("\n")), 1 + 6 + 40 + 8)
        self.assertLessEqual(len(text), 2500)
        self.same((program, works, [999] * 32, [(200, 5)] * 8))

    def test_as_few_as_may_be(self):
        self.same(((("go", 0),), [], [0] * 4, []), "words 0 0 0 0\ngo 0")

    def test_halls(self):
        for seed in range(300):
            handed = random_hall(seed)
            self.same(handed)
        self.assertEqual(run(*read(written(*handed)), 300), run(*handed, 300))

    def test_what_is_read_may_be_changed(self):
        first = read(TEXT)
        for part in first[1:]:
            part.clear()
        self.assertEqual(read(TEXT), (PROGRAM, WORKS, MEMORY, ASKS))

    def test_nothing_handed_in_is_changed(self):
        works, memory, asks = list(WORKS), list(MEMORY), list(ASKS)
        written(PROGRAM, works, memory, asks)
        self.assertEqual((works, memory, asks), (WORKS, MEMORY, ASKS))


class Refused(Notes):
    rows = ["words 1 2 3 4", "work 0 1 2 3 all - 1", "work 3 2 1 1 idle 2 -", "get 0 5", "rest 2", "end", "at 3 0",
            "at 4 1"]

    def with_row(self, at, row):
        return "\n".join(self.rows[:at] + [row] + self.rows[at + 1:])

    def with_new(self, at, row):
        return "\n".join(self.rows[:at] + [row] + self.rows[at:])

    def test_these_rows_can_stand(self):
        self.assertEqual(read("\n".join(self.rows)), (
            (("get", 0, 5), ("rest", 2), ("end",)), [(0, 1, 2, 3, "all", None, 1), (3, 2, 1, 1, "idle", 2, None)],
            [1, 2, 3, 4], [(3, 0), (4, 1)]))

    def test_an_empty_text(self):
        self.refused("", 0)
        self.refused("\n", 0)
        self.refused(" ", 0)

    def test_empty_rows(self):
        for at in range(9):
            self.refused(self.with_new(at, ""), at)
            self.refused(self.with_new(at, " "), at)
        for at in range(8):
            self.refused(self.with_row(at, ""), at)
        self.refused("\n".join(self.rows) + "\n\n", 8)
        self.refused("words 1 2 3 4\n", 1)

    def test_blanks(self):
        for at, row in enumerate(self.rows):
            for wrong in (" " + row, row + " ", "  " + row, row + "  "):
                self.refused(self.with_row(at, wrong), at)
            parts = row.split(" ")
            for place in range(1, len(parts)):
                wrong = " ".join(parts[:place]) + "  " + " ".join(parts[place:])
                self.refused(self.with_row(at, wrong), at)
                wrong = " ".join(parts[:place]) + "".join(parts[place:])
                if at != 0:
                    self.refused(self.with_row(at, wrong), at)

    def test_numbers(self):
        for at, row in enumerate(self.rows):
            parts = row.split(" ")
            for place, part in enumerate(parts):
                if not part.isdigit():
                    continue
                for wrong in ("00", "01", "05", "000", "001", "010", "0000", "1000", "9999", "12345", "+1", "-1", "-0",
                              "1.", "1.0", "1_0", "0x1", "a", "1a", "a1", "None", "True", "", "one", "1,", "'1'", "(1)",
                              "--", "words", "all", "- "):
                    self.refused(self.with_row(at, " ".join(parts[:place] + [wrong] + parts[place + 1:])), at)

    def test_nothing_in_the_place_of_a_number(self):
        for at, row in enumerate(self.rows):
            parts = row.split(" ")
            for place, part in enumerate(parts):
                if part.isdigit() and not (parts[0] == "work" and place > 5):
                    self.refused(self.with_row(at, " ".join(parts[:place] + ["-"] + parts[place + 1:])), at)

    def test_greeds(self):
        for wrong in ("All", "none", "-", "0", "", "al", "alls", "words"):
            self.refused(self.with_row(1, f"work 0 1 2 3 {wrong} - 1"), 1)
        for greed in ("all", "turn", "idle"):
            self.assertEqual(read(self.with_row(1, f"work 0 1 2 3 {greed} - 1"))[1][0][4], greed)

    def test_mark_and_next(self):
        for wrong in ("--", "none", "None", "-1", "00", "all", "", "_", "+", "~"):
            self.refused(self.with_row(1, f"work 0 1 2 3 all {wrong} 1"), 1)
            self.refused(self.with_row(1, f"work 0 1 2 3 all 1 {wrong}"), 1)

    def test_words_that_there_are_none_of(self):
        for at in range(8):
            for wrong in ("stop", "Set 0 0", "word 1 2 3 4", "works", "program", "asks 1 0", "0", "1 2 3", "-", "all",
                          "getx0 1", "#", "words:", "row 1", "ats 3 0", "END", "ends", "waits"):
                self.refused(self.with_row(at, wrong), at)
                self.refused(self.with_new(at, wrong), at)

    def test_too_few_and_too_many_parts(self):
        rows = [f"{row[0]} " + " ".join(str(part) for part in row[1:]) if row[1:] else row[0] for row in PROGRAM]
        for row in rows + ["work 0 1 2 3 all - 1", "at 3 0"]:
            at = {"work": 1, "at": 6}.get(row.split(" ")[0], 3)
            self.refused(self.with_row(at, row + " 0"), at)
            self.refused(self.with_row(at, row + " -"), at)
            self.refused(self.with_row(at, row + " " + row), at)
            parts = row.split(" ")
            for many in range(1, len(parts)):
                self.refused(self.with_row(at, " ".join(parts[:many])), at)

    def test_rows_of_another_order(self):
        words, work, row, ask = "words 1 2 3 4", "work 0 1 2 3 all - -", "end", "at 3 0"
        for rows, at in (
                ((work, words, row), 0), ((row, words), 0), ((ask, words, row), 0), ((row, row), 0), ((work, row), 0),
                ((words, row, work), 2), ((words, work, row, work, row), 3), ((words, row, words), 2),
                ((words, work, words, row), 2), ((words, words, row), 1), ((words, row, ask, words), 3),
                ((words, work, row, ask, row), 4), ((words, work, row, ask, work), 4), ((words, row, ask, row, ask), 3),
                ((words, ask), 1), ((words, ask, row), 1), ((words, work, ask), 2), ((words, work, ask, row), 2),
                ((words, work, ask, ask), 2)):
            self.refused("\n".join(rows), at)

    def test_a_second_row_of_words(self):
        for at in range(1, 9):
            self.refused(self.with_new(at, "words 1 2 3 4"), at)
            self.refused(self.with_new(at, "words"), at)

    def test_no_row_of_words(self):
        self.refused("\n".join(self.rows[1:]), 0)
        self.refused("end", 0)
        self.refused("at 0 0", 0)
        self.refused("work 0 1 2 3 all - -", 0)

    def test_no_row_of_the_program(self):
        for many in range(9):
            self.refused("\n".join(["words 1 2 3 4"] + ["work 0 1 2 3 all - -"] * many), many + 1)
        # Refused ahead of words and works that can't be.
        self.refused("words", 1)
        self.refused("words 1", 1)
        self.refused("words 1\nwork 99 1 2 3 all - -", 2)

    def test_the_first_of_several(self):
        self.refused("\n".join([self.rows[0], "work 0 1 2 3 all -", "stop", "at"]), 1)
        self.refused("words 1 2 3 1000\n\n", 0)

    def test_ahead_of_all_other_refusals(self):
        # Words, works and rows ahead of it that can't be are refused behind it.
        self.refused("words 1\nwork 99 0 0 0 all 9 9\nset 9 9\nat 999 9\nat 1", 4)
        self.refused("words 1\nset 9 9\nset 01 0", 2)

    def test_other_signs(self):
        for sign in "!\"#$&'()*+,./:;<=>?@[]^_`{|}~":
            self.refused(self.with_new(3, sign), 3)
            self.refused(self.with_row(3, f"get 0{sign} 5"), 3)
            self.refused(self.with_row(3, f"get 0{sign}5"), 3)

    def test_cut_off(self):
        # Whatever is left of a text is read, or refused in its last row, or behind it.
        for many in range(len(TEXT)):
            text = TEXT[:many]
            last = text.count("\n")
            try:
                read(text)
            except BadText as error:
                self.assertIn(error.row, (last, last + 1))
            except (BadProgram, BadWorks, BadMemory, BadAsks):
                pass


class RefusedBehind(Notes):
    def test_programs(self):
        start = "words 1 2 3 4\nend\n"
        for row in ("set 4 0", "set 999 0", "add 0 4", "less 4 0", "get 0 32", "get 4 0", "put 32 0", "put 0 4", "getx 4 0",
                    "putx 0 4", "pair 3 0", "pair 0 32", "lay 0 3", "lay 32 0", "go 3", "if 4 0", "if 0 3", "ask 6",
                    "done 4 0", "done 0 6", "mark 3", "clear 3", "rest 0", "rest 10", "rest 999"):
            self.refused_behind(BadProgram, start + row + "\nend", 1)
        for row in ("set 3 999", "get 3 31", "pair 2 31", "lay 31 2", "go 2", "if 3 2", "ask 5", "done 3 5", "mark 2",
                    "rest 1", "rest 9"):
            read(start + row + "\nend")

    def test_forty_rows_and_more(self):
        self.assertEqual(len(read("words 1 2 3 4" + "\nend" * 40)[0]), 40)
        self.refused_behind(BadProgram, "words 1 2 3 4" + "\nend" * 41, 40)
        self.refused_behind(BadProgram, "words 1 2 3 4" + "\ngo 40" * 41, 40)
        self.refused_behind(BadProgram, "words 1 2 3 4" + "\ngo 40" * 40, 0)

    def test_works(self):
        good = "0 1 2 3 all 0 0"
        for place, value in ((0, 32), (1, 32), (2, 0), (2, 17), (3, 0), (3, 5), (5, 3), (6, 2), (6, 999)):
            parts = good.split(" ")
            parts[place] = str(value)
            self.refused_behind(BadWorks, f"words 1 2 3 4\nwork {good}\nwork {' '.join(parts)}\nend", 1)
        self.refused_behind(BadWorks, "words 1 2 3 4" + f"\nwork {good}" * 7 + "\nend", 6)
        self.assertEqual(len(read("words 1 2 3 4" + f"\nwork {good}" * 6 + "\nend")[1]), 6)

    def test_words(self):
        for many in (0, 1, 3, 33, 40):
            self.refused_behind(BadMemory, "words" + " 7" * many + "\nend")
        for many in (4, 32):
            self.assertEqual(read("words" + " 7" * many + "\nend")[2], [7] * many)

    def test_asks(self):
        start = "words 1 2 3 4\nwork 0 1 2 3 all - -\nend\nat 5 0\n"
        for row in ("at 201 0", "at 999 0", "at 4 0", "at 5 1", "at 5 6", "at 0 0"):
            self.refused_behind(BadAsks, start + row, 1)
        self.refused_behind(BadAsks, start + "at 5 0\n" * 7 + "at 5 0", 8)
        self.assertEqual(len(read(start + "at 5 0\n" * 6 + "at 200 0")[3]), 8)
        self.refused_behind(BadAsks, "words 1 2 3 4\nend\nat 0 0", 0)

    def test_in_their_turn(self):
        good = ["end", "work 0 1 2 3 all - -", "words 1 2 3 4", "at 0 0"]
        bad = ["rest 0", "work 0 1 0 3 all - -", "words 1 2 3", "at 201 0"]
        refusals = [BadProgram, BadWorks, BadMemory, BadAsks]
        for choice in range(1, 16):
            wrong = [place for place in range(4) if choice >> place & 1]
            row, work, words, ask = [bad[k] if k in wrong else good[k] for k in range(4)]
            self.refused_behind(refusals[wrong[0]], "\n".join([words, work, row, ask]))

    def test_written_refuses_in_turn(self):
        good = [PROGRAM, WORKS, MEMORY, ASKS]
        bad = [(), [None], [1, 2, 3], [(201, 0)]]
        refusals = [BadProgram, BadWorks, BadMemory, BadAsks]
        for choice in range(1, 16):
            wrong = [place for place in range(4) if choice >> place & 1]
            with self.assertRaises(refusals[wrong[0]]):
                written(*[bad[k] if k in wrong else good[k] for k in range(4)])


class Changed(Notes):
    """A sign changed, left out or put in: it is read to what is written so, or refused."""

    def test_texts_with_a_sign_changed(self):
        chance = random.Random(17)
        signs = "0123456789 -\nabcdefghijklmnopqrstuvwxyz"
        seen = set()
        for turn in range(4000):
            at = chance.randrange(len(TEXT))
            text = TEXT[:at] + chance.choice(("", chance.choice(signs))) + TEXT[at + chance.randint(0, 1):]
            try:
                told = read(text)
            except BeatError as error:
                seen.add(error.__class__)
                if isinstance(error, BadText):
                    self.assertIn(error.row - TEXT[:at].count("\n"), (-1, 0, 1))
            else:
                seen.add(None)
                self.assertEqual(written(*told), text)
        self.assertEqual(seen, {None, BadText, BadProgram, BadWorks, BadAsks})
