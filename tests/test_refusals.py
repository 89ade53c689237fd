"""Points 1 to 6 and 9: what is refused, by all that are handed such, where, and in which order; edges are let by."""

import unittest

from stealbeats.errors import (BadAsks, BadBeats, BadClaim, BadLog, BadMemory, BadProgram, BadRow, BadWindow, BadWorks,
                               Crooked)
from stealbeats.hall import Hall
from stealbeats.judging import judged
from stealbeats.notes import read, written
from stealbeats.runs import run
from stealbeats.sights import sights, worths
from stealbeats.torn import torns
from tests.every import ALL, NO_NUMBERS, having, refusal

END = (("end",),)
WORDS = [0, 1, 2, 3]
WORK = (0, 2, 1, 1, "all", None, None)

# A good row for each word, and for each number in it (place, least, most); 1 row is handed in.
ROWS = (
    (("set", 0, 0), ((1, 0, 3), (2, 0, 999))),
    (("add", 0, 0), ((1, 0, 3), (2, 0, 3))),
    (("less", 0, 0), ((1, 0, 3), (2, 0, 3))),
    (("get", 0, 0), ((1, 0, 3), (2, 0, 31))),
    (("put", 0, 0), ((1, 0, 31), (2, 0, 3))),
    (("getx", 0, 0), ((1, 0, 3), (2, 0, 3))),
    (("putx", 0, 0), ((1, 0, 3), (2, 0, 3))),
    (("pair", 0, 0), ((1, 0, 2), (2, 0, 31))),
    (("lay", 0, 0), ((1, 0, 31), (2, 0, 2))),
    (("go", 0), ((1, 0, 4),)),
    (("if", 0, 0), ((1, 0, 3), (2, 0, 4))),
    (("ask", 0), ((1, 0, 5),)),
    (("done", 0, 0), ((1, 0, 3), (2, 0, 5))),
    (("mark", 0), ((1, 0, 2),)),
    (("clear", 0), ((1, 0, 2),)),
    (("rest", 1), ((1, 1, 9),)),
    (("end",), ()),
)
WORK_NUMBERS = ((0, 0, 31), (1, 0, 31), (2, 1, 16), (3, 1, 4), (5, 0, 2), (6, 0, 2))


def with_part(row, place, value):
    return row[:place] + (value,) + row[place + 1:]


# Refused behind what is refused of programs, works, words and asks: so these were let by.
LATER = (BadWindow, BadClaim, BadRow, BadLog, Crooked)


class Refusals(unittest.TestCase):
    def others(self, program, works, memory, asks):
        works = list(works) if isinstance(works, tuple) else works
        asks = list(asks) if isinstance(asks, tuple) else asks
        return {"program": program, "works": works, "memory": memory, "asks": asks}

    def refused(self, kind, at, program=END, works=(), memory=WORDS, asks=()):
        name = {BadProgram: "program", BadWorks: "works", BadMemory: "memory", BadAsks: "asks"}[kind]
        for function in having(name):
            error = refusal(function, **self.others(program, works, memory, asks))
            self.assertIs(error.__class__, kind, function)
            if at is not None:
                self.assertEqual(error.at, at)
                self.assertNotIsInstance(error.at, bool)

    def let_by(self, program=END, works=(), memory=WORDS, asks=()):
        others = self.others(program, works, memory, asks)
        for function in ALL:
            error = refusal(function, **others)
            plain = function in (Hall, run, torns, sights, worths, judged, written)
            self.assertTrue(error is None or not plain and isinstance(error, LATER), (function, error))
        self.assertEqual(read(written(program, list(works), memory, list(asks))),
                         (program, list(works), memory, list(asks)))


class Programs(Refusals):
    def in_program(self, row):
        """The row as the third of five."""
        return (("rest", 1), ("set", 1, 5), row, ("rest", 2), ("end",))

    def test_all_words_are_here(self):
        self.assertEqual(len({row[0] for row, parts in ROWS}), 17)

    def test_edges_of_each_number(self):
        for row, parts in ROWS:
            self.let_by(self.in_program(row))
            for place, least, most in parts:
                for value in (least, most):
                    self.let_by(self.in_program(with_part(row, place, value)))
                for value in (least - 1, most + 1, -1, 10 ** 30) + NO_NUMBERS:
                    self.refused(BadProgram, 2, self.in_program(with_part(row, place, value)))

    def test_too_few_or_too_many_parts(self):
        for row, parts in ROWS:
            self.refused(BadProgram, 2, self.in_program(row + (0,)))
            self.refused(BadProgram, 2, self.in_program(row + (None,)))
            self.refused(BadProgram, 2, self.in_program(row[:-1]))

    def test_words_that_there_are_none_of(self):
        for word in ("", "End", "end ", "sets", "stop", "all", None, True, 0, 1, (), ("end",), ("set", 0, 0)):
            for parts in ((), (0,), (0, 0)):
                self.refused(BadProgram, 2, self.in_program((word,) + parts))

    def test_rows_that_are_no_tuples(self):
        for row in ("end", "", 0, 7, -1, True, False, None, ()):
            self.refused(BadProgram, 0, (row,))
            self.refused(BadProgram, 2, self.in_program(row))

    def test_no_tuple_or_none(self):
        for program in ((), "end", "", 0, 3, True, False, None):
            self.refused(BadProgram, 0, program)

    def test_the_first_of_several(self):
        self.refused(BadProgram, 1, (("end",), ("set", 4, 0), None, ("rest", 0)))
        self.refused(BadProgram, 0, (("rest", 0),) * 41)

    def test_a_row_to_go_to_is_one_that_there_is(self):
        self.let_by((("go", 0),))
        self.refused(BadProgram, 0, (("go", 1),))
        self.let_by((("end",), ("if", 0, 1)))
        self.refused(BadProgram, 1, (("end",), ("if", 0, 2)))

    def test_forty_rows(self):
        self.let_by((("rest", 1),) * 40)
        self.let_by((("go", 39),) * 40)
        self.refused(BadProgram, 39, (("rest", 1),) * 39 + (("go", 40),))
        self.refused(BadProgram, 39, (("rest", 1),) * 39 + (None,))

    def test_a_forty_first_row(self):
        self.refused(BadProgram, 40, (("rest", 1),) * 41)
        self.refused(BadProgram, 40, (("rest", 1),) * 60)
        self.refused(BadProgram, 40, (("rest", 1),) * 40 + (None,))
        self.refused(BadProgram, 12, (("rest", 1),) * 12 + (("rest", 10),) + (("rest", 1),) * 30)

    def test_rows_to_go_to_count_all_that_are_handed_in(self):
        self.refused(BadProgram, 40, (("go", 40),) + (("end",),) * 40)
        self.refused(BadProgram, 40, (("if", 0, 44),) + (("end",),) * 44)
        self.refused(BadProgram, 0, (("go", 41),) + (("end",),) * 40)
        self.refused(BadProgram, 1, (("end",), ("if", 0, 45)) + (("end",),) * 43)


class Works(Refusals):
    def in_works(self, work):
        """The work as the second of three."""
        return (WORK, work, WORK)

    def test_edges_of_each_number(self):
        for place, least, most in WORK_NUMBERS:
            nothing = (None,) if place > 4 else ()
            for value in (least, most) + nothing:
                self.let_by(works=self.in_works(with_part(WORK, place, value)))
            for value in (least - 1, most + 1, -1, 10 ** 30) + NO_NUMBERS:
                if value not in nothing:
                    self.refused(BadWorks, 1, works=self.in_works(with_part(WORK, place, value)))

    def test_greeds(self):
        for greed in ("all", "turn", "idle"):
            self.let_by(works=self.in_works(with_part(WORK, 4, greed)))
        for greed in ("", "All", "none", "idle ", "a", 0, 1, True, False, None, (), ("all",)):
            self.refused(BadWorks, 1, works=self.in_works(with_part(WORK, 4, greed)))

    def test_works_that_are_none(self):
        for work in ((), WORK[:6], WORK + (None,), "all", "", 0, 5, True, False, None):
            self.refused(BadWorks, 0, works=(work,))
            self.refused(BadWorks, 1, works=self.in_works(work))

    def test_no_list(self):
        for works in (None, "", 0, True):
            self.refused(BadWorks, 0, works=works)

    def test_none_and_six_works(self):
        self.let_by(works=())
        self.let_by(works=(WORK,) * 6)
        self.let_by(works=(with_part(WORK, 6, 5),) * 6)
        self.refused(BadWorks, 5, works=(WORK,) * 5 + (with_part(WORK, 6, 6),))

    def test_a_seventh_work(self):
        self.refused(BadWorks, 6, works=(WORK,) * 7)
        self.refused(BadWorks, 6, works=(WORK,) * 9)
        self.refused(BadWorks, 6, works=(WORK,) * 6 + (None,))
        self.refused(BadWorks, 3, works=(WORK,) * 3 + (None,) + (WORK,) * 4)

    def test_next_counts_all_that_are_handed_in(self):
        self.refused(BadWorks, 6, works=(with_part(WORK, 6, 6),) + (WORK,) * 6)
        self.refused(BadWorks, 6, works=(with_part(WORK, 6, 7),) + (WORK,) * 7)
        self.refused(BadWorks, 0, works=(with_part(WORK, 6, 7),) + (WORK,) * 6)

    def test_next_of_the_only_work(self):
        self.let_by(works=(with_part(WORK, 6, 0),))
        self.refused(BadWorks, 0, works=(with_part(WORK, 6, 1),))

    def test_the_first_of_several(self):
        self.refused(BadWorks, 1, works=(WORK, with_part(WORK, 2, 0), None))


class Memories(Refusals):
    def test_how_many_words(self):
        for many in (4, 5, 31, 32):
            self.let_by(memory=[7] * many)
        for many in (0, 1, 3, 33, 40):
            self.refused(BadMemory, None, memory=[7] * many)

    def test_each_word(self):
        self.let_by(memory=[0, 999, 0, 999])
        for place in range(4):
            for value in (-1, 1000, 10 ** 30) + NO_NUMBERS:
                self.refused(BadMemory, None, memory=WORDS[:place] + [value] + WORDS[place + 1:])

    def test_no_list(self):
        for memory in (None, 4, "0123"):
            self.refused(BadMemory, None, memory=memory)


class Asks(Refusals):
    def test_edges(self):
        works = (WORK, WORK)
        self.let_by(works=works, asks=())
        self.let_by(works=works, asks=((0, 0), (0, 1), (200, 1), (200, 0)))
        for value in (-1, 201, 10 ** 30) + NO_NUMBERS:
            self.refused(BadAsks, 1, works=works, asks=((0, 0), (value, 0)))
        for value in (-1, 2, 10 ** 30) + NO_NUMBERS:
            self.refused(BadAsks, 1, works=works, asks=((0, 0), (0, value)))

    def test_a_work_that_there_is(self):
        self.let_by(works=(WORK,) * 6, asks=((3, 5),))
        self.refused(BadAsks, 0, works=(WORK,) * 5, asks=((3, 5),))
        self.refused(BadAsks, 0, asks=((3, 0),))

    def test_none_less_than_that_ahead(self):
        self.let_by(works=(WORK,), asks=((3, 0), (3, 0), (4, 0)))
        self.refused(BadAsks, 1, works=(WORK,), asks=((3, 0), (2, 0), (4, 0)))
        self.refused(BadAsks, 2, works=(WORK,), asks=((3, 0), (5, 0), (4, 0)))

    def test_asks_that_are_none(self):
        for ask in ((), (0,), (0, 0, 0), "00", "", 0, True, False, None):
            self.refused(BadAsks, 0, works=(WORK,), asks=(ask,))
            self.refused(BadAsks, 2, works=(WORK,), asks=((1, 0), (1, 0), ask, (1, 0)))

    def test_no_list(self):
        for asks in (None, "", 0, True):
            self.refused(BadAsks, 0, works=(WORK,), asks=asks)

    def test_eight_and_a_ninth(self):
        self.let_by(works=(WORK,), asks=((1, 0),) * 8)
        self.refused(BadAsks, 8, works=(WORK,), asks=((1, 0),) * 9)
        self.refused(BadAsks, 8, works=(WORK,), asks=((1, 0),) * 12)
        self.refused(BadAsks, 8, works=(WORK,), asks=((1, 0),) * 8 + (None,))
        self.refused(BadAsks, 7, works=(WORK,), asks=((1, 0),) * 7 + ((0, 0), (1, 0)))


class Beats(unittest.TestCase):
    def test_edges(self):
        for beats in (0, 1, 299, 300):
            self.assertEqual(len(run(END, [], WORDS, [], beats)[0]), beats)
        for beats in (-1, 301, 10 ** 30) + NO_NUMBERS:
            with self.assertRaises(BadBeats) as caught:
                run(END, [], WORDS, [], beats)
            self.assertIs(caught.exception.__class__, BadBeats)


class Order(unittest.TestCase):
    def test_what_is_handed_in_first_is_refused_first(self):
        good = [END, [WORK], WORDS, [(0, 0)], 3]
        bad = [(None,), [None], [], [None], -1]
        kinds = [BadProgram, BadWorks, BadMemory, BadAsks, BadBeats]
        for choice in range(1, 32):
            wrong = [place for place in range(5) if choice >> place & 1]
            handed = [bad[place] if place in wrong else good[place] for place in range(5)]
            with self.assertRaises(kinds[wrong[0]]) as caught:
                run(*handed)
            self.assertIs(caught.exception.__class__, kinds[wrong[0]])
            if wrong[0] < 4:
                with self.assertRaises(kinds[wrong[0]]):
                    Hall(*handed[:4])

    def test_asks_of_a_work_that_there_is_none_of_come_behind_bad_words(self):
        with self.assertRaises(BadMemory):
            Hall(END, [], [1, 2, 3], [(0, 0)])
