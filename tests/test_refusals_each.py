"""What each function refuses, in which order, and what it lets by; point 1 for each of them."""

import unittest

from stealbeats.ahead import overs, spread, times
from stealbeats.errors import (BadAsks, BadBeats, BadClaim, BadLog, BadMemory, BadProgram, BadRow, BadWindow, BadWorks,
                               Crooked)
from stealbeats.hall import Hall
from stealbeats.judging import judged
from stealbeats.leans import leans
from stealbeats.resting import guards, rests
from stealbeats.runs import run
from stealbeats.sights import sights, worths
from stealbeats.torn import first_torn, torns
from tests.every import ALL, BAD, BEYOND, CROOKED, KINDS, NO_NUMBERS, PAIR, STRAIGHT, WORK, called, having, refusal


class Refusals(unittest.TestCase):
    def refused(self, kind, function, at=None, **others):
        error = refusal(function, **others)
        self.assertIs(error.__class__, kind, (function.__name__, others))
        if at is not None:
            self.assertEqual(error.at, at)

    def let_by(self, function, **others):
        return called(function, **others)


class Each(Refusals):
    def test_what_is_good_is_let_by(self):
        for function in ALL:
            self.let_by(function)

    def test_programs(self):
        for function in ALL:
            for program in ((), None, "end", 3, True):
                self.refused(BadProgram, function, 0, program=program)
            for row in (("rest", 0), ("rest", 10), ("pair", 3, 0), ("pair", 0, 32), ("go", 3), ("if", 4, 0), None, "end"):
                self.refused(BadProgram, function, 2, program=(("rest", 1), PAIR, row))
            self.refused(BadProgram, function, 40, program=(PAIR,) * 41)
            self.refused(BadProgram, function, 40, program=(("go", 40),) + (PAIR,) * 40)
            self.let_by(function, program=(PAIR,) * 40)

    def test_works(self):
        for function in ALL:
            for place, value in ((0, 32), (1, -1), (2, 0), (2, 17), (3, 5), (4, "some"), (5, 3), (6, 2), (0, True)):
                bad = WORK[:place] + (value,) + WORK[place + 1:]
                self.refused(BadWorks, function, 1, works=[WORK, bad])
            self.refused(BadWorks, function, 0, works=[None, WORK])
            self.refused(BadWorks, function, 6, works=[WORK] * 7)
            self.let_by(function, works=[WORK[:6] + (5,)] * 6)

    def test_words(self):
        for function in having("memory"):
            for memory in ([], [0] * 3, [0] * 33, [0, 0, 0, 1000], [-1, 0, 0, 0], [0, True, 0, 0], [0, None, 0, 0],
                           ["0", 0, 0, 0]):
                self.refused(BadMemory, function, memory=memory)
            for memory in ([0] * 4, [999] * 32):
                self.let_by(function, memory=memory)

    def test_asks(self):
        for function in having("asks"):
            for ask in ((201, 0), (-1, 0), (5, 2), (5, -1), (2, 0), (5,), (5, 0, 0), None, "50", 5, (True, 0), (5, None),
                        ("5", 0), (5, False)):
                self.refused(BadAsks, function, 1, asks=[(3, 0), ask])
            self.refused(BadAsks, function, 8, asks=[(3, 0)] * 9)
            self.let_by(function, asks=[(0, 0), (0, 1)] + [(200, 1)] * 6)
            self.let_by(function, asks=[])

    def test_beats(self):
        for function in having("beats"):
            for beats in BEYOND + NO_NUMBERS + (301,):
                self.refused(BadBeats, function, beats=beats)
            for beats in (0, 1, 299, 300):
                self.let_by(function, beats=beats)


class Windows(Refusals):
    def test_works(self):
        for function in having("work"):
            for who in BEYOND + NO_NUMBERS + (2, 5, 6):
                self.refused(BadWindow, function, work=who)
            self.refused(BadWindow, function, works=[], work=0)
            self.refused(BadWindow, function, works=[WORK], work=1)
            self.let_by(function, work=0)
            self.let_by(function, works=[WORK] * 6, work=5)

    def test_beats(self):
        for function in having("low"):
            for low, high in ((0, 0), (0, 40), (1, 41), (160, 200), (200, 200), (199, 200), (7, 7)):
                self.let_by(function, low=low, high=high)
            for low, high in ((0, 41), (1, 42), (159, 200), (160, 201), (200, 201), (201, 201), (-1, 0), (-1, -1),
                              (5, 4), (200, 0), (1, 0), (0, -1), (201, 200)):
                self.refused(BadWindow, function, low=low, high=high)
            for value in BEYOND + NO_NUMBERS:
                self.refused(BadWindow, function, low=value, high=1)
                self.refused(BadWindow, function, low=0, high=value)
                self.refused(BadWindow, function, low=value, high=value)


class Claims(Refusals):
    def of(self, *parts):
        self.refused(BadClaim, leans, claim=parts)

    def good(self, *parts):
        self.let_by(leans, claim=parts)

    def test_over(self):
        for who in (0, 1):
            for row in (0, 1, 2):
                self.good("over", who, row)
        for value in BEYOND + NO_NUMBERS + (2, 3, 5):
            self.of("over", value, 0)
        for value in BEYOND + NO_NUMBERS + (3, 39, 40):
            self.of("over", 0, value)

    def test_whole(self):
        self.good("whole", 1)
        for value in BEYOND + NO_NUMBERS + (0, 2, 3, 40):
            self.of("whole", value)
        for row in (("lay", 0, 0), ("get", 0, 0), ("rest", 2), ("go", 0), ("end",)):
            self.refused(BadClaim, leans, program=(PAIR, row), claim=("whole", 1))
        self.let_by(leans, program=(("end",),) * 39 + (PAIR,), claim=("whole", 39))

    def test_kept(self):
        for low, high in ((0, 0), (0, 31), (31, 31), (4, 31), (7, 8)):
            self.good("kept", low, high, 0, 2)
        for low, high in ((0, 32), (-1, 0), (32, 32), (1, 0), (31, 30), (31, 0), (-2, -1)):
            self.of("kept", low, high, 0, 2)
        for one, other in ((0, 0), (2, 0), (2, 2), (1, 2)):
            self.good("kept", 0, 31, one, other)
        for value in BEYOND + NO_NUMBERS + (3, 40):
            self.of("kept", 0, 31, value, 0)
            self.of("kept", 0, 31, 0, value)
        for value in BEYOND + NO_NUMBERS + (32,):
            self.of("kept", value, 31, 0, 0)
            self.of("kept", 0, value, 0, 0)
            self.of("kept", value, value, 0, 0)

    def test_other_lengths(self):
        for claim in (("over", 0, 1), ("whole", 1), ("kept", 0, 1, 0, 1)):
            self.good(*claim)
            for length in range(len(claim)):
                self.of(*claim[:length])
            for more in (0, 1, None, "", True, ()):
                self.of(*claim, more)

    def test_other_kinds(self):
        for claim in (None, True, False, 0, 1, -1, "", "whole", "over", "kept", "whole 1", (), (None,), (1,), ((),),
                      (("whole", 1),), (("whole", 1), 1)):
            self.refused(BadClaim, leans, claim=claim)
        for word in ("", "Whole", "whole ", "torn", "ended", None, True, 0, 1, (), ("whole",), "pair"):
            for parts in ((1,), (0, 1), (0, 1, 0, 1)):
                self.of(word, *parts)
        self.of("whole", 1, 1)
        self.of("over", 1)
        self.of("kept", 0, 1)

    def test_of_as_many_works_and_rows_as_there_are(self):
        program, works = (PAIR,) * 40, [WORK] * 6
        self.let_by(leans, program=program, works=works, claim=("over", 5, 39))
        self.let_by(leans, program=program, works=works, claim=("kept", 0, 31, 39, 39))
        self.refused(BadClaim, leans, program=program, works=works, claim=("over", 6, 39))
        self.refused(BadClaim, leans, program=program, works=works, claim=("over", 5, 40))


class Rows(Refusals):
    def test_rows_that_are_no_pairs(self):
        for function in having("row"):
            self.let_by(function, row=1)
            for row in BEYOND + NO_NUMBERS + (0, 2, 3, -2, 39, 40):
                self.refused(BadRow, function, row=row)
            for other in (("set", 0, 0), ("add", 0, 0), ("less", 0, 0), ("get", 0, 0), ("put", 0, 0), ("getx", 0, 0),
                          ("putx", 0, 0), ("lay", 0, 0), ("go", 0), ("if", 0, 0), ("ask", 0), ("done", 0, 0),
                          ("mark", 0), ("clear", 0), ("rest", 2), ("end",)):
                self.refused(BadRow, function, program=(PAIR, other, PAIR))

    def test_the_first_and_the_last_row(self):
        for function in having("row"):
            self.let_by(function, program=(PAIR,), row=0)
            self.refused(BadRow, function, program=(PAIR,), row=1)
            self.refused(BadRow, function, program=(PAIR,), row=-1)
            self.refused(BadRow, function, program=(PAIR,), row=False)
            self.refused(BadRow, function, program=(PAIR, PAIR), row=True)
            self.let_by(function, program=(PAIR,) * 40, row=0)
            self.let_by(function, program=(PAIR,) * 40, row=39)
            self.refused(BadRow, function, program=(PAIR,) * 40, row=40)

    def test_marks(self):
        for mark in (0, 1, 2):
            self.let_by(guards, mark=mark)
        for mark in BEYOND + NO_NUMBERS + (3, 5):
            self.refused(BadRow, guards, mark=mark)
            self.refused(BadRow, guards, row=mark, mark=mark)

    def test_addresses(self):
        for size in (4, 5, 31, 32):
            for address in (0, 1, size - 1):
                self.let_by(worths, memory=[7] * size, address=address)
            for address in BEYOND + NO_NUMBERS + (size, size + 1, 33):
                self.refused(BadRow, worths, memory=[7] * size, address=address)


class Straight(Refusals):
    def test_crooked(self):
        for function in STRAIGHT:
            for row in (("go", 0), ("if", 0, 0), ("go", 2), ("if", 3, 2)):
                for program in ((row, PAIR, PAIR), (PAIR, PAIR, row), (("end",), PAIR, row)):
                    self.refused(Crooked, function, program=program)

    def test_other_rows_are_straight(self):
        rows = (("set", 0, 1), ("add", 0, 1), ("less", 0, 1), ("get", 0, 1), ("put", 1, 0), ("getx", 0, 1),
                ("putx", 1, 0), PAIR, ("lay", 1, 0), ("ask", 0), ("done", 0, 0), ("mark", 1), ("clear", 1),
                ("rest", 9), ("end",))
        for function in STRAIGHT:
            for row in rows:
                self.let_by(function, program=(row, PAIR, row))

    def test_crooked_ones_are_let_by_elsewhere(self):
        for function in CROOKED:
            self.let_by(function, program=(("if", 0, 2), PAIR, ("go", 0)))


class Order(Refusals):
    def test_what_is_handed_in_first_is_refused_first(self):
        for function, names in ALL.items():
            names = names.split()
            for choice in range(1, 1 << len(names)):
                wrong = [name for place, name in enumerate(names) if choice >> place & 1]
                self.refused(KINDS[wrong[0]], function, **{name: BAD[name] for name in wrong})

    def test_crooked_behind_all(self):
        crooked = (("rest", 1), PAIR, ("go", 0))
        for function, names in STRAIGHT.items():
            self.refused(Crooked, function, program=crooked)
            for name in names.split()[1:]:
                self.refused(KINDS[name], function, program=crooked, **{name: BAD[name]})

    def test_a_program_that_is_crooked_and_bad(self):
        for function in STRAIGHT:
            self.refused(BadProgram, function, 1, program=(("go", 0), ("rest", 0)))

    def test_asks_and_windows_of_works_that_are_refused(self):
        for function in ALL:
            self.refused(BadWorks, function, 6, works=[WORK] * 7, asks=[(0, 7)], work=7)

    def test_rows_and_marks_behind_windows(self):
        for function in (rests, guards):
            self.refused(BadWindow, function, low=5, high=4, row=0, mark=3)
            self.refused(BadWindow, function, work=None, row=None, mark=None)
            self.refused(BadRow, function, program=(("go", 0), ("rest", 1)), row=1)
        self.refused(BadRow, guards, program=(("go", 0), PAIR), mark=3)

    def test_addresses_and_logs_behind_all_else(self):
        self.refused(BadBeats, worths, beats=301, address=4)
        self.refused(BadMemory, worths, memory=[1, 2, 3], address=3)
        self.refused(BadAsks, judged, 0, asks=[(0, 2)], log=[None])
        self.refused(BadLog, judged, 1, log=[(None, "waits"), None])


class Apart(Refusals):
    """Point 1, for each function."""

    program = (("ask", 0), ("rest", 2), ("pair", 0, 0), ("mark", 0), ("pair", 1, 1), ("get", 0, 1), ("rest", 4))
    works = [(0, 0, 5, 1, "turn", 0, 1), (1, 1, 3, 2, "all", None, None)]
    words = [5, 6, 7, 8]
    asks = [(20, 1), (29, 1)]
    lists = (times, overs, spread, torns, sights, worths)

    def setUp(self):
        self.log = run(self.program, self.works, self.words, self.asks, 60)[0]
        self.log[50] = (None, "waits")

    def handed(self):
        return list(self.works), list(self.words), list(self.asks), list(self.log)

    def with_these(self, function, works, words, asks, log):
        told = self.let_by(function, program=self.program, works=works, memory=words, asks=asks, log=log, work=1,
                           low=0, high=12, beats=60, claim=("kept", 0, 3, 1, 6), row=2, mark=0, address=1)
        return [(told.beat(), told.shown()) for beat in range(60)] if function == Hall else told

    def test_nothing_handed_in_is_changed(self):
        for function in ALL:
            lists = self.handed()
            self.with_these(function, *lists)
            self.assertEqual(lists, self.handed())

    def test_nothing_handed_in_is_kept(self):
        for function in ALL:
            works, words, asks, log = self.handed()
            told = self.with_these(function, works, words, asks, log)
            works[0] = (0, 0, 1, 1, "idle", None, None)
            words[:] = [1] * 9
            asks.clear()
            log[2:] = []
            other = self.with_these(function, list(works), list(words), list(asks), list(log))
            self.assertEqual(self.with_these(function, *self.handed()), told)
            self.assertEqual(self.with_these(function, works, words, asks, log), other)

    def test_what_is_told_may_be_changed(self):
        for function in self.lists:
            told = self.with_these(function, *self.handed())
            kept = list(told)
            self.assertNotEqual(kept, [])
            told.clear()
            told.append(None)
            self.assertEqual(self.with_these(function, *self.handed()), kept)

    def test_asked_again_the_same_is_told(self):
        for function in ALL:
            first = self.with_these(function, *self.handed())
            for other in ALL:
                self.with_these(other, *self.handed())
            self.assertEqual(self.with_these(function, *self.handed()), first)

    def test_a_refusal_changes_nothing(self):
        for name in BAD:
            for function in having(name):
                others = dict(zip(("works", "memory", "asks", "log"), self.handed()))
                others = {**others, "program": self.program, "row": 2, "claim": ("whole", 2)}
                if name in ("works", "memory", "asks", "log"):
                    others[name].append(True)
                else:
                    others[name] = BAD[name]
                kept = {key: list(others[key]) for key in ("works", "memory", "asks", "log")}
                self.refused(KINDS[name], function, **others)
                self.assertEqual({key: others[key] for key in kept}, kept)

    def test_kinds_of_what_is_told(self):
        for function in self.lists:
            self.assertIs(self.with_these(function, *self.handed()).__class__, list)
        for function in (spread, torns, worths):
            for row in self.with_these(function, *self.handed()):
                self.assertIs(row.__class__, tuple)
                self.assertTrue(all(part is None or part.__class__ is int for part in row))
        for who, when, address, last in self.with_these(sights, *self.handed()):
            self.assertTrue({who.__class__, when.__class__, address.__class__} <= {int, None.__class__})
            self.assertIn(last.__class__, (tuple, None.__class__))
        self.assertIs(self.let_by(leans, claim=("over", 1, 2)).__class__, int)
        self.assertIs(self.let_by(first_torn, program=(("rest", 2), PAIR), low=0, high=1).__class__, int)
        for function in (rests, guards):
            self.assertIs(self.with_these(function, *self.handed()).__class__, int)
        self.assertEqual(self.with_these(judged, *self.handed()), 50)
        self.assertIs(self.with_these(judged, *self.handed()).__class__, int)
