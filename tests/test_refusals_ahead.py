"""What times, overs, spread, torns, first_torn and leans refuse, in which order, and what they let by."""

import unittest

from stealbeats.ahead import overs, spread, times
from stealbeats.errors import (BadAsks, BadBeats, BadClaim, BadMemory, BadProgram, BadWindow, BadWorks, BeatError,
                               Crooked)
from stealbeats.leans import leans
from stealbeats.torn import first_torn, torns

PAIR = ("pair", 0, 0)
PROGRAM = (("rest", 1), PAIR, ("get", 0, 1))
WORK = (0, 0, 2, 1, "idle", None, None)
WORKS = [WORK, WORK]
WORDS = [0, 1, 2, 3]
NO_NUMBERS = (True, False, None, "1", "", (), (1,))
BEYOND = (-1, 10 ** 30, -10 ** 30)

# Each function with the names of what is handed in, in turn.
STRAIGHT = {times: "program works asks", overs: "program works asks", spread: "program works work low high"}
CROOKED = {torns: "program works memory asks beats", first_torn: "program works memory work low high",
           leans: "program works memory work low high claim"}
ALL = {**STRAIGHT, **CROOKED}
GOOD = {"program": PROGRAM, "works": WORKS, "memory": WORDS, "asks": [(3, 1)], "beats": 9, "work": 1, "low": 2,
        "high": 4, "claim": ("whole", 1)}
BAD = {"program": (("rest", 0),), "works": [None], "memory": [1, 2, 3], "asks": [(0, 0), (201, 0)], "beats": 301,
       "work": 2, "low": -1, "high": 1, "claim": ("whole", 0)}
KINDS = {"program": BadProgram, "works": BadWorks, "memory": BadMemory, "asks": BadAsks, "beats": BadBeats,
         "work": BadWindow, "low": BadWindow, "high": BadWindow, "claim": BadClaim}


def handed(function, **others):
    return [others.get(name, GOOD[name]) for name in ALL[function].split()]


class Refusals(unittest.TestCase):
    def refused(self, kind, function, at=None, **others):
        with self.assertRaises(BeatError, msg=(function.__name__, others)) as caught:
            function(*handed(function, **others))
        self.assertIs(caught.exception.__class__, kind, (function.__name__, others))
        if at is not None:
            self.assertEqual(caught.exception.at, at)

    def let_by(self, function, **others):
        return function(*handed(function, **others))

    def having(self, name):
        return [function for function in ALL if name in ALL[function].split()]


class Each(Refusals):
    def test_what_is_good_is_let_by(self):
        for function in ALL:
            self.let_by(function)

    def test_programs(self):
        for function in ALL:
            for program in ((), None, "end", 3, True):
                self.refused(BadProgram, function, 0, program=program)
            for row in (("rest", 0), ("rest", 10), ("pair", 3, 0), ("pair", 0, 32), ("go", 3), ("if", 4, 0), None, "end"):
                self.refused(BadProgram, function, 2, program=(("rest", 1), PAIR, row))
            self.refused(BadProgram, function, 40, program=(PAIR,) * 41)
            self.refused(BadProgram, function, 40, program=(("go", 40),) + (PAIR,) * 40)
            self.let_by(function, program=(PAIR,) * 40)

    def test_works(self):
        for function in ALL:
            for place, value in ((0, 32), (1, -1), (2, 0), (2, 17), (3, 5), (4, "some"), (5, 3), (6, 2), (0, True)):
                bad = WORK[:place] + (value,) + WORK[place + 1:]
                self.refused(BadWorks, function, 1, works=[WORK, bad])
            self.refused(BadWorks, function, 0, works=[None, WORK])
            self.refused(BadWorks, function, 6, works=[WORK] * 7)
            self.let_by(function, works=[WORK[:6] + (5,)] * 6)

    def test_words(self):
        for function in self.having("memory"):
            for memory in ([], [0] * 3, [0] * 33, [0, 0, 0, 1000], [-1, 0, 0, 0], [0, True, 0, 0], [0, None, 0, 0],
                           ["0", 0, 0, 0]):
                self.refused(BadMemory, function, memory=memory)
            for memory in ([0] * 4, [999] * 32):
                self.let_by(function, memory=memory)

    def test_asks(self):
        for function in self.having("asks"):
            for ask in ((201, 0), (-1, 0), (5, 2), (5, -1), (2, 0), (5,), (5, 0, 0), None, "50", 5, (True, 0), (5, None),
                        ("5", 0), (5, False)):
                self.refused(BadAsks, function, 1, asks=[(3, 0), ask])
            self.refused(BadAsks, function, 8, asks=[(3, 0)] * 9)
            self.let_by(function, asks=[(0, 0), (0, 1)] + [(200, 1)] * 6)
            self.let_by(function, asks=[])

    def test_beats(self):
        for beats in BEYOND + NO_NUMBERS + (301,):
            self.refused(BadBeats, torns, beats=beats)
        for beats in (0, 1, 299, 300):
            self.let_by(torns, beats=beats)


class Windows(Refusals):
    def test_works(self):
        for function in self.having("work"):
            for who in BEYOND + NO_NUMBERS + (2, 5, 6):
                self.refused(BadWindow, function, work=who)
            self.refused(BadWindow, function, works=[], work=0)
            self.refused(BadWindow, function, works=[WORK], work=1)
            self.let_by(function, work=0)
            self.let_by(function, works=[WORK] * 6, work=5)

    def test_beats(self):
        for function in self.having("low"):
            for low, high in ((0, 0), (0, 40), (1, 41), (160, 200), (200, 200), (199, 200), (7, 7)):
                self.let_by(function, low=low, high=high)
            for low, high in ((0, 41), (1, 42), (159, 200), (160, 201), (200, 201), (201, 201), (-1, 0), (-1, -1),
                              (5, 4), (200, 0), (1, 0), (0, -1), (201, 200)):
                self.refused(BadWindow, function, low=low, high=high)
            for value in BEYOND + NO_NUMBERS:
                self.refused(BadWindow, function, low=value, high=1)
                self.refused(BadWindow, function, low=0, high=value)
                self.refused(BadWindow, function, low=value, high=value)


class Claims(Refusals):
    def of(self, *parts):
        self.refused(BadClaim, leans, claim=parts)

    def good(self, *parts):
        self.let_by(leans, claim=parts)

    def test_over(self):
        for who in (0, 1):
            for row in (0, 1, 2):
                self.good("over", who, row)
        for value in BEYOND + NO_NUMBERS + (2, 3, 5):
            self.of("over", value, 0)
        for value in BEYOND + NO_NUMBERS + (3, 39, 40):
            self.of("over", 0, value)

    def test_whole(self):
        self.good("whole", 1)
        for value in BEYOND + NO_NUMBERS + (0, 2, 3, 40):
            self.of("whole", value)
        for row in (("lay", 0, 0), ("get", 0, 0), ("rest", 2), ("go", 0), ("end",)):
            self.refused(BadClaim, leans, program=(PAIR, row), claim=("whole", 1))
        self.let_by(leans, program=(("end",),) * 39 + (PAIR,), claim=("whole", 39))

    def test_kept(self):
        for low, high in ((0, 0), (0, 31), (31, 31), (4, 31), (7, 8)):
            self.good("kept", low, high, 0, 2)
        for low, high in ((0, 32), (-1, 0), (32, 32), (1, 0), (31, 30), (31, 0), (-2, -1)):
            self.of("kept", low, high, 0, 2)
        for one, other in ((0, 0), (2, 0), (2, 2), (1, 2)):
            self.good("kept", 0, 31, one, other)
        for value in BEYOND + NO_NUMBERS + (3, 40):
            self.of("kept", 0, 31, value, 0)
            self.of("kept", 0, 31, 0, value)
        for value in BEYOND + NO_NUMBERS + (32,):
            self.of("kept", value, 31, 0, 0)
            self.of("kept", 0, value, 0, 0)
            self.of("kept", value, value, 0, 0)

    def test_other_lengths(self):
        for claim in (("over", 0, 1), ("whole", 1), ("kept", 0, 1, 0, 1)):
            self.good(*claim)
            for length in range(len(claim)):
                self.of(*claim[:length])
            for more in (0, 1, None, "", True, ()):
                self.of(*claim, more)

    def test_other_kinds(self):
        for claim in (None, True, False, 0, 1, -1, "", "whole", "over", "kept", "whole 1", (), (None,), (1,), ((),),
                      (("whole", 1),), (("whole", 1), 1)):
            self.refused(BadClaim, leans, claim=claim)
        for word in ("", "Whole", "whole ", "torn", "ended", None, True, 0, 1, (), ("whole",), "pair"):
            for parts in ((1,), (0, 1), (0, 1, 0, 1)):
                self.of(word, *parts)
        self.of("whole", 1, 1)
        self.of("over", 1)
        self.of("kept", 0, 1)

    def test_of_as_many_works_and_rows_as_there_are(self):
        program, works = (PAIR,) * 40, [WORK] * 6
        self.let_by(leans, program=program, works=works, claim=("over", 5, 39))
        self.let_by(leans, program=program, works=works, claim=("kept", 0, 31, 39, 39))
        self.refused(BadClaim, leans, program=program, works=works, claim=("over", 6, 39))
        self.refused(BadClaim, leans, program=program, works=works, claim=("over", 5, 40))


class Straight(Refusals):
    def test_crooked(self):
        for function in STRAIGHT:
            for row in (("go", 0), ("if", 0, 0), ("go", 2), ("if", 3, 2)):
                for program in ((row, PAIR, PAIR), (PAIR, PAIR, row), (PAIR, ("end",), row)):
                    self.refused(Crooked, function, program=program)

    def test_other_rows_are_straight(self):
        rows = (("set", 0, 1), ("add", 0, 1), ("less", 0, 1), ("get", 0, 1), ("put", 1, 0), ("getx", 0, 1),
                ("putx", 1, 0), PAIR, ("lay", 1, 0), ("ask", 0), ("done", 0, 0), ("mark", 1), ("clear", 1),
                ("rest", 9), ("end",))
        for function in STRAIGHT:
            for row in rows:
                self.let_by(function, program=(row, row))

    def test_crooked_ones_are_let_by_elsewhere(self):
        for function in CROOKED:
            self.let_by(function, program=(("if", 0, 2), PAIR, ("go", 0)))


class Order(Refusals):
    def test_what_is_handed_in_first_is_refused_first(self):
        for function, names in ALL.items():
            names = names.split()
            for choice in range(1, 1 << len(names)):
                wrong = [name for place, name in enumerate(names) if choice >> place & 1]
                self.refused(KINDS[wrong[0]], function, **{name: BAD[name] for name in wrong})

    def test_crooked_behind_all(self):
        crooked = (("rest", 1), PAIR, ("go", 0))
        for function, names in STRAIGHT.items():
            self.refused(Crooked, function, program=crooked)
            for name in names.split()[1:]:
                self.refused(KINDS[name], function, program=crooked, **{name: BAD[name]})

    def test_a_program_that_is_crooked_and_bad(self):
        for function in STRAIGHT:
            self.refused(BadProgram, function, 1, program=(("go", 0), ("rest", 0)))

    def test_asks_and_windows_of_works_that_are_refused(self):
        for function in ALL:
            self.refused(BadWorks, function, 6, works=[WORK] * 7, asks=[(0, 7)], work=7)


class Apart(Refusals):
    """Point 1, for these functions."""

    program = (("ask", 0), ("rest", 2), ("pair", 0, 0), ("mark", 0), ("pair", 1, 1), ("get", 0, 1), ("rest", 4))
    works = [(0, 0, 5, 1, "turn", 0, 1), (1, 1, 3, 2, "all", None, None)]
    words = [5, 6, 7, 8]
    asks = [(20, 1), (29, 1)]

    def with_these(self, function, works, words, asks):
        return self.let_by(function, program=self.program, works=works, memory=words, asks=asks, low=0, high=12,
                           beats=60, claim=("kept", 0, 3, 1, 6))

    def test_nothing_handed_in_is_changed(self):
        for function in ALL:
            works, words, asks = list(self.works), list(self.words), list(self.asks)
            self.with_these(function, works, words, asks)
            self.assertEqual((works, words, asks), (self.works, self.words, self.asks))

    def test_nothing_handed_in_is_kept(self):
        for function in ALL:
            works, words, asks = list(self.works), list(self.words), list(self.asks)
            told = self.with_these(function, works, words, asks)
            works[0] = (0, 0, 1, 1, "idle", None, None)
            words[:] = [1] * 9
            asks.clear()
            other = self.with_these(function, list(works), list(words), list(asks))
            again = self.with_these(function, list(self.works), list(self.words), list(self.asks))
            self.assertEqual(again, told)
            self.assertEqual(self.with_these(function, works, words, asks), other)

    def test_what_is_told_may_be_changed(self):
        for function in (times, overs, spread, torns):
            told = self.with_these(function, self.works, self.words, self.asks)
            kept = list(told)
            self.assertNotEqual(kept, [])
            told.clear()
            told.append(None)
            self.assertEqual(self.with_these(function, self.works, self.words, self.asks), kept)

    def test_asked_again_the_same_is_told(self):
        for function in ALL:
            first = self.with_these(function, self.works, self.words, self.asks)
            for other in ALL:
                self.with_these(other, self.works, self.words, self.asks)
            self.assertEqual(self.with_these(function, self.works, self.words, self.asks), first)

    def test_a_refusal_changes_nothing(self):
        for function in ALL:
            works, words, asks = [WORK] * 2 + [None], [1, 2, 3], [(0, 0), (201, 0)]
            with self.assertRaises(BeatError):
                self.with_these(function, works, words, asks)
            self.assertEqual((works, words, asks), ([WORK, WORK, None], [1, 2, 3], [(0, 0), (201, 0)]))

    def test_kinds_of_what_is_told(self):
        for function in (times, overs, spread, torns):
            self.assertIs(self.with_these(function, self.works, self.words, self.asks).__class__, list)
        for function in (spread, torns):
            for row in self.with_these(function, self.works, self.words, self.asks):
                self.assertIs(row.__class__, tuple)
                self.assertTrue(all(part is None or part.__class__ is int for part in row))
        self.assertIs(self.let_by(leans, claim=("over", 1, 2)).__class__, int)
        self.assertIs(self.let_by(first_torn, program=(("rest", 2), PAIR), low=0, high=1).__class__, int)
