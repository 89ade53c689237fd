"""Point 1: what is handed in, told, asked again; halls beside each other."""

import unittest

from stealbeats.errors import BeatError
from stealbeats.hall import Hall
from stealbeats.runs import run
from tests.model import random_hall

PROGRAM = (("ask", 1), ("mark", 0), ("get", 0, 1), ("pair", 1, 2), ("put", 3, 0), ("go", 0))
WORKS = [(0, 3, 3, 2, "turn", 0, None), (1, 2, 2, 1, "idle", None, 0), (4, 0, 1, 1, "all", None, None)]
WORDS = [1, 2, 3, 4, 5]
ASKS = [(0, 0), (9, 1), (30, 2)]


def handed():
    return PROGRAM, list(WORKS), list(WORDS), list(ASKS)


def beats(hall, many):
    return [(hall.beat(), hall.shown()) for beat in range(many)]


class Apart(unittest.TestCase):
    def setUp(self):
        self.expected = beats(Hall(*handed()), 60)

    def test_lists_handed_in_are_not_changed(self):
        program, works, words, asks = handed()
        beats(Hall(program, works, words, asks), 60)
        run(program, works, words, asks, 300)
        self.assertEqual((works, words, asks), (WORKS, WORDS, ASKS))

    def test_lists_handed_in_are_not_kept(self):
        program, works, words, asks = handed()
        hall = Hall(program, works, words, asks)
        first = beats(hall, 5)
        works[0] = (0, 0, 1, 1, "all", None, None)
        works.clear()
        words[:] = [9] * 5
        words.append(9)
        asks.clear()
        asks.append((6, 2))
        self.assertEqual(first + beats(hall, 55), self.expected)

    def test_each_list_handed_in_is_its_own(self):
        for place in (1, 2, 3):
            lists = handed()
            hall = Hall(*lists)
            lists[place].clear()
            self.assertEqual(beats(hall, 60), self.expected)

    def test_lists_told_may_be_changed(self):
        hall = Hall(*handed())
        told = []
        for beat in range(60):
            count, row, cells, words, marks, going = hall.shown()
            cells[0] = 77
            cells.append(1)
            words[:] = [8]
            marks[0] = not marks[0]
            marks.pop()
            going.clear()
            going.append((0, 1, True))
            told.append((hall.beat(), hall.shown()))
        self.assertEqual(told, self.expected)

    def test_a_run_told_may_be_changed(self):
        first = run(*handed(), 20)
        first[0].clear()
        for part in first[1][2:]:
            part.clear()
        self.assertEqual(run(*handed(), 20), ([told for told, shown in self.expected[:20]], self.expected[19][1]))

    def test_asked_again_the_same_is_told(self):
        hall = Hall(*handed())
        for beat in range(20):
            self.assertEqual(hall.shown(), hall.shown())
            hall.beat()
        self.assertEqual(run(*handed(), 50), run(*handed(), 50))

    def test_two_halls_in_turns(self):
        other = random_hall(3)
        alone = beats(Hall(*other), 60)
        one, two, three = Hall(*handed()), Hall(*other), Hall(*handed())
        seen = [(beats(one, 1), beats(two, 1), beats(three, 1)) for beat in range(60)]
        self.assertEqual([row for a, b, c in seen for row in a], self.expected)
        self.assertEqual([row for a, b, c in seen for row in b], alone)
        self.assertEqual([row for a, b, c in seen for row in c], self.expected)

    def test_two_halls_of_the_same_lists(self):
        lists = handed()
        one, two = Hall(*lists), Hall(*lists)
        beats(one, 30)
        self.assertEqual(two.shown()[0], 0)
        self.assertEqual(beats(two, 60), self.expected)

    def test_a_refusal_changes_nothing(self):
        hall = Hall(*handed())
        first = beats(hall, 10)
        program, works, words, asks = handed()
        wrong = [((), works, words, asks, 1), (program, works + [None], words, asks, 1),
                 (program, works, words[:3], asks, 1), (program, works, words, asks + [(0, 0)], 1),
                 (program, works, words, asks, 301)]
        for arguments in wrong:
            with self.assertRaises(BeatError):
                run(*arguments)
        self.assertEqual((works, words, asks), (WORKS, WORDS, ASKS))
        self.assertEqual(first + beats(hall, 50), self.expected)

    def test_a_hall_goes_on_beyond_300_beats(self):
        hall = Hall(*handed())
        self.assertEqual([hall.beat() for beat in range(300)], run(*handed(), 300)[0])
        beats(hall, 50)
        self.assertEqual(hall.shown()[0], 350)
