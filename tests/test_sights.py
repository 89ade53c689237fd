"""Point 15: sights and worths."""

import unittest

from stealbeats.runs import run
from stealbeats.sights import sights, worths
from tests.model import Model, random_hall
from tests.noted import random_pairs

WORDS = [10, 11, 12, 13, 14, 15, 16, 17]


def work(begin=0, goal=4, many=2, block=1, greed="all", mark=None, follow=None):
    return (begin, goal, many, block, greed, mark, follow)


class Machine(unittest.TestCase):
    def test_each_row_that_gets(self):
        program = (("set", 1, 13), ("get", 0, 2), ("getx", 3, 1), ("pair", 0, 7), ("set", 0, 1), ("less", 0, 1))
        self.assertEqual(sights(program, [], WORDS, [], 300), [
            (None, 1, 2, None), (None, 2, 5, None), (None, 3, 7, None), (None, 4, 0, None)])

    def test_each_row_that_puts(self):
        program = (("set", 0, 5), ("put", 2, 0), ("set", 1, 9), ("putx", 1, 0), ("lay", 7, 0), ("put", 1, 1))
        told = [worths(program, [], WORDS, [], 300, address) for address in range(8)]
        self.assertEqual(told, [[(5, None, 9)], [(3, None, 5), (6, None, 9)], [(1, None, 5)], [], [], [], [],
                                [(4, None, 5)]])
        self.assertEqual(sights(program, [], WORDS, [], 300), [])

    def test_last_put_by_the_machine(self):
        program = (("put", 3, 0), ("get", 1, 3), ("put", 3, 0), ("set", 0, 1), ("put", 3, 0), ("get", 1, 3), ("get", 1, 4),
                   ("get", 1, 11))
        self.assertEqual(sights(program, [], WORDS, [], 300), [
            (None, 1, 3, (0, None)), (None, 5, 3, (4, None)), (None, 6, 4, None), (None, 7, 3, (4, None))])
        self.assertEqual(worths(program, [], WORDS, [], 300, 3), [(0, None, 0), (2, None, 0), (4, None, 1)])

    def test_the_lays_of_a_lay_seen_by_a_pair(self):
        program = (("lay", 7, 0), ("pair", 1, 7), ("pair", 1, 6))
        self.assertEqual(sights(program, [], WORDS, [], 300), [
            (None, 2, 7, (0, None)), (None, 3, 0, (1, None)), (None, 4, 6, None), (None, 5, 7, (0, None))])

    def test_waits_are_no_gets(self):
        told = sights((("get", 0, 4),), [work()], WORDS, [(0, 0)], 300)
        self.assertEqual(told, [(0, 0, 0, None), (0, 2, 1, None), (None, 4, 4, (1, 0))])


class Works(unittest.TestCase):
    def test_a_work_that_sees_what_it_put_itself(self):
        works = [work(0, 1, 3)]
        self.assertEqual(sights((("end",),), works, WORDS, [(2, 0)], 300), [
            (0, 2, 0, None), (0, 4, 1, (3, 0)), (0, 6, 2, (5, 0))])
        told = [worths((("end",),), works, WORDS, [(2, 0)], 300, address) for address in range(8)]
        self.assertEqual(told, [[], [(3, 0, 10)], [(5, 0, 10)], [(7, 0, 10)], [], [], [], []])

    def test_several_works_and_the_machine(self):
        program = (("set", 0, 77), ("put", 4, 0), ("rest", 9), ("get", 1, 4), ("get", 1, 5), ("get", 1, 1))
        works = [work(0, 4, 1), work(4, 5, 1), work(5, 1, 1)]
        asks = [(3, 1), (5, 0), (7, 2)]
        self.assertEqual(sights(program, works, WORDS, asks, 300), [
            (1, 3, 4, (1, None)), (0, 5, 0, None), (2, 7, 5, (4, 1)),
            (None, 11, 4, (6, 0)), (None, 12, 5, (4, 1)), (None, 13, 1, (8, 2))])
        self.assertEqual(worths(program, works, WORDS, asks, 300, 4), [(1, None, 77), (6, 0, 10)])
        self.assertEqual(worths(program, works, WORDS, asks, 300, 5), [(4, 1, 77)])
        self.assertEqual(worths(program, works, WORDS, asks, 300, 1), [(8, 2, 77)])
        self.assertEqual(worths(program, works, WORDS, asks, 300, 0), [])

    def test_addresses_by_the_rest(self):
        five = [1, 2, 3, 4, 5]
        program = (("rest", 4), ("get", 0, 9), ("get", 0, 30), ("put", 31, 0), ("get", 0, 1))
        works = [work(30, 9, 2)]
        self.assertEqual(sights(program, works, five, [(0, 0)], 300), [
            (0, 0, 0, None), (0, 2, 1, None), (None, 4, 4, (1, 0)), (None, 5, 0, (3, 0)), (None, 7, 1, (6, None))])
        self.assertEqual(worths(program, works, five, [(0, 0)], 300, 4), [(1, 0, 1)])
        self.assertEqual(worths(program, works, five, [(0, 0)], 300, 0), [(3, 0, 2)])
        self.assertEqual(worths(program, works, five, [(0, 0)], 300, 1), [(6, None, 2)])

    def test_a_word_put_between_get_and_put(self):
        # The work puts what it got in 0, behind what the machine put there in 1.
        program = (("set", 0, 99), ("put", 4, 0), ("rest", 1), ("get", 1, 4))
        works = [work(many=1, greed="turn")]
        self.assertEqual(sights(program, works, WORDS, [(0, 0)], 300), [(0, 0, 0, None), (None, 3, 4, (2, 0))])
        self.assertEqual(worths(program, works, WORDS, [(0, 0)], 300, 4), [(1, None, 99), (2, 0, 10)])

    def test_a_word_put_as_it_was_counts(self):
        program = (("get", 0, 3), ("put", 3, 0), ("get", 0, 3))
        self.assertEqual(sights(program, [], WORDS, [], 9), [(None, 0, 3, None), (None, 2, 3, (1, None))])
        self.assertEqual(worths(program, [], WORDS, [], 9, 3), [(1, None, 13)])

    def test_work_0_and_beat_0_are_told(self):
        program = (("put", 1, 0), ("get", 0, 1))
        self.assertEqual(sights(program, [work(1, 1, 1)], WORDS, [(1, 0)], 300), [
            (0, 1, 1, (0, None)), (None, 3, 1, (2, 0))])


class Beats(unittest.TestCase):
    program = (("get", 0, 1), ("put", 1, 0), ("go", 0))
    works = [work(1, 1, 1, follow=0, greed="idle")]

    def test_none(self):
        self.assertEqual(sights(self.program, self.works, WORDS, [(0, 0)], 0), [])
        self.assertEqual(worths(self.program, self.works, WORDS, [(0, 0)], 0, 1), [])

    def test_all_up_to_300(self):
        whole = sights(self.program, self.works, WORDS, [(0, 0)], 300)
        puts = worths(self.program, self.works, WORDS, [(0, 0)], 300, 1)
        # Two gets and two puts in six beats.
        self.assertEqual((len(whole), len(puts)), (150, 150))
        self.assertEqual(puts[-1], (299, 0, 11))
        self.assertEqual(whole[:4], [(None, 0, 1, None), (0, 2, 1, (1, None)), (None, 3, 1, (1, None)),
                                     (None, 6, 1, (5, 0))])
        for beats in (1, 2, 5, 150, 299):
            told = sights(self.program, self.works, WORDS, [(0, 0)], beats)
            self.assertEqual(told, [row for row in whole if row[1] < beats])
            told = worths(self.program, self.works, WORDS, [(0, 0)], beats, 1)
            self.assertEqual(told, [row for row in puts if row[0] < beats])

    def test_the_last_word(self):
        for size in (4, 5, 31, 32):
            program = (("set", 0, 5), ("put", size - 1, 0), ("get", 1, size - 1))
            memory = [7] * size
            self.assertEqual(worths(program, [], memory, [], 9, size - 1), [(1, None, 5)])
            self.assertEqual(worths(program, [], memory, [], 9, 0), [])
            self.assertEqual(sights(program, [], memory, [], 9), [(None, 2, size - 1, (1, None))])


def seen_by_the_model(handed, beats):
    """(beat, who, deed, address, word) of each deed of the model."""
    model = Model(*handed)
    rows = []
    for beat in range(beats):
        device, machine = model.beat()
        rows += [(beat,) + device] if device else []
        rows += [(beat, None) + machine] if isinstance(machine, tuple) else []
    return rows


class AsTheModel(unittest.TestCase):
    def halls(self):
        return [random_hall(seed) for seed in range(120)] + [random_pairs(seed) for seed in range(60)]

    def test_sights(self):
        kinds = set()
        for nth, handed in enumerate(self.halls()):
            beats = (300, 0, 77, 299)[nth % 4]
            rows = seen_by_the_model(handed, beats)
            expected = []
            for at, (beat, who, deed, address, word) in enumerate(rows):
                ahead = [row[:2] for row in rows[:at] if row[2:4] == ("put", address)]
                if deed == "get":
                    expected.append((who, beat, address, ahead[-1] if ahead else None))
                    by = (None,) if not ahead else ("machine" if ahead[-1][1] is None else "work",)
                    kinds.add((who is None,) + by)
            self.assertEqual(sights(*handed, beats), expected, nth)
        self.assertEqual(len(kinds), 6)

    def test_worths(self):
        for nth, handed in enumerate(self.halls()):
            beats = (300, 0, 77, 299)[nth % 4]
            rows = seen_by_the_model(handed, beats)
            for address in range(len(handed[2])):
                expected = [(beat, who, word) for beat, who, deed, place, word in rows
                            if (deed, place) == ("put", address)]
                self.assertEqual(worths(*handed, beats, address), expected, nth)

    def test_what_is_got_is_what_was_put_last(self):
        for nth, handed in enumerate(self.halls()):
            told = run(*handed, 300)[0]
            puts = [{(beat, who): word for beat, who, word in worths(*handed, 300, address)}
                    for address in range(len(handed[2]))]
            for who, beat, address, last in sights(*handed, 300):
                did = told[beat][1] if who is None else told[beat][0][1:]
                word = handed[2][address] if last is None else puts[address][last]
                self.assertEqual(did, ("get", address, word), (nth, beat))
