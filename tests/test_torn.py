"""Point 12: goings, torn pairs, torns, first_torn."""

import random
import unittest

from stealbeats.runs import run
from stealbeats.torn import first_torn, torns
from tests.noted import Noted, random_pairs

WORDS = [10, 11, 12, 13, 14, 15, 16, 17]
FOUR = [1, 2, 3, 4]
PAIR = ("pair", 0, 4)
RESTS = (("rest", 9),) * 33  # the beats 0 to 296


def work(begin=0, goal=4, many=2, block=1, greed="all", mark=None, follow=None):
    return (begin, goal, many, block, greed, mark, follow)


# Round four words: 0 is laid twice, the others once.
ROUND = work(goal=0, many=5)


class OneGoing(unittest.TestCase):
    def test_all_between_the_gets(self):
        program = (("rest", 1), PAIR)
        for when in range(6):
            told = torns(program, [work()], WORDS, [(when, 0)], 300)
            self.assertEqual(told, [(1, 6, 0)] if when == 2 else [], when)

    def test_turn(self):
        # Behind a rest of 3, 5 is laid between both gets.
        for rest, told in ((1, []), (2, [(1, 4, 0)]), (3, []), (4, []), (5, [])):
            self.assertEqual(torns((("rest", rest), PAIR), [work(greed="turn")], WORDS, [(0, 0)], 300), told, rest)

    def test_idle(self):
        for rest, told in ((1, []), (2, [(1, 3, 0)]), (3, [(1, 4, 0)]), (4, []), (5, [])):
            self.assertEqual(torns((("rest", rest), PAIR), [work(greed="idle")], WORDS, [(0, 0)], 300), told, rest)

    def test_what_is_laid_between_the_gets_at_the_first_one_does_not_count(self):
        # 4 is laid behind its get, 5 behind its own: both are the elder ones.
        self.assertEqual(torns((PAIR,), [work(greed="turn")], WORDS, [(0, 0)], 300), [])
        # 5 alone is laid ahead of its get, between both.
        told = torns((("pair", 0, 4),), [work(goal=5, many=16)], WORDS, [(1, 0)], 300)
        self.assertEqual(told, [(0, 33, 0)])

    def test_a_pair_held_by_a_mark(self):
        program = (("rest", 1), ("mark", 0), PAIR, ("clear", 0), PAIR)
        self.assertEqual(torns(program, [work(mark=0)], WORDS, [(0, 0)], 300), [(2, 3, 0)])
        self.assertEqual(torns(program, [work(mark=0, block=2)], WORDS, [(0, 0)], 300), [])

    def test_pairs_of_get_and_get_or_lay_are_none(self):
        for rows in ((("get", 0, 4), ("get", 1, 5)), (("lay", 4, 0),), (("put", 4, 0), ("put", 5, 0))):
            self.assertEqual(torns((("rest", 2),) + rows, [work(greed="idle")], WORDS, [(0, 0)], 300), [])

    def test_the_words_do_not_matter(self):
        told = torns((("rest", 2), PAIR), [work(greed="idle")], [7] * 8, [(0, 0)], 300)
        self.assertEqual(told, [(1, 3, 0)])

    def test_a_going_without_end_of_its_own(self):
        # Held off for good behind its first word: torn each time.
        program = (("mark", 0), ("rest", 1), PAIR, ("go", 2))
        told = torns(program, [work(mark=0)], WORDS, [(0, 0)], 20)
        self.assertEqual(told, [(2, beat, 0) for beat in (3, 6, 9, 12, 15, 18)])


class Goals(unittest.TestCase):
    def torn_at(self, address, goal, many, size=8):
        """Whether the pair there is torn behind the first word that is laid."""
        told = torns((("rest", 2), ("pair", 0, address)), [work(goal=goal, many=many, greed="idle")], [5] * size,
                     [(0, 0)], 300)
        self.assertIn(told, ([], [(1, 3, 0)]))
        return told != []

    def test_both_addresses(self):
        self.assertTrue(self.torn_at(4, 4, 2))
        self.assertTrue(self.torn_at(4, 4, 3))
        self.assertTrue(self.torn_at(4, 4, 8))

    def test_one_of_them(self):
        self.assertFalse(self.torn_at(4, 4, 1))
        self.assertFalse(self.torn_at(3, 4, 2))
        self.assertFalse(self.torn_at(5, 4, 2))
        self.assertFalse(self.torn_at(3, 4, 7))
        self.assertTrue(self.torn_at(3, 4, 8))

    def test_none_of_them(self):
        self.assertFalse(self.torn_at(0, 4, 3))
        self.assertFalse(self.torn_at(6, 4, 2))

    def test_both_but_neither_laid(self):
        self.assertFalse(self.torn_at(5, 4, 3))

    def test_by_the_rest(self):
        self.assertTrue(self.torn_at(12, 4, 2))
        self.assertTrue(self.torn_at(4, 28, 2))
        self.assertTrue(self.torn_at(28, 12, 2))
        self.assertFalse(self.torn_at(12, 4, 1))
        self.assertTrue(self.torn_at(7, 7, 2))
        self.assertTrue(self.torn_at(31, 31, 2, 32))
        self.assertTrue(self.torn_at(31, 31, 2, 31))
        self.assertTrue(self.torn_at(0, 31, 2, 31))
        self.assertFalse(self.torn_at(0, 31, 1, 31))
        self.assertTrue(self.torn_at(31, 3, 2, 4))

    def test_the_second_address_laid_first(self):
        # 8 words from 5 on: 5 is laid first, 4 last.
        self.assertTrue(self.torn_at(4, 5, 8))
        self.assertFalse(self.torn_at(4, 5, 7))


class Round(unittest.TestCase):
    def test_one_twice(self):
        program = (("rest", 9), ("rest", 1), ("pair", 0, 0), ("pair", 0, 1), ("pair", 0, 2), ("pair", 0, 3))
        self.assertEqual(torns(program, [ROUND], FOUR, [(0, 0)], 300), [(2, 11, 0), (5, 17, 0)])

    def test_all_as_often(self):
        program = (("rest", 9),) * 4 + (("pair", 0, 0), ("pair", 0, 1), ("pair", 0, 2), ("pair", 0, 3))
        for many, rows in ((4, []), (5, [4, 7]), (6, [5, 7]), (7, [6, 7]), (8, []), (15, [6, 7]), (16, [])):
            told = torns(program, [work(goal=0, many=many)], FOUR, [(0, 0)], 300)
            self.assertEqual([row for row, beat, who in told], rows, many)

    def test_in_the_midst(self):
        # A round, and one word more of the second one: 0 was laid twice, 1 once.
        for rest, told in ((8, []), (9, []), (10, [(2, 11, 0)]), (12, [])):
            program = (("rest", 1), ("rest", rest - 1)) if rest < 11 else (("rest", 9), ("rest", rest - 9))
            program += (("pair", 0, 0), ("rest", 9))
            self.assertEqual(torns(program, [work(goal=0, many=8, greed="idle")], FOUR, [(0, 0)], 300), told, rest)

    def test_long_behind_its_end(self):
        program = RESTS[:30] + (("pair", 0, 0),)
        self.assertEqual(torns(program, [ROUND], FOUR, [(0, 0)], 300), [(30, 271, 0)])


class SeveralGoings(unittest.TestCase):
    program = (("rest", 9),) * 4 + (("pair", 0, 0),)

    def test_one_work_begun_anew(self):
        for asks, many in (([(0, 0)], 1), ([(0, 0), (10, 0)], 2), ([(0, 0), (9, 0)], 1), ([(0, 0), (10, 0), (20, 0)], 3)):
            self.assertEqual(torns(self.program, [ROUND], FOUR, asks, 300), [(4, 37, 0)] * many, asks)

    def test_one_of_two_goings(self):
        # The first one is over, the second one is in its midst.
        program = (("rest", 9), ("rest", 3), PAIR)
        told = torns(program, [work(greed="idle")], WORDS, [(0, 0), (10, 0)], 300)
        self.assertEqual(told, [(2, 13, 0)])
        self.assertEqual(torns(program, [work(greed="idle")], WORDS, [(0, 0), (8, 0)], 300), [])

    def test_two_goings_that_together_laid_as_often(self):
        # One laid 0 twice and 1 once, the other 1 twice and 0 once: the pair is torn by each.
        works = [ROUND, work(goal=1, many=5)]
        self.assertEqual(torns(self.program, works, FOUR, [(0, 0), (10, 1)], 300), [(4, 37, 0), (4, 37, 1)])

    def test_by_their_beginning(self):
        works = [ROUND, ROUND, ROUND]
        for asks in ([(0, 0), (10, 1), (20, 2)], [(0, 2), (10, 1), (20, 0)], [(0, 1), (10, 2), (20, 1)]):
            told = torns(self.program, works, FOUR, asks, 300)
            self.assertEqual(told, [(4, 37, who) for beat, who in asks])

    def test_by_their_beginning_and_not_by_their_end(self):
        # Work 1 begins first, but work 0 takes the beats ahead of it.
        told = torns(self.program, [ROUND, ROUND], FOUR, [(0, 1), (1, 0)], 300)
        self.assertEqual(told, [(4, 37, 1), (4, 37, 0)])

    def test_begun_in_one_beat(self):
        # In turn: asked from outside, then the next one of a work that is over, then asked by a row.
        told = torns(self.program, [ROUND, ROUND], FOUR, [(0, 1), (0, 0)], 300)
        self.assertEqual(told, [(4, 37, 1), (4, 37, 0)])
        works = [ROUND, ROUND, work(many=1, follow=1), ROUND]
        program = (("rest", 1), ("ask", 0)) + (("rest", 9),) * 5 + (("pair", 0, 0),)
        self.assertEqual(torns(program, works, FOUR, [(0, 2), (1, 3)], 300), [(7, 48, 3), (7, 48, 1), (7, 48, 0)])

    def test_a_work_that_is_its_own_next(self):
        works = [work(goal=0, many=5, greed="idle", follow=0)]
        # Three goings are over behind 30 beats, a fourth one laid 0, 1 and 2 behind 36.
        self.assertEqual(torns(self.program, works, FOUR, [(0, 0)], 300), [(4, 37, 0)] * 3)
        program = (("rest", 9),) * 3 + (("rest", 5),) + (("pair", 0, 0),)
        self.assertEqual(torns(program, works, FOUR, [(0, 0)], 300), [(4, 33, 0)] * 4)

    def test_over_and_asked_by_a_row_in_one_beat(self):
        program = (("rest", 9), ("ask", 0), ("rest", 9), ("rest", 1), ("pair", 0, 0))
        self.assertEqual(torns(program, [ROUND], FOUR, [(0, 0)], 300), [(4, 21, 0)] * 2)

    def test_in_turn(self):
        program = (("rest", 2), PAIR, ("pair", 0, 12), ("rest", 2), PAIR)
        self.assertEqual(torns(program, [work(greed="idle")], WORDS, [(0, 0)], 300), [(1, 3, 0), (2, 5, 0)])

    def test_rows_that_are_done_again(self):
        program = (("pair", 0, 4), ("go", 0))
        told = torns(program, [work(greed="idle", many=2)], WORDS, [(0, 0)], 300)
        # Gets in 2, 8; lays in 5, 11: from the beat 6 on till 11 only 4 is laid.
        self.assertEqual(told, [(0, 7, 0), (0, 10, 0)])

    def test_rows_that_an_if_does_again(self):
        program = (("set", 3, 1), ("pair", 0, 4), ("if", 3, 1))
        told = torns(program, [work(greed="idle", many=2)], WORDS, [(0, 0)], 300)
        # Beat 0 and each third one from 3 on are no pair's: get 0, lay 3, get 6, lay 9.
        self.assertEqual(told, [(1, 5, 0), (1, 8, 0)])


class Beats(unittest.TestCase):
    def test_within_so_many_beats(self):
        program = (("rest", 1), PAIR)
        for beats in range(12):
            told = torns(program, [work()], WORDS, [(2, 0)], beats)
            self.assertEqual(told, [(1, 6, 0)] if beats > 6 else [], beats)

    def test_none_within_no_beats(self):
        self.assertEqual(torns((PAIR,), [work()], WORDS, [(0, 0)], 0), [])

    def test_the_last_beat(self):
        for rest, told in ((1, [(34, 299, 0)]), (2, [])):
            program = RESTS + (("rest", rest), ("pair", 0, 0))
            self.assertEqual(torns(program, [ROUND], FOUR, [(0, 0)], 300), told)
            self.assertEqual(torns(program, [ROUND], FOUR, [(0, 0)], 299), [])


class FirstTorn(unittest.TestCase):
    def test_the_least_beat(self):
        program = (("rest", 1), PAIR)
        for low, high, told in ((0, 40, 2), (0, 2, 2), (2, 2, 2), (2, 42, 2), (0, 1, None), (3, 43, None), (1, 1, None)):
            self.assertEqual(first_torn(program, [work()], WORDS, 0, low, high), told, (low, high))

    def test_several_beats(self):
        # The second get is done in 11 beside a work by idle: torn, if one word alone is laid by then.
        program = (("rest", 9), ("rest", 1), PAIR)
        for low, high, told in ((0, 40, 7), (7, 8, 7), (8, 20, 8), (9, 9, None), (0, 6, None)):
            self.assertEqual(first_torn(program, [work(greed="idle")], WORDS, 0, low, high), told, (low, high))

    def test_the_last_beat_that_may_be(self):
        program = (("rest", 9),) * 22 + (("rest", 1), PAIR)  # got in 199 and 200
        for low, high, told in ((200, 200, 200), (160, 200, 200), (160, 199, None)):
            self.assertEqual(first_torn(program, [work()], WORDS, 0, low, high), told)

    def test_near_the_300th_beat(self):
        for rest, told in ((1, 160), (2, None)):
            program = RESTS + (("rest", rest), ("pair", 0, 0))
            self.assertEqual(first_torn(program, [ROUND], FOUR, 0, 160, 200), told)

    def test_a_pair_torn_by_another_work(self):
        # Work 1 is the next one of that which is asked; or it is asked by a row, whatever is asked.
        works = [work(goal=0, many=1, follow=1), work()]
        self.assertEqual(first_torn((("rest", 1), PAIR), works, WORDS, 0, 0, 9), 2)
        program = (("ask", 1), ("rest", 2), PAIR)
        self.assertEqual(first_torn(program, [work(goal=0), work(greed="idle")], WORDS, 0, 30, 40), 30)

    def test_only_the_work_of_the_window_is_asked(self):
        works = [work(goal=0), work()]
        self.assertEqual(first_torn((("rest", 1), PAIR), works, WORDS, 0, 0, 9), None)
        self.assertEqual(first_torn((("rest", 1), PAIR), works, WORDS, 1, 0, 9), 2)

    def test_without_pairs(self):
        self.assertIsNone(first_torn((("rest", 1),), [work()], WORDS, 0, 0, 40))

    def test_crooked_programs(self):
        self.assertEqual(first_torn((PAIR, ("go", 0)), [work()], WORDS, 0, 0, 40), 1)
        self.assertEqual(first_torn((PAIR, ("go", 0)), [work()], WORDS, 0, 2, 40), 4)


class AsTheModel(unittest.TestCase):
    def test_torns(self):
        seen = twice = 0
        for seed in range(250):
            handed = random_pairs(seed)
            for beats in (0, 1, 23, 299, 300):
                told = torns(*handed, beats)
                self.assertEqual(told, Noted(*handed, beats).torns(), (seed, beats))
            seen += told != []
            twice += len(set(told)) < len(told)
        self.assertGreater(seen, 80)
        self.assertGreater(twice, 30)

    def test_first_torn(self):
        chance = random.Random(9)
        some = none = 0
        for seed in range(120):
            program, works, memory, asks = random_pairs(seed)
            who, low = chance.randrange(len(works)), chance.randint(0, 30)
            high = low + chance.choice((0, 3, 10, 40))
            beats = (when for when in range(low, high + 1) if Noted(program, works, memory, [(when, who)]).torns())
            told = first_torn(program, works, memory, who, low, high)
            self.assertEqual(told, next(beats, None), seed)
            some += told not in (None, low)
            none += told is None
        self.assertGreater(some, 3)
        self.assertGreater(none, 20)


class WhatIsGot(unittest.TestCase):
    """A pair that isn't told as torn is the elder one, or the one that the work lays; one that is, is neither."""

    def test_one_work_beside_pairs(self):
        torn = whole = 0
        for greed in ("all", "turn", "idle"):
            for many in (2, 3):
                for when in range(30):
                    program = (("rest", 2), PAIR, ("rest", 5), PAIR, PAIR, ("rest", 1), ("go", 1))
                    handed = program, [work(many=many, greed=greed)], WORDS, [(when, 0)]
                    got = [(beat, did[2]) for beat, (device, did) in enumerate(run(*handed, 300)[0])
                           if isinstance(did, tuple)]
                    beats = [beat for row, beat, who in torns(*handed, 300)]
                    for (one, first), (two, second) in zip(got[::2], got[1::2]):
                        alike = (first, second) in ((14, 15), (10, 11))
                        self.assertEqual(two not in beats, alike, (greed, when, two))
                        torn += not alike
                        whole += alike
        self.assertGreater(torn, 20)
        self.assertGreater(whole, 1000)
