"""Point 13: what may be leaned on, claim by claim."""

import random
import unittest

from stealbeats.leans import leans
from stealbeats.torn import first_torn
from tests.noted import Noted, random_claim, random_pairs

WORDS = [10, 11, 12, 13, 14, 15, 16, 17]
GET = ("get", 0, 7)
PAIR = ("pair", 0, 4)
RESTS = (("rest", 9),) * 33  # the beats 0 to 296


def work(begin=0, goal=4, many=2, block=1, greed="all", mark=None, follow=None):
    return (begin, goal, many, block, greed, mark, follow)


class Leans(unittest.TestCase):
    def told(self, program, works, window, claim, memory=WORDS, who=0):
        return leans(program, works, memory, who, window[0], window[1], claim)

    def check(self, program, works, claim, rows, memory=WORDS, who=0):
        for window, told in rows:
            self.assertEqual(self.told(program, works, window, claim, memory, who), told, (window, claim))


class Over(Leans):
    def test_at_the_least_a_middle_and_the_last_beat(self):
        # The row is done in 8; the work is over three beats behind that in which it is asked.
        program = (("rest", 9), GET)
        self.check(program, [work()], ("over", 0, 0), (
            ((0, 40), 6), ((6, 46), 6), ((6, 6), 6), ((0, 6), 6), ((8, 8), 8), ((7, 40), 7),
            ((0, 5), None), ((5, 5), None), ((9, 49), None), ((9, 9), None)))

    def test_a_work_that_makes_the_row_wait_is_over_behind_it(self):
        self.check((GET,), [work()], ("over", 0, 0), (((0, 40), None),))
        self.check((GET,), [work(greed="turn")], ("over", 0, 0), (((0, 40), 0), ((1, 40), None)))
        self.check((GET,), [work(greed="idle")], ("over", 0, 0), (((0, 40), 0), ((1, 40), None)))

    def test_a_work_that_begins_in_that_beat(self):
        self.check((("rest", 4),), [work()], ("over", 0, 0), (((3, 3), 3), ((4, 4), None)))

    def test_the_row_that_asks(self):
        self.check((("ask", 0),), [work()], ("over", 0, 0), (((5, 9), 5),))
        self.check((("ask", 1),), [work()], ("over", 0, 0), (((5, 9), None),))

    def test_another_work(self):
        works = [work(many=1), work(many=1), work(many=1, follow=1)]
        program = (("rest", 9), GET)
        self.check(program, works, ("over", 1, 0), (((0, 40), None),))
        # Work 2 is asked, and work 1 begins in the beat in which that is over.
        self.check(program, works, ("over", 1, 0), (((0, 40), 6), ((7, 9), 7), ((8, 40), None)), who=2)
        self.check(program, works, ("over", 2, 0), (((0, 40), 8), ((9, 49), None)), who=2)

    def test_a_work_that_is_over_and_its_own_next(self):
        self.check((("rest", 9),), [work(many=1, follow=0)], ("over", 0, 0), (((7, 7), 7), ((9, 9), None)))

    def test_a_work_asked_by_a_row_as_well(self):
        program = (("ask", 0), ("rest", 4), ("rest", 1))
        # Begun in 0 by the row, over in 4: then the rest is done; a beat from 5 on begins it anew.
        self.check(program, [work()], ("over", 0, 1), (((1, 40), None), ((0, 0), None)))
        self.check(program, [work()], ("over", 0, 2), (((1, 40), 5), ((6, 40), None)))

    def test_the_row_is_done_more_than_once(self):
        program = (("rest", 9), ("go", 0))
        self.check(program, [work()], ("over", 0, 0), (((9, 49), None), ((0, 40), 6)))
        self.check(program, [work()], ("over", 0, 1), (((0, 40), 7), ((10, 40), None)))

    def test_rows_that_are_never_done(self):
        endless = [work(many=1, follow=0)]
        self.check((("end",), GET), endless, ("over", 0, 1), (((0, 40), None),))
        self.check((GET,), endless, ("over", 0, 0), (((0, 0), None), ((0, 40), None)))
        self.check((("rest", 1), ("go", 0), GET), endless, ("over", 0, 2), (((0, 40), None),))

    def test_the_last_beat_of_all(self):
        endless = [work(many=1, follow=0)]
        for rest, told in ((3, 200), (4, None)):
            program = RESTS + (("rest", rest),)
            self.check(program, endless, ("over", 0, 33), (((200, 200), told),))

    def test_the_last_row_and_the_last_work(self):
        program = (("rest", 1),) * 39 + (("rest", 9),)
        works = [work(many=16)] * 6
        self.check(program, works, ("over", 5, 39), (((10, 50), 17), ((10, 16), None), ((47, 47), 47), ((48, 88), None)), who=5)


class Whole(Leans):
    def test_at_the_least_a_middle_and_the_last_beat(self):
        self.check((("rest", 1), PAIR), [work()], ("whole", 1), (
            ((0, 40), 2), ((2, 42), 2), ((2, 2), 2), ((0, 2), 2), ((0, 1), None), ((3, 43), None)))

    def test_this_row_alone(self):
        program = (PAIR, ("rest", 8), PAIR, ("pair", 0, 0))
        # Torn are the pairs between whose gets the work is asked.
        self.check(program, [work()], ("whole", 0), (((0, 40), 1), ((2, 40), None)))
        self.check(program, [work()], ("whole", 2), (((0, 40), 11), ((12, 40), None), ((0, 10), None)))
        self.check(program, [work()], ("whole", 3), (((0, 40), None),))

    def test_each_time_that_it_is_done(self):
        program = (PAIR, ("rest", 8), ("go", 0))
        self.check(program, [work()], ("whole", 0), (((0, 40), 1), ((2, 40), 12), ((13, 40), 23), ((24, 33), None)))

    def test_by_another_work(self):
        works = [work(goal=0), work(greed="idle")]
        self.check((("ask", 1), ("rest", 2), PAIR), works, ("whole", 2), (((30, 40), 30),))

    def test_rows_that_are_never_done(self):
        self.check((("end",), PAIR), [work()], ("whole", 1), (((0, 40), None),))
        self.check((PAIR,), [work(many=1, follow=0)], ("whole", 0), (((0, 40), None),))

    def test_the_last_beat_of_all(self):
        for rest, told in ((1, 100), (2, None)):
            program = RESTS + (("rest", rest), ("pair", 0, 0))
            self.check(program, [work(goal=0, many=5)], ("whole", 34), (((100, 140), told),), memory=[1, 2, 3, 4])

    def test_as_first_torn_where_there_is_one_pair(self):
        chance = random.Random(2)
        for turn in range(60):
            program = (("rest", chance.randint(1, 9)), ("ask", 1), ("pair", 0, chance.randint(3, 6)), ("rest", 5))
            program += (("go", chance.randrange(4)),) * chance.randint(0, 1)
            greeds = [chance.choice(("all", "turn", "idle")) for k in range(2)]
            works = [work(greed=greeds[0], many=chance.randint(1, 9)), work(greed=greeds[1], mark=0)]
            low = chance.randint(0, 12)
            self.assertEqual(leans(program, works, WORDS, 0, low, low + 20, ("whole", 2)),
                             first_torn(program, works, WORDS, 0, low, low + 20))


class Kept(Leans):
    # Done in the beats 0, 9, 10, 19, 20.
    program = (("set", 0, 1), ("rest", 9), ("set", 0, 1), ("rest", 9), ("set", 0, 1), ("end",), ("set", 0, 1))

    def test_at_the_least_a_middle_and_the_last_beat(self):
        # A word, laid at 4 in the beat behind that in which the work is asked.
        self.check(self.program, [work(many=1)], ("kept", 4, 4, 1, 2), (
            ((0, 40), 9), ((9, 49), 9), ((9, 9), 9), ((0, 9), 9), ((0, 8), None), ((8, 8), None), ((10, 50), None)))

    def test_behind_one_and_up_to_other(self):
        claim = ("kept", 4, 4, 1, 3)  # the beats 10 to 19
        self.check(self.program, [work(many=1)], claim, (
            ((8, 8), None), ((9, 9), 9), ((18, 18), 18), ((19, 19), None), ((12, 40), 12)))

    def test_addresses(self):
        for low, high, told in ((4, 4, 9), (3, 5, 9), (0, 31, 9), (0, 4, 9), (4, 31, 9), (5, 5, 9), (6, 6, None),
                                (0, 3, None), (6, 31, None), (5, 31, 9), (0, 0, None), (31, 31, None)):
            # Laid at 4 in 10, at 5 in 12.
            self.check(self.program, [work()], ("kept", low, high, 1, 3), (((9, 9), told),))

    def test_addresses_by_the_rest_and_edges_that_stand_as_they_are(self):
        five = [1, 2, 3, 4, 5]
        for low, high, told in ((4, 4, 9), (9, 9, None), (5, 31, None), (0, 31, 9), (0, 3, None), (4, 9, 9)):
            self.check(self.program, [work(goal=9, many=1)], ("kept", low, high, 1, 3), (((9, 9), told),), memory=five)
        for low, high, told in ((31, 31, 9), (0, 30, None)):
            self.check(self.program, [work(goal=31, many=1)], ("kept", low, high, 1, 3), (((9, 9), told),),
                       memory=[0] * 32)
        self.check(self.program, [work(goal=31, many=1)], ("kept", 31, 31, 1, 3), (((9, 9), None),), memory=[0] * 31)
        self.check(self.program, [work(goal=31, many=1)], ("kept", 0, 0, 1, 3), (((9, 9), 9),), memory=[0] * 31)

    def test_gets_are_no_puts(self):
        self.check(self.program, [work(begin=2, goal=4, many=1)], ("kept", 2, 2, 0, 4), (((0, 40), None),))

    def test_puts_of_the_machine_do_not_count(self):
        program = (("set", 0, 1), ("put", 4, 0), ("lay", 4, 0), ("putx", 0, 0), ("end",))
        self.check(program, [work(goal=20, many=1)], ("kept", 0, 31, 0, 3), (((20, 40), None),), memory=[0] * 32)

    def test_puts_of_any_work(self):
        program = (("ask", 1), ("rest", 3))
        works = [work(goal=0, many=1), work(goal=6, many=1)]
        self.check(program, works, ("kept", 6, 6, 0, 1), (((20, 40), 20),))
        self.check(program, works, ("kept", 0, 5, 0, 1), (((20, 40), None),))

    def test_other_ahead_of_one_or_the_same(self):
        for one, other in ((1, 1), (3, 1), (4, 0), (3, 0), (0, 0)):
            self.check(self.program, [work(many=16)], ("kept", 0, 31, one, other), (((0, 40), None),))

    def test_one_that_is_never_done(self):
        self.check(self.program, [work(many=16)], ("kept", 0, 31, 6, 5), (((0, 40), None),))
        self.check(self.program, [work(many=16)], ("kept", 0, 31, 6, 6), (((0, 40), None),))
        self.check((GET, ("set", 0, 0)), [work(many=1, follow=0)], ("kept", 0, 31, 0, 1), (((0, 0), None),))

    def test_other_that_is_never_done(self):
        self.check(self.program, [work(many=1)], ("kept", 4, 4, 5, 6), (((200, 200), 200), ((0, 40), 21), ((0, 21), 21)))
        self.check(self.program, [work(many=1)], ("kept", 4, 4, 5, 6), (((0, 20), None),))

    def test_up_to_the_last_beat_of_all(self):
        # Behind the rests the mark is cleared: in 297, or 298; then the word is got, then laid.
        for rest, told in ((0, 100), (1, None)):
            middle = (("rest", rest),) * rest
            program = (("mark", 0),) + RESTS[:-1] + (("rest", 8),) + middle + (("clear", 0), ("end",), ("end",))
            other = len(program) - 1
            self.check(program, [work(many=1, mark=0)], ("kept", 4, 4, 0, other), (((100, 140), told),))

    def test_rows_that_are_done_more_than_once(self):
        # Rows 0 and 1 are done first in 3 and 4; what is laid behind, up to their second time, is no matter.
        program = (("rest", 4), ("rest", 1), ("go", 0))
        self.check(program, [work(many=1)], ("kept", 4, 4, 0, 1), (((0, 40), 3), ((4, 40), None)))
        self.check(program, [work(many=1)], ("kept", 4, 4, 1, 0), (((0, 40), None),))

    def test_a_wait_of_other(self):
        # The get is done behind the work, so all that it lays is ahead of that.
        self.check((("set", 0, 0), GET), [work()], ("kept", 5, 5, 0, 1), (((0, 40), 0), ((1, 1), 1), ((2, 40), None)))


class AsTheModel(unittest.TestCase):
    def test_claims(self):
        chance = random.Random(4)
        some, none, kinds = 0, 0, {}
        for seed in range(300):
            program, works, memory, asks = random_pairs(seed)
            claim = random_claim(chance, program, works)
            who, low = chance.randrange(len(works)), chance.choice((0, 0, 4, chance.randint(0, 150)))
            high = low + chance.choice((0, 9, 12, 40))
            broken = (when for when in range(low, high + 1)
                      if not Noted(program, works, memory, [(when, who)]).holds(claim))
            told = leans(program, works, memory, who, low, high, claim)
            self.assertEqual(told, next(broken, None), (seed, claim))
            some += told not in (None, low)
            none += told is None
            kinds[claim[0]] = kinds.get(claim[0], 0) + (told is not None)
        self.assertGreater(some, 10)
        self.assertGreater(none, 20)
        self.assertGreater(min(kinds.values()), 8, kinds)
