"""Point 11: times, overs, spread, by hand and as halls of several words do."""

import random
import unittest

from stealbeats.ahead import overs, spread, times
from stealbeats.hall import Hall
from tests.noted import Noted, random_straight

GET = ("get", 0, 7)
RESTS = (("rest", 9),) * 33  # done in the beats 8, 17 .. 296
REST_TIMES = list(range(8, 297, 9))


def work(begin=0, goal=4, many=2, block=1, greed="all", mark=None, follow=None):
    return (begin, goal, many, block, greed, mark, follow)


class Rows(unittest.TestCase):
    def test_each_kind_of_row(self):
        program = (("set", 0, 1), ("add", 0, 1), ("less", 0, 1), ("get", 0, 1), ("put", 1, 0), ("getx", 0, 1),
                   ("putx", 1, 0), ("pair", 0, 1), ("lay", 1, 0), ("ask", 3), ("done", 0, 3), ("mark", 1),
                   ("clear", 1), ("rest", 9), ("rest", 1), ("end",))
        self.assertEqual(times(program, [], []), [0, 1, 2, 3, 4, 5, 6, 8, 10, 11, 12, 13, 14, 23, 24, 25])
        self.assertEqual(overs(program, [], []), [])

    def test_each_kind_of_row_beside_a_work_that_takes_all(self):
        # The work, 6 beats from beat 2 on, delays only what is for a word.
        for row, beats in ((("set", 0, 1), 2), (("add", 0, 1), 2), (("less", 0, 1), 2), (("get", 0, 1), 8),
                           (("put", 1, 0), 8), (("getx", 0, 1), 8), (("putx", 1, 0), 8), (("pair", 0, 1), 9),
                           (("lay", 1, 0), 9), (("ask", 0), 2), (("done", 0, 0), 2), (("mark", 0), 2),
                           (("clear", 0), 2), (("rest", 3), 4), (("end",), 2)):
            self.assertEqual(times((("rest", 2), row), [work(many=3)], [(2, 0)]), [1, beats], row)
            self.assertEqual(overs((("rest", 2), row), [work(many=3)], [(2, 0)]), [7], row)

    def test_rows_behind_an_end(self):
        self.assertEqual(times((GET, ("end",), GET, ("end",)), [], []), [0, 1, None, None])

    def test_a_single_row(self):
        self.assertEqual(times((("end",),), [], []), [0])
        self.assertEqual(times((("pair", 0, 0),), [], []), [1])

    def test_the_last_beat_and_the_one_behind_it(self):
        for rest, row, told in ((2, GET, 299), (3, GET, None), (1, ("pair", 0, 0), 299), (2, ("pair", 0, 0), None),
                                (1, ("lay", 0, 0), 299), (2, ("lay", 0, 0), None), (1, ("rest", 2), 299),
                                (1, ("rest", 3), None), (2, ("end",), 299), (3, ("end",), None)):
            program = RESTS + (("rest", rest), row, ("set", 0, 0))
            self.assertEqual(times(program, [], []), REST_TIMES + [296 + rest, told, None], (rest, row))

    def test_the_last_beat_with_waits(self):
        for many, told in ((1, [299, None]), (2, [None, None])):
            self.assertEqual(times(RESTS + (GET, GET), [work(many=many)], [])[33:], [297, 298])
            program = RESTS[:-1] + (("rest", 8), ("ask", 0), GET, GET)
            self.assertEqual(times(program, [work(many=many)], [])[34:], told)


class Greeds(unittest.TestCase):
    def test_all(self):
        self.assertEqual(times((GET, GET), [work()], [(0, 0)]), [4, 5])
        self.assertEqual(overs((GET, GET), [work()], [(0, 0)]), [3])

    def test_turn(self):
        program = (GET, GET, ("rest", 1))
        self.assertEqual(times(program, [work(greed="turn")], [(0, 0)]), [1, 3, 4])
        self.assertEqual(overs(program, [work(greed="turn")], [(0, 0)]), [5])

    def test_idle(self):
        program = (GET, ("rest", 2), GET, ("end",))
        self.assertEqual(times(program, [work(greed="idle")], [(0, 0)]), [0, 2, 3, 4])
        self.assertEqual(overs(program, [work(greed="idle")], [(0, 0)]), [5])

    def test_a_pair_that_waits_between_its_gets(self):
        self.assertEqual(times((("pair", 0, 0), GET), [work(many=1)], [(1, 0)]), [3, 4])

    def test_several_works(self):
        works = [work(many=1, greed="idle"), work(many=1), work(many=1, greed="turn")]
        # Work 1 takes 0 and 1, work 0 the rest in 3 and 4; so work 2, by turn, gets in 6 and lays in 8.
        program = (GET, ("rest", 2), GET, GET)
        asks = [(0, 1), (0, 0), (2, 2)]
        self.assertEqual(times(program, works, asks), [2, 4, 5, 7])
        self.assertEqual(overs(program, works, asks), [4, 1, 8])


class MarksAndChains(unittest.TestCase):
    def test_a_mark_holds_off_ahead_of_a_block_alone(self):
        program = (("mark", 0), ("rest", 9), ("clear", 0), GET, GET)
        works = [work(many=3, block=2, mark=0)]
        self.assertEqual(times(program, works, [(0, 0)]), [0, 9, 10, 13, 14])
        self.assertEqual(overs(program, works, [(0, 0)]), [12])

    def test_blocks(self):
        program = (("mark", 1), ("rest", 9), ("rest", 9), ("end",))
        for block, over in ((1, None), (2, None), (3, None), (4, 7)):
            self.assertEqual(overs(program, [work(many=4, block=block, mark=1)], [(1, 0)]), [None])
            self.assertEqual(overs(program, [work(many=4, block=block, mark=1)], [(0, 0)]), [over])

    def test_a_mark_that_is_never_cleared(self):
        program = (("mark", 2), ("rest", 9), GET)
        self.assertEqual(overs(program, [work(mark=2)], [(5, 0)]), [None])
        self.assertEqual(times(program, [work(mark=2)], [(5, 0)]), [0, 9, 10])

    def test_a_chain(self):
        works = [work(many=1, follow=1), work(many=1)]
        self.assertEqual(times((GET,), works, [(0, 0)]), [4])
        self.assertEqual(overs((GET,), works, [(0, 0)]), [1, 3])
        self.assertEqual(overs((GET,), works, [(0, 1)]), [None, 1])

    def test_a_chain_without_end(self):
        for follows in ((0, None), (1, 0)):
            works = [work(many=1, follow=follows[0]), work(many=1, follow=follows[1])]
            self.assertEqual(times((("rest", 5), GET, ("rest", 1)), works, [(4, 0)]), [4, None, None])
            self.assertEqual(overs((GET,), works, [(4, 0)]), [5, 7 if follows[0] else None])

    def test_a_chain_without_end_by_turn(self):
        works = [work(many=1, greed="turn", follow=0)]
        self.assertEqual(times((GET,) * 4, works, [(0, 0)]), [1, 3, 5, 7])
        self.assertEqual(overs((GET,) * 4, works, [(0, 0)]), [2])

    def test_a_chain_without_end_by_idle(self):
        works = [work(many=1, greed="idle", follow=0)]
        self.assertEqual(times((GET,) * 4, works, [(0, 0)]), [0, 1, 2, 3])
        self.assertEqual(overs((GET,) * 4, works, [(0, 0)]), [5])


class Asks(unittest.TestCase):
    def test_asked_by_a_row(self):
        self.assertEqual(times((("ask", 0), GET), [work(many=1)], []), [0, 3])
        self.assertEqual(overs((("ask", 0), GET), [work(many=1)], []), [2])

    def test_a_work_that_there_is_none_of(self):
        self.assertEqual(times((("ask", 1), GET), [work(many=1)], []), [0, 1])
        self.assertEqual(overs((("ask", 1), GET), [work(many=1)], []), [None])

    def test_asked_while_it_is_on(self):
        self.assertEqual(times((("ask", 0), ("ask", 0), GET), [work(many=2)], [(0, 0), (2, 0)]), [0, 1, 4])

    def test_over_more_than_once(self):
        self.assertEqual(overs((("end",),), [work(many=1)], [(3, 0), (5, 0), (9, 0)]), [4])
        self.assertEqual(overs((("rest", 6), ("ask", 0)), [work(many=1)], [(3, 0)]), [4])
        self.assertEqual(overs((("rest", 1), ("ask", 0)), [work(many=1)], [(13, 0)]), [3])

    def test_never_begun_and_begun_too_late(self):
        self.assertEqual(overs((("end",),), [work(), work()], [(0, 1)]), [None, 3])
        self.assertEqual(overs(RESTS + (("ask", 0),), [work(many=1)], []), [299])
        self.assertEqual(overs(RESTS + (("rest", 1), ("ask", 0)), [work(many=1)], []), [None])
        self.assertEqual(overs(RESTS + (("rest", 3), ("ask", 0)), [work(many=1)], []), [None])

    def test_the_last_ask(self):
        self.assertEqual(overs((("end",),), [work(many=16)], [(200, 0)]), [231])


class Spread(unittest.TestCase):
    def test_one_beat(self):
        program = (GET, GET, GET)
        for when in (0, 1, 2, 3, 200):
            told = times(program, [work(many=1)], [(when, 0)])
            self.assertEqual(spread(program, [work(many=1)], 0, when, when), [(beat, beat) for beat in told])

    def test_41_beats(self):
        program = (GET, GET, GET)
        self.assertEqual(spread(program, [work(many=1)], 0, 0, 40), [(0, 2), (1, 3), (2, 4)])
        self.assertEqual(spread(program, [work(many=1)], 0, 1, 41), [(0, 0), (1, 3), (2, 4)])
        self.assertEqual(spread(program, [work(many=1)], 0, 2, 42), [(0, 0), (1, 1), (2, 4)])
        self.assertEqual(spread(program, [work(many=1)], 0, 3, 43), [(0, 0), (1, 1), (2, 2)])

    def test_each_beat_of_the_window_counts(self):
        # The least beat alone, or the last one alone, makes the get wait.
        program = (("rest", 9), GET)
        for low, high, told in ((9, 9, (11, 11)), (9, 40, (9, 11)), (0, 9, (9, 11)), (0, 8, (9, 10)), (0, 7, (9, 9)),
                                (10, 50, (9, 9)), (8, 8, (10, 10)), (8, 9, (10, 11))):
            self.assertEqual(spread(program, [work(many=1)], 0, low, high), [(8, 8), told], (low, high))

    def test_at_the_last_beat_that_may_be(self):
        program = (("rest", 9),) * 22 + (GET,) * 4
        self.assertEqual(spread(program, [work(many=1)], 0, 160, 200)[22:],
                         [(198, 200), (199, 201), (200, 202), (201, 203)])
        self.assertEqual(spread(program, [work(many=1)], 0, 200, 200)[22:],
                         [(198, 198), (199, 199), (202, 202), (203, 203)])

    def test_done_for_some_beats_alone_and_for_none(self):
        works = [work(many=1, follow=0)]
        self.assertEqual(spread((GET, GET, GET), works, 0, 1, 2), [(0, 0), (1, None), (None, None)])
        self.assertEqual(spread((GET, GET, GET), works, 0, 0, 40), [(0, None), (1, None), (2, None)])
        self.assertEqual(spread((GET, ("end",), GET), [work()], 0, 5, 9), [(0, 0), (1, 1), (None, None)])

    def test_a_work_that_rows_ask_too(self):
        program = (("ask", 0), GET, ("rest", 3), GET)
        # Asked at 0: on already, when the row asks. At 1 to 4: done anew from 3 on, or not at all.
        told = [times(program, [work(many=1)], [(when, 0)]) for when in range(9)]
        self.assertEqual(told, [[0, 2, 5, 6], [0, 3, 6, 7], [0, 3, 6, 7], [0, 5, 8, 9], [0, 3, 6, 7], [0, 3, 6, 7],
                                [0, 3, 6, 8], [0, 3, 6, 9], [0, 3, 6, 7]])
        self.assertEqual(spread(program, [work(many=1)], 0, 0, 8), [(0, 0), (2, 5), (5, 8), (6, 9)])

    def test_only_the_work_of_the_window_is_asked(self):
        works = [work(many=2), work(many=1)]
        self.assertEqual(spread((GET,), works, 1, 0, 0), [(2, 2)])
        self.assertEqual(spread((GET,), works, 0, 0, 0), [(4, 4)])

    def test_as_times_of_each_beat(self):
        chance = random.Random(5)
        for seed in range(60):
            program, works, asks = random_straight(seed)
            if not works:
                continue
            who, low = chance.randrange(len(works)), chance.randint(0, 200)
            high = min(200, low + chance.choice((0, 1, 5, 40)))
            told = [Noted(program, works, [0] * 4, [(when, who)]).times() for when in range(low, high + 1)]
            expected = []
            for beats in zip(*told):
                done = sorted(beat for beat in beats if beat is not None)
                expected.append((done[0] if done else None, None if None in beats else done[-1]))
            self.assertEqual(spread(program, works, who, low, high), expected, seed)


def seen_in_a_hall(program, works, memory, asks):
    """What times and overs tell, seen from outside of a hall."""
    hall = Hall(program, works, memory, asks)
    done, over = [None] * len(program), [None] * len(works)
    laid = [0] * len(works)
    for beat in range(300):
        row = hall.shown()[1]
        device, machine = hall.beat()
        if row is not None and hall.shown()[1] != row:
            done[row] = beat
        if device is not None and device[1] == "put":
            laid[device[0]] += 1
            if laid[device[0]] == works[device[0]][2]:
                over[device[0]] = beat
    return done, over


class AsHallsDo(unittest.TestCase):
    def test_in_halls_of_any_words(self):
        chance = random.Random(11)
        waits = nones = 0
        for seed in range(300):
            program, works, asks = random_straight(seed)
            told = times(program, works, asks), overs(program, works, asks)
            waits += told[0] != times(program, [], [])
            nones += None in told[0]
            for size in (4, 32, chance.randint(4, 32)):
                memory = [chance.randrange(1000) for k in range(size)]
                self.assertEqual(seen_in_a_hall(program, works, memory, asks), told, seed)
        self.assertGreater(waits, 50)
        self.assertGreater(nones, 20)

    def test_as_the_model(self):
        for seed in range(300, 600):
            program, works, asks = random_straight(seed)
            noted = Noted(program, works, [7] * (4 + seed % 29), asks)
            self.assertEqual(times(program, works, asks), noted.times(), seed)
            self.assertEqual(overs(program, works, asks), noted.overs(), seed)
