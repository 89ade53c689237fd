"""Point 14: rests and guards, by hand, as the model tells, and as leans does."""

import random
import unittest

from stealbeats.leans import leans
from stealbeats.resting import guards, rests
from tests.noted import Noted, random_straight

WORDS = [10, 11, 12, 13, 14, 15, 16, 17]
FOUR = [1, 2, 3, 4]
PAIR = ("pair", 0, 4)
ALL_BEATS = (0, 40)


def work(begin=0, goal=4, many=2, block=1, greed="all", mark=None, follow=None):
    return (begin, goal, many, block, greed, mark, follow)


# Round four words: 0 is laid twice, the others once; so the pair at 0 stays torn for good.
ROUND = work(goal=0, many=5)


def resting(beats):
    """Rows that rest so many beats."""
    return (("rest", 9),) * (beats // 9) + ((("rest", beats % 9),) if beats % 9 else ())


def with_rests(program, row, beats):
    """(the program with so many beats of rest ahead of the row, where the row stands then)."""
    rows = program[:row] + resting(beats)
    return rows + program[row:], len(rows)


def with_guard(program, row, beats, mark):
    rows = program[:row] + (("mark", mark),) + resting(beats)
    return rows + (program[row], ("clear", mark)) + program[row + 1:], len(rows)


class Told(unittest.TestCase):
    def rests(self, program, works, window, row, memory=WORDS, who=0):
        return rests(program, works, memory, who, window[0], window[1], row)

    def guards(self, program, works, window, row, mark, memory=WORDS, who=0):
        return guards(program, works, memory, who, window[0], window[1], row, mark)


class Rests(Told):
    def test_none_wanted(self):
        program = (("rest", 1), PAIR, ("rest", 1))
        for window in ((0, 1), (1, 1), (0, 0), (3, 3), (3, 43), (160, 200), (200, 200)):
            self.assertEqual(self.rests(program, [work()], window, 1), 0, window)

    def test_a_window_of_one_beat(self):
        # Got in 1 and 2: torn, if asked at 2; behind one beat of rest, got in 6 and 7.
        self.assertEqual(self.rests((("rest", 1), PAIR), [work()], (2, 2), 1), 1)

    def test_a_window_of_some_beats(self):
        # Torn, if asked in the beat of the second get: so that has to be behind the window.
        for high in range(2, 41):
            self.assertEqual(self.rests((("rest", 1), PAIR), [work()], (0, high), 1), high - 1, high)
            self.assertEqual(self.rests((("rest", 1), PAIR), [work()], (2, high), 1), high - 1, high)

    def test_a_window_that_begins_behind_the_pair(self):
        # The rests that would bring the pair into the window aren't wanted.
        self.assertEqual(self.rests((PAIR,), [work()], (2, 42), 0), 0)

    def test_forty_and_none(self):
        self.assertEqual(self.rests((PAIR,), [work()], (0, 40), 0), 40)
        self.assertEqual(self.rests((PAIR,), [work()], (1, 40), 0), 40)
        self.assertIsNone(self.rests((PAIR,), [work()], (1, 41), 0))
        self.assertEqual(self.rests((("rest", 1), PAIR), [work()], (1, 41), 1), 40)

    def test_a_window_at_the_last_beat_that_may_be(self):
        program = resting(199) + (PAIR,)
        for window, told in (((160, 200), 1), ((200, 200), 1), ((160, 199), 0), ((199, 200), 1)):
            self.assertEqual(self.rests(program, [work()], window, 23), told)

    def test_turn(self):
        for rest, told in ((1, 0), (2, 1), (3, 0), (4, 0)):
            self.assertEqual(self.rests((("rest", rest), PAIR), [work(greed="turn")], (0, 0), 1), told)

    def test_idle(self):
        # Got in 10 and 11: torn, if asked at 7 or 8, when one word alone is laid by then.
        program = (("rest", 9), ("rest", 1), PAIR)
        for window, told in (((0, 6), 0), ((7, 7), 1), ((8, 8), 2), ((7, 8), 2), ((9, 9), 0), ((7, 9), 3), ((0, 40), 34),
                             ((0, 39), 33), ((6, 46), 40), ((7, 47), None), ((9, 49), 0), ((8, 48), None)):
            self.assertEqual(self.rests(program, [work(greed="idle")], window, 2), told, window)

    def test_a_work_that_a_row_asks(self):
        # Whatever is asked from outside much later: laid in 2 and 4.
        program = (("ask", 0), ("rest", 2), PAIR)
        self.assertEqual(self.rests(program, [work(greed="idle")], (30, 70), 2), 2)
        # Begun anew, when it is over, it lays in 6 next.
        self.assertEqual(self.rests(program, [work(greed="idle", follow=0)], (30, 70), 2), 2)

    def test_a_row_asks_another_work_than_the_window(self):
        program = (("ask", 1), ("rest", 2), PAIR)
        self.assertEqual(self.rests(program, [work(goal=0), work(greed="idle")], (30, 70), 2), 2)
        self.assertEqual(self.rests(program, [work(goal=0), work(greed="idle", goal=0)], (30, 70), 2), 0)

    def test_a_next_work(self):
        works = [work(goal=0, many=1, greed="idle", follow=1), work(greed="idle")]
        # Work 1 begins in 2, and lays in 4 and 6.
        for rest, told in ((4, 0), (5, 2), (6, 1), (7, 0)):
            self.assertEqual(self.rests((("rest", rest), PAIR), works, (1, 1), 1), told, rest)

    def test_sixteen_words(self):
        # Of sixteen words 0 is laid first, 15 last: behind 2 beats of rest, and behind 32.
        works = [work(goal=0, many=16, greed="idle")]
        memory = list(range(16))
        for rest, told in ((1, 0), (2, 30), (3, 29), (9, 23)):
            program = (("ask", 0), ("rest", rest), ("pair", 0, 15))
            self.assertEqual(self.rests(program, works, (100, 140), 2, memory), told, rest)
            program = (("ask", 0), ("rest", rest), ("pair", 0, 0))
            self.assertEqual(self.rests(program, works, (100, 140), 2, memory), {1: 0, 2: 2, 3: 1, 9: 0}[rest])

    def test_sixteen_words_are_too_many(self):
        # Of two works 0 lays first: 64 beats till both are over.
        works = [work(goal=20, many=16, greed="idle"), work(goal=0, many=16, greed="idle")]
        program = (("ask", 1), ("rest", 2), ("ask", 0), ("pair", 0, 15))
        self.assertIsNone(self.rests(program, works, (100, 140), 3, list(range(16))))

    def test_blocks_and_a_mark_of_the_program(self):
        program = (("rest", 1), ("mark", 0), PAIR, ("clear", 0), ("rest", 9))
        # Held off behind its first word, till the pair is got; or ahead of the first one.
        self.assertIsNone(self.rests(program, [work(mark=0)], (0, 0), 2))
        self.assertEqual(self.rests(program, [work(mark=0)], (2, 42), 2), 0)
        self.assertEqual(self.rests(program, [work(mark=0)], (1, 1), 2), None)
        # In the midst of a block it goes on.
        self.assertEqual(self.rests(program, [work(mark=0, block=2)], (0, 40), 2), 0)
        self.assertEqual(self.rests(program, [work(mark=0, block=2, greed="idle")], (0, 0), 2), 2)
        self.assertIsNone(self.rests(program, [work(mark=0, block=1, greed="idle")], (0, 0), 2))
        # By another mark it isn't held off at all.
        self.assertEqual(self.rests(program, [work(mark=1)], (0, 0), 2), 0)

    def test_the_300th_beat_between(self):
        # Torn for good, unless the second get comes behind all.
        for beats, told in ((299, 0), (298, 1), (297, 2), (289, 10), (260, 39), (259, 40), (258, None), (100, None)):
            program = resting(beats) + (("pair", 0, 0),)
            self.assertEqual(self.rests(program, [ROUND], (100, 140), len(program) - 1, FOUR), told, beats)

    def test_the_300th_beat_by_waits(self):
        # By a work without end the pair is never got.
        self.assertEqual(self.rests((PAIR, PAIR), [work(follow=0)], (0, 0), 1), 0)
        self.assertEqual(self.rests((PAIR, PAIR), [work(follow=0)], (0, 0), 0), 0)

    def test_a_pair_that_is_never_done(self):
        self.assertEqual(self.rests((("end",), ("pair", 0, 0)), [ROUND], ALL_BEATS, 1, FOUR), 0)

    def test_only_this_pair_counts(self):
        program = (("rest", 2), PAIR, ("rest", 5), PAIR, ("rest", 1), ("pair", 0, 0))
        works = [work(greed="idle")]
        self.assertEqual([self.rests(program, works, (0, 0), row) for row in (1, 3, 5)], [2, 0, 0])
        # The second one, got in 9 and 10, is torn if one word is laid by then.
        self.assertEqual([self.rests(program, works, (7, 7), row) for row in (1, 3, 5)], [0, 2, 0])

    def test_rests_of_a_pair_bring_no_other_one_in(self):
        # The second one is torn as it stands, and stays so.
        program = (PAIR, ("rest", 1), PAIR)
        self.assertEqual(self.rests(program, [work()], (4, 4), 0), 0)
        self.assertEqual(self.rests(program, [work()], (4, 4), 2), 1)

    def test_rests_stand_ahead_of_this_row_alone(self):
        # Ahead of the row that asks they would change nothing.
        program = (("rest", 3), ("ask", 0), ("rest", 2), PAIR)
        self.assertEqual(self.rests(program, [work(greed="idle")], (60, 60), 3), 2)

    def test_more_rests_may_be_worse(self):
        program = (("rest", 1), PAIR)
        # Asked at 0 it gets in 0, and lays in 1 if there is a rest: behind one of them it is torn.
        self.assertEqual(self.rests(program, [work(greed="idle")], (0, 0), 1), 0)
        rows, row = with_rests(program, 1, 1)
        self.assertEqual(self.rests(rows, [work(greed="idle")], (0, 0), row), 2)

    def test_forty_rows(self):
        program = (("rest", 1),) * 39 + (PAIR,)
        self.assertEqual(self.rests(program, [work()], (40, 40), 39), 1)
        self.assertEqual(self.rests(program, [work()], (40, 79), 39), 40)
        self.assertIsNone(self.rests(program, [work()], (40, 80), 39))

    def test_how_many_words_there_are(self):
        program = (("rest", 1), PAIR)
        for size in (4, 5, 6, 8, 31, 32):
            self.assertEqual(self.rests(program, [work(goal=4)], (2, 2), 1, [0] * size), 1, size)
            # With four words 8 and 9 are those of 4 and 5.
            told = 1 if size == 4 else 0
            self.assertEqual(self.rests(program, [work(goal=8)], (2, 2), 1, [0] * size), told, size)

    def test_the_words_do_not_matter(self):
        for memory in ([0] * 8, [999] * 8, [1, 2, 3, 4, 5, 6, 7, 8]):
            self.assertEqual(self.rests((("rest", 1), PAIR), [work()], (2, 9), 1, memory), 8)

    def test_the_last_work(self):
        works = [work(goal=0)] * 5 + [work()]
        self.assertEqual(self.rests((("rest", 1), PAIR), works, (2, 2), 1, who=5), 1)
        self.assertEqual(self.rests((("rest", 1), PAIR), works, (2, 2), 1, who=4), 0)


class Guards(Told):
    def test_works_that_the_mark_holds_off(self):
        # The mark is set in 1, minded from 2 on.
        for mark in (0, 1, 2):
            works = [work(mark=mark)]
            self.assertEqual(self.guards((("rest", 1), PAIR), works, (2, 42), 1, mark), 0)
            self.assertEqual(self.guards((PAIR,), works, (1, 41), 0, mark), 0)
            self.assertEqual(self.guards((PAIR, PAIR), works, (1, 41), 0, mark), 0)

    def test_held_off_amid_its_words(self):
        # One word is laid as the mark is set; no rest brings the other one.
        for window in ((0, 0), (0, 40), (1, 1)):
            self.assertIsNone(self.guards((("rest", 1), PAIR), [work(mark=0)], window, 1, 0))

    def test_amid_a_block(self):
        works = [work(mark=2, block=2)]
        self.assertEqual(self.guards((("rest", 1), PAIR), works, (0, 40), 1, 2), 0)
        works = [work(mark=2, block=2, greed="idle")]
        # Asked at 0 it lays in 1 and 3, asked at 1 in 2 and 4, if there are rests; got behind the mark's beat, 1.
        for window, told in (((0, 0), 2), ((1, 1), 0), ((0, 1), 3), ((0, 40), 3), ((1, 41), 0), ((2, 42), 0)):
            self.assertEqual(self.guards((("rest", 1), PAIR), works, window, 1, 2), told, window)

    def test_blocks_of_four(self):
        works = [work(goal=4, many=4, mark=1, block=4, greed="idle")]
        for address, told in ((4, 2), (5, 0), (6, 0), (3, 0), (7, 0)):
            self.assertEqual(self.guards((("rest", 1), ("pair", 0, address)), works, (0, 0), 1, 1), told, address)
        # The mark is set in 4: asked at 0 it lays in 1, 3, 5, asked at 1 in 2, 4, 6, and so on, if there are rests.
        for address, window, told in ((5, (0, 0), 1), (5, (1, 1), 2), (4, (2, 2), 1), (5, (0, 1), 2), (4, (2, 3), 2),
                                      (4, (3, 3), 2), (4, (4, 4), 0), (4, (2, 42), 3), (6, (0, 40), 0)):
            program = (("rest", 4), ("pair", 0, address))
            self.assertEqual(self.guards(program, works, window, 1, 1), told, (address, window))

    def test_works_that_another_mark_holds_off(self):
        # As if there were no mark: got in 2 and 3, torn if asked at 3.
        for mark in (0, 2):
            self.assertEqual(self.guards((("rest", 1), PAIR), [work(mark=1)], (3, 3), 1, mark), 1)
            self.assertEqual(self.guards((("rest", 1), PAIR), [work(mark=1)], (0, 2), 1, mark), 0)
        self.assertEqual(self.guards((("rest", 1), PAIR), [work(mark=1)], (3, 3), 1, 1), 0)

    def test_works_that_no_mark_holds_off(self):
        for mark in (0, 1, 2):
            self.assertEqual(self.guards((("rest", 1), PAIR), [work()], (3, 3), 1, mark), 1)
            self.assertEqual(self.guards((("rest", 1), PAIR), [work()], (3, 30), 1, mark), 28)

    def test_forty_and_none(self):
        # Got in 1 and 2 behind the mark's own beat.
        self.assertEqual(self.guards((PAIR,), [work()], (2, 41), 0, 0), 40)
        self.assertEqual(self.guards((PAIR,), [work()], (1, 41), 0, 0), 40)
        self.assertIsNone(self.guards((PAIR,), [work()], (2, 42), 0, 0))
        self.assertEqual(self.guards((PAIR,), [work()], (3, 43), 0, 0), 0)

    def test_a_window_at_the_last_beat_that_may_be(self):
        program = resting(198) + (PAIR,)  # got in 199 and 200, behind the mark in 198
        for window, told in (((160, 200), 1), ((200, 200), 1), ((160, 199), 0)):
            self.assertEqual(self.guards(program, [work()], window, 22, 0), told)
            self.assertEqual(self.guards(program, [work(mark=0, block=2)], window, 22, 0), 0)

    def test_marks_of_the_program(self):
        # Held off all along by the program's own mark, or not any more, when the guard sets it anew.
        works = [work(mark=0, greed="idle", block=2)]
        self.assertEqual(self.guards((("mark", 0), PAIR, ("rest", 2), PAIR), works, (1, 1), 1, 0), 0)
        self.assertEqual(self.guards((("mark", 0), PAIR, ("rest", 2), PAIR), works, (1, 1), 3, 2), 0)
        self.assertEqual(self.guards((("rest", 1), ("clear", 0), PAIR), works, (3, 43), 2, 0), 0)
        self.assertEqual(self.guards((("rest", 1), ("clear", 0), PAIR), works, (0, 0), 2, 0), 1)

    def test_the_300th_beat_between(self):
        # Torn for good, unless the second get comes behind all; the mark takes a beat itself.
        for beats, told in ((298, 0), (297, 1), (296, 2), (258, 40), (257, None)):
            program = resting(beats) + (("pair", 0, 0),)
            self.assertEqual(self.guards(program, [ROUND], (100, 140), len(program) - 1, 1, FOUR), told, beats)

    def test_a_work_that_a_row_asks(self):
        program = (("ask", 0), ("rest", 1), PAIR)
        # Begun in 0, a word laid in 2, the beat of the mark.
        self.assertIsNone(self.guards(program, [work(greed="idle", mark=0)], (60, 60), 2, 0))
        self.assertEqual(self.guards(program, [work(greed="idle", mark=0, block=2)], (60, 60), 2, 0), 2)
        self.assertEqual(self.guards((("ask", 0), PAIR), [work(greed="idle", mark=0)], (60, 60), 1, 0), 0)

    def test_only_this_pair_counts(self):
        program = (("rest", 2), PAIR, ("rest", 9), PAIR)
        works = [work(greed="idle")]
        # Asked at 0 it lays 4 in 1, and gets in the mark's beat, 2: the other one is laid in 3.
        self.assertEqual(self.guards(program, works, (0, 0), 1, 0), 1)
        self.assertEqual(self.guards(program, works, (0, 0), 3, 0), 0)

    def test_forty_rows(self):
        program = (("rest", 1),) * 39 + (PAIR,)
        self.assertEqual(self.guards(program, [work()], (41, 41), 39, 0), 1)
        self.assertEqual(self.guards(program, [work(mark=0)], (41, 41), 39, 0), 0)
        self.assertEqual(self.guards(program, [work()], (41, 80), 39, 0), 40)


def random_window(seed, marks=(None, 0, 1, 2)):
    """(program, works, memory, work, low, high, row): a straight program with a pair that words are laid at."""
    chance = random.Random(seed)
    program, works, asks = random_straight(seed)
    size = chance.randint(4, chance.choice((5, 8, 20)))
    many = max(1, len(works))
    works = [(chance.randrange(32), chance.randrange(size), chance.randint(2, chance.choice((3, 16))),
              chance.randint(1, 4), chance.choice(("all", "turn", "idle", "idle")), chance.choice(marks),
              chance.choice((None, None, chance.randrange(many)))) for k in range(many)]
    program = tuple(row for row in program if row[0] != "end")[:chance.choice((3, 8, 20, 39))]
    who = chance.randrange(many)
    row = chance.randint(0, len(program))
    goal = works[chance.choice((who, who, chance.randrange(many)))][1]
    program = program[:row] + (("pair", chance.randrange(3), goal + chance.choice((0, 0, 1))),) + program[row:]
    low = chance.choice((0, 0, chance.randint(0, 60), chance.randint(0, 200)))
    high = min(200, low + chance.choice((0, 1, 3, 10, 40)))
    return program, works, [chance.randrange(1000) for k in range(size)], who, low, high, row


def broken(program, row, works, memory, who, low, high):
    """Whether by the model the pair of the row is torn for a beat of the window."""
    for when in range(low, high + 1):
        if row in [torn for torn, beat, by in Noted(program, works, memory, [(when, who)]).torns()]:
            return True
    return False


def fewest(change, works, memory, who, low, high):
    for beats in range(41):
        program, row = change(beats)
        if not broken(program, row, works, memory, who, low, high):
            return beats
    return None


class AsTheModel(unittest.TestCase):
    def check_told(self, told):
        self.assertGreater(told.count(0), 10)
        self.assertGreater(told.count(None), 3)
        self.assertGreater(len([beats for beats in told if beats]), 10)
        self.assertGreater(len(set(told)), 8)

    def test_rests(self):
        seen = []
        for seed in range(150):
            program, works, memory, who, low, high, row = random_window(seed)
            told = rests(program, works, memory, who, low, high, row)
            expected = fewest(lambda beats: with_rests(program, row, beats), works, memory, who, low, high)
            self.assertEqual(told, expected, seed)
            seen.append(told)
        self.check_told(seen)

    def test_guards(self):
        seen, helped = [], 0
        for seed in range(150, 400):
            mark = seed % 3
            program, works, memory, who, low, high, row = random_window(seed, (None, mark, mark, mark, 1))
            told = guards(program, works, memory, who, low, high, row, mark)
            expected = fewest(lambda beats: with_guard(program, row, beats, mark), works, memory, who, low, high)
            self.assertEqual(told, expected, seed)
            seen.append(told)
            helped += told == 0 and rests(program, works, memory, who, low, high, row) != 0
        self.check_told(seen)
        self.assertGreater(helped, 3)


class AsLeans(unittest.TestCase):
    def agrees(self, told, change, window):
        """With so many beats the claim that the pair is whole may be leaned on, with less it mayn't."""
        works, memory, who, low, high = window
        for beats in range(41 if told is None else told + 1):
            program, row = change(beats)
            if len(program) > 40:
                continue
            holds = leans(program, works, memory, who, low, high, ("whole", row)) is None
            self.assertEqual(holds, beats == told)

    def test_rests_put_in(self):
        for seed in range(400, 500):
            program, works, memory, who, low, high, row = random_window(seed)
            told = rests(program, works, memory, who, low, high, row)
            self.agrees(told, lambda beats: with_rests(program, row, beats), (works, memory, who, low, high))

    def test_guards_put_in(self):
        for seed in range(500, 600):
            program, works, memory, who, low, high, row = random_window(seed)
            told = guards(program, works, memory, who, low, high, row, seed % 3)
            self.agrees(told, lambda beats: with_guard(program, row, beats, seed % 3), (works, memory, who, low, high))

    def test_no_rest_wanted_is_a_claim_that_holds(self):
        for seed in range(600, 700):
            program, works, memory, who, low, high, row = random_window(seed)
            holds = leans(program, works, memory, who, low, high, ("whole", row)) is None
            self.assertEqual(rests(program, works, memory, who, low, high, row) == 0, holds, seed)
