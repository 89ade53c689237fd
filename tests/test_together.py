"""Points 7 to 17 together: what each function tells agrees with what the others do."""

import random
import unittest

from stealbeats.ahead import overs, spread, times
from stealbeats.hall import Hall
from stealbeats.judging import judged
from stealbeats.leans import leans
from stealbeats.notes import read, written
from stealbeats.resting import guards, rests
from stealbeats.runs import run
from stealbeats.sights import sights, worths
from stealbeats.torn import first_torn, torns
from tests.noted import random_pairs, random_straight
from tests.test_resting import random_window, with_guard, with_rests

SEEDS = range(60)


def straight_hall(seed):
    """(program, works, memory, asks) of a straight program beside at least one work."""
    chance = random.Random(seed)
    for other in range(seed * 100, seed * 100 + 100):
        program, works, asks = random_straight(other)
        if works:
            return program, works, [chance.randrange(1000) for k in range(chance.randint(4, 32))], asks


def device_puts(program, works, memory, asks):
    """(beat, address) of each put of a work."""
    return [(beat, address) for address in range(len(memory))
            for beat, who, word in worths(program, works, memory, asks, 300, address) if who is not None]


class Halls(unittest.TestCase):
    def test_runs_logs_and_texts(self):
        for seed in SEEDS:
            handed = random_pairs(seed)
            hall = Hall(*handed)
            log = [hall.beat() for beat in range(300)]
            self.assertEqual(run(*handed, 300), (log, hall.shown()))
            self.assertIsNone(judged(*handed, log))
            again = read(written(*handed))
            self.assertEqual(run(*again, 300), (log, hall.shown()))
            self.assertEqual(torns(*again, 300), torns(*handed, 300))
            self.assertEqual(sights(*again, 300), sights(*handed, 300))

    def test_words_behind_are_the_last_worths(self):
        for seed in SEEDS:
            handed = random_pairs(seed)
            words = run(*handed, 300)[1][3]
            for address, word in enumerate(handed[2]):
                puts = worths(*handed, 300, address)
                self.assertEqual(words[address], puts[-1][2] if puts else word)

    def test_overs_are_last_worths_of_works(self):
        for seed in SEEDS:
            program, works, memory, asks = straight_hall(seed)
            for who, over in enumerate(overs(program, works, asks)):
                if over is not None:
                    address = (works[who][1] + works[who][2] - 1) % len(memory)
                    puts = [(beat, by) for beat, by, word in worths(program, works, memory, asks, 300, address)]
                    self.assertIn((over, who), puts)


class Ahead(unittest.TestCase):
    def test_gets_and_puts_are_done_in_their_times(self):
        for seed in SEEDS:
            program, works, memory, asks = straight_hall(seed)
            log = run(program, works, memory, asks, 300)[0]
            beats = times(program, works, asks)
            done = [beat for row, beat in enumerate(beats) if beat is not None
                    and program[row][0] in ("get", "getx", "pair", "put", "putx", "lay")]
            used = [beat for beat, (device, machine) in enumerate(log) if isinstance(machine, tuple)]
            self.assertTrue(set(done) <= set(used), seed)
            for row, beat in enumerate(beats):
                if beat is not None and program[row][0] in ("get", "put"):
                    address = program[row][2 if program[row][0] == "get" else 1] % len(memory)
                    self.assertEqual(log[beat][1][:2], (program[row][0], address))

    def test_rows_shown(self):
        for seed in SEEDS:
            program, works, memory, asks = straight_hall(seed)
            for row, beat in enumerate(times(program, works, asks)):
                if beat is not None:
                    self.assertEqual(run(program, works, memory, asks, beat)[1][1], row)
                    self.assertNotEqual(run(program, works, memory, asks, beat + 1)[1][1], row)

    def test_spread_holds_what_times_tell(self):
        for seed in SEEDS:
            program, works, memory, asks = straight_hall(seed)
            low = seed * 2
            told = [times(program, works, [(when, 0)]) for when in range(low, low + 11)]
            for row, (least, most) in enumerate(spread(program, works, 0, low, low + 10)):
                beats = [beat[row] for beat in told]
                self.assertIn(least, beats)
                self.assertIn(most, beats)
                self.assertTrue(all(least <= beat and (most is None or beat <= most) for beat in beats if beat is not None))


class Claims(unittest.TestCase):
    def test_over_is_as_shown(self):
        for seed in SEEDS:
            program, works, memory, asks = straight_hall(seed)
            when = seed
            for row, beat in enumerate(times(program, works, [(when, 0)])):
                on = [] if beat is None else run(program, works, memory, [(when, 0)], beat + 1)[1][5]
                for who in range(len(works)):
                    told = leans(program, works, memory, 0, when, when, ("over", who, row))
                    self.assertEqual(told, when if who in [number for number, laid, hand in on] else None)

    def test_kept_is_as_the_worths(self):
        chance = random.Random(8)
        broken = 0
        for seed in SEEDS:
            program, works, memory, asks = straight_hall(seed)
            when = chance.randint(0, 30)
            beats = times(program, works, [(when, 0)])
            puts = device_puts(program, works, memory, [(when, 0)])
            for turn in range(5):
                one, other = chance.randrange(len(program)), chance.randrange(len(program))
                low = chance.randint(0, len(memory) - 1)
                high = chance.randint(low, 31)
                until = 299 if beats[other] is None else beats[other]
                between = [beat for beat, address in puts if low <= address <= high
                           and beats[one] is not None and beats[one] < beat <= until]
                told = leans(program, works, memory, 0, when, when, ("kept", low, high, one, other))
                self.assertEqual(told, when if between else None)
                broken += told is not None
        self.assertGreater(broken, 20)

    def test_whole_and_first_torn_are_as_torns(self):
        for seed in SEEDS:
            program, works, memory, asks = random_pairs(seed)
            torn = {when: torns(program, works, memory, [(when, 0)], 300) for when in range(12)}
            beats = [when for when in torn if torn[when]]
            self.assertEqual(first_torn(program, works, memory, 0, 0, 11), min(beats, default=None))
            for row in range(len(program)):
                if program[row][0] == "pair":
                    beats = [when for when in torn if row in [one for one, beat, who in torn[when]]]
                    told = leans(program, works, memory, 0, 0, 11, ("whole", row))
                    self.assertEqual(told, min(beats, default=None))


class SightsAndTears(unittest.TestCase):
    """One work that begins once, and lays at each address once: what is seen of a pair tells whether it is torn."""

    def hall(self, seed):
        chance = random.Random(seed)
        size = chance.randint(4, 12)
        many = chance.randint(2, size)
        goal = chance.randrange(32)
        rows = []
        for k in range(chance.randint(4, 14)):
            rows.append(chance.choice((("pair", 0, goal + chance.randrange(many) & 31), ("rest", chance.randint(1, 9)),
                                       ("mark", 0), ("clear", 0), ("get", 0, 1), ("set", 0, 1))))
        pair = ("pair", 1, goal + chance.randrange(many - 1) & 31)
        row = chance.randint(0, len(rows))
        works = [(chance.randrange(32), goal, many, chance.randint(1, 4), chance.choice(("all", "turn", "idle")),
                  chance.choice((None, 0)), None)]
        return tuple(rows[:row] + [pair] + rows[row:]), works, [5] * size, row

    def seen(self, program, works, memory, when, row):
        """(whether the work was the last that put at the first one, at the other one) of the pair of this row."""
        beat = times(program, works, [(when, 0)])[row]
        gets = [last is not None for who, at, address, last in sights(program, works, memory, [(when, 0)], 300)
                if who is None and at <= beat]
        return gets[-2:]

    def test_torn_as_seen(self):
        torn = 0
        for seed in range(150):
            program, works, memory, row = self.hall(seed)
            for when in range(0, 30, 3):
                rows = [one for one, beat, who in torns(program, works, memory, [(when, 0)], 300)]
                goals = [(works[0][1] + k) % len(memory) for k in range(works[0][2])]
                for pair in range(len(program)):
                    if program[pair][0] != "pair":
                        continue
                    both = all((program[pair][2] + k) % len(memory) in goals for k in (0, 1))
                    first, second = self.seen(program, works, memory, when, pair)
                    self.assertEqual(pair in rows, both and first != second, (seed, when, pair))
                    torn += pair in rows
        self.assertGreater(torn, 100)

    def test_rested_and_guarded_as_seen(self):
        rested = guarded = 0
        for seed in range(200, 260):
            program, works, memory, row = self.hall(seed)
            for told, change in (
                    (rests(program, works, memory, 0, 3, 20, row), lambda beats: with_rests(program, row, beats)),
                    (guards(program, works, memory, 0, 3, 20, row, 0), lambda beats: with_guard(program, row, beats, 0))):
                if told is None:
                    continue
                for beats in range(told + 1):
                    changed, at = change(beats)
                    if len(changed) > 40:
                        continue
                    pairs = [self.seen(changed, works, memory, when, at) for when in range(3, 21)]
                    self.assertEqual(all(first == second for first, second in pairs), beats == told, (seed, beats))
                rested += told != 0
                guarded += told == 0
        self.assertGreater(rested, 10)
        self.assertGreater(guarded, 10)


class Windows(unittest.TestCase):
    def test_a_wider_window_wants_no_less(self):
        more = 0
        for seed in range(700, 760):
            program, works, memory, who, low, high, row = random_window(seed)
            wide = rests(program, works, memory, who, low, high, row)
            for when in (low, high):
                narrow = rests(program, works, memory, who, when, when, row)
                self.assertTrue(wide is None or narrow is not None and narrow <= wide)
                more += wide != narrow
        self.assertGreater(more, 5)
