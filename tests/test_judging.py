"""Point 16: logs, judged and refused."""

import unittest

from stealbeats.errors import BadLog
from stealbeats.hall import Hall
from stealbeats.judging import judged
from stealbeats.runs import run
from tests.every import NO_NUMBERS, refusal
from tests.model import random_hall

WORDS = [10, 11, 12, 13, 14]
PROGRAM = (("get", 0, 1), ("rest", 2), ("put", 2, 0), ("pair", 1, 3), ("lay", 0, 1), ("ask", 1), ("go", 0))
WORKS = [(0, 3, 3, 1, "turn", None, 1), (1, 0, 2, 2, "all", None, None)]
ASKS = [(0, 0), (20, 0), (200, 1)]
HANDED = (PROGRAM, WORKS, WORDS, ASKS)


def told(beats=300, handed=HANDED):
    return run(*handed, beats)[0]


def with_entry(log, at, entry):
    return log[:at] + [entry] + log[at + 1:]


class AsTold(unittest.TestCase):
    def test_as_a_hall_tells(self):
        hall = Hall(*HANDED)
        log = [hall.beat() for beat in range(300)]
        for beats in (0, 1, 2, 50, 299, 300):
            self.assertIsNone(judged(*HANDED, log[:beats]))

    def test_each_kind_of_entry_is_in_it(self):
        log = told()
        for did in ("waits", "goes"):
            self.assertIn(did, [machine for device, machine in log])
        deeds = [(device and device[:2], machine[0]) for device, machine in log if isinstance(machine, tuple)]
        self.assertIn((None, "get"), deeds)
        self.assertIn((None, "put"), deeds)
        for move in ((0, "get"), (0, "put"), (1, "get"), (1, "put")):
            self.assertIn(move, [device and device[:2] for device, machine in log])
        self.assertEqual(judged((("end",),), [], WORDS, [], [(None, "goes")] + [(None, "ends")] * 299), None)

    def test_as_many_halls_tell(self):
        for seed in range(100):
            handed = random_hall(seed)
            log = told(300, handed)
            self.assertIsNone(judged(*handed, log), seed)
            self.assertIsNone(judged(*handed, log[:seed]), seed)

    def test_the_list_stays_as_it_was(self):
        log = with_entry(told(), 150, (None, "ends"))
        kept = list(log)
        self.assertEqual(judged(*HANDED, log), 150)
        self.assertEqual(log, kept)
        log.append(None)
        self.assertEqual(refusal(judged, log=log).at, 300)
        self.assertEqual(log, kept + [None])


class Otherwise(unittest.TestCase):
    def told_otherwise(self, entry):
        """Entries that are alike but for one thing."""
        device, machine = entry
        others = []
        if device is not None:
            who, deed, address, word = device
            others += [(who, deed, address, (word + 1) % 1000), (who, deed, (address + 1) % 32, word),
                       ((who + 1) % 6, deed, address, word), (who, "put" if deed == "get" else "get", address, word),
                       (5, deed, address, word), (who, deed, address + 5, word), None]
        else:
            others += [(0, "get", 0, 10), (5, "put", 31, 999)]
        rows = [(other, machine) for other in others]
        others = [did for did in ("waits", "goes", "ends") if did != machine]
        if isinstance(machine, tuple):
            deed, address, word = machine
            others += [(deed, address, (word + 1) % 1000), (deed, (address + 1) % 32, word), (deed, address + 5, word),
                       ("put" if deed == "get" else "get", address, word)]
        else:
            others += [("get", 0, 0), ("put", 31, 999)]
        return rows + [(device, other) for other in others]

    def test_at_each_place(self):
        log = told()
        for at in list(range(40)) + [149, 150, 290, 291, 298, 299]:
            for other in self.told_otherwise(log[at]):
                self.assertEqual(judged(*HANDED, with_entry(log, at, other)), at, other)
                self.assertEqual(judged(*HANDED, log[:at] + [other]), at, other)
                self.assertEqual(judged(*HANDED, log[:at] + [other] * (300 - at)), at, other)

    def test_only_the_first_counts(self):
        log = told()
        for one in (0, 1, 100, 298):
            wrong = with_entry(with_entry(log, 299, (None, "ends")), one, (None, "ends"))
            self.assertEqual(judged(*HANDED, wrong), one)

    def test_left_out_told_twice_and_exchanged(self):
        log = told(60)
        for at in range(59):
            out = log[:at] + log[at + 1:]
            twice = log[:at + 1] + log[at:]
            exchanged = log[:at] + [log[at + 1], log[at]] + log[at + 2:]
            for wrong in (out, twice, exchanged):
                # The first place that isn't as a hall tells it, which entries that are alike put off.
                expected = [place for place, entry in enumerate(wrong) if entry != told(61)[place]]
                self.assertEqual(judged(*HANDED, wrong), expected[0] if expected else None)

    def test_left_out_at_the_ends(self):
        log = told(60)
        self.assertEqual(judged(*HANDED, log[1:]), 0)
        self.assertIsNone(judged(*HANDED, log[:-1]))
        self.assertEqual(judged(*HANDED, [log[1], log[0]]), 0)
        self.assertEqual(judged(*HANDED, [log[0], log[0]]), 1)
        self.assertEqual(judged(*HANDED, log + log[-1:]), 60)

    def test_entries_that_no_hall_tells(self):
        # They have the form of a beat, so they are judged.
        log = told(3)
        for other in ((None, "waits"), ((0, "get", 0, 10), ("get", 1, 11)), ((5, "put", 31, 999), "ends")):
            self.assertEqual(judged(*HANDED, [other]), 0)
            self.assertEqual(judged(*HANDED, log + [other]), 3)

    def test_of_other_halls(self):
        log = told(30)
        self.assertEqual(judged(PROGRAM, WORKS, [9, 11, 12, 13, 14], ASKS, log), 0)
        self.assertEqual(judged(PROGRAM, WORKS, [10, 12, 12, 13, 14], ASKS, log), 1)
        # These words are put anew, ahead of each get.
        self.assertIsNone(judged(PROGRAM, WORKS, [10, 11, 0, 0, 0], ASKS, log))
        self.assertEqual(judged(PROGRAM, WORKS, WORDS, [(1, 0)], log), 0)
        # Work 0, asked at 20, gets its first word in 22.
        self.assertEqual(judged(PROGRAM, WORKS, WORDS, ASKS[:1], log), 22)
        self.assertEqual(judged(PROGRAM[1:5], WORKS, WORDS, ASKS, log), 0)
        self.assertEqual(judged(PROGRAM[:4], WORKS, WORDS, ASKS, log), 9)
        self.assertEqual(judged(PROGRAM, [WORKS[0][:6] + (None,), WORKS[1]], WORDS, ASKS, log), 10)

    def test_beyond_the_end(self):
        program = (("rest", 1),)
        log = [(None, "goes"), (None, "ends"), (None, "ends")]
        self.assertIsNone(judged(program, [], WORDS, [], log))
        self.assertEqual(judged(program, [], WORDS, [], log + [(None, "goes")]), 3)
        self.assertEqual(judged(program, [], WORDS, [], [(None, "ends")]), 0)


class NoBeats(unittest.TestCase):
    moved = (0, "get", 0, 10)
    got = ("get", 1, 11)

    def none(self):
        """Entries that are no beats, of each kind."""
        moved, got = self.moved, self.got
        rows = [None, True, False, 0, 1, -1, "", "goes", "waits", (), (None,), ("goes",), (None, "goes", None),
                (None, "goes", "goes"), ("goes", None), (None, None), (None, True), (None, False), (None, 0), (None, 1),
                (None, ""), (None, "Goes"), (None, "goes "), (None, "wait"), (None, "get"), (None, "rests"), (None, ()),
                (None, ("goes",)), (None, ("get",)), (None, got[:2]), (None, got + (0,)), (None, got + (None,)),
                (None, moved), (None, (None,) + got), (None, (got,)), (got, "goes"), (moved[:3], "goes"), (moved[1:], "goes"),
                (moved + (0,), "goes"), (moved + (None,), "goes"), ((moved,), "goes"), ((), "goes"), (True, "goes"),
                (False, "goes"), (0, "goes"), (1, "goes"), ("", "goes"), ("goes", "goes"), ("get", "goes"), (moved,),
                (moved, None), (moved, "goes", 0), (moved, got, None), moved, got]
        for word in ("", "Get", "gets", "get ", "waits", "goes", None, True, False, 0, 1, (), ("get",)):
            rows += [((0, word, 0, 10), "goes"), (None, (word, 1, 11))]
        for value in NO_NUMBERS + (-1, 6, 10 ** 30):
            rows.append(((value, "get", 0, 10), "goes"))
        for value in NO_NUMBERS + (-1, 32, 10 ** 30):
            rows += [((0, "put", value, 10), "goes"), (None, ("put", value, 11))]
        for value in NO_NUMBERS + (-1, 1000, 10 ** 30):
            rows += [((0, "get", 0, value), "waits"), (None, ("get", 1, value))]
        return rows

    def refused(self, log, at):
        with self.assertRaises(BadLog) as caught:
            judged(*HANDED, log)
        self.assertIs(caught.exception.__class__, BadLog)
        self.assertEqual(caught.exception.at, at)
        self.assertIs(caught.exception.at.__class__, int)

    def test_each_at_each_place(self):
        log = told(300)
        for entry in self.none():
            for at in (0, 1, 150, 299):
                self.refused(with_entry(log, at, entry), at)
            self.refused([entry], 0)
            self.refused(log[:7] + [entry], 7)

    def test_truths_in_the_place_of_the_right_number(self):
        # True is 1 for Python: an entry that is none, though it looks like what a hall tells.
        program, works = (("get", 0, 1),), [(1, 1, 1, 1, "all", None, None)] * 2
        memory = [0, 1, 0, 1]
        log = run(program, works, memory, [(0, 1)], 3)[0]
        self.assertEqual(log, [((1, "get", 1, 1), "waits"), ((1, "put", 1, 1), "waits"), (None, ("get", 1, 1))])
        for at, entry in ((0, ((True, "get", 1, 1), "waits")), (0, ((1, "get", True, 1), "waits")),
                          (0, ((1, "get", 1, True), "waits")), (2, (None, ("get", True, 1))), (2, (None, ("get", 1, True)))):
            with self.assertRaises(BadLog) as caught:
                judged(program, works, memory, [(0, 1)], with_entry(log, at, entry))
            self.assertEqual(caught.exception.at, at)

    def test_edges_are_let_by(self):
        for who in (0, 5):
            for address in (0, 31):
                for word in (0, 999):
                    for deed in ("get", "put"):
                        self.assertEqual(judged(*HANDED, [((who, deed, address, word), "goes")]), 0)
                        self.assertEqual(judged(*HANDED, [(None, (deed, address, word))]), 0)

    def test_works_and_addresses_that_there_are_none_of_here(self):
        # No matter how many works and words there are, they are beats, but such as can't be.
        self.assertEqual(judged((("end",),), [], [0] * 4, [], [((5, "get", 31, 0), "goes")]), 0)
        self.assertEqual(judged((("get", 0, 0),), [], [0] * 4, [], [(None, ("get", 4, 0))]), 0)

    def test_behind_one_that_cannot_be(self):
        log = told(300)
        wrong = with_entry(log, 2, (None, "ends"))
        self.assertEqual(judged(*HANDED, wrong), 2)
        for at in (3, 150, 299):
            self.refused(with_entry(wrong, at, None), at)
        self.refused(wrong + [(None, "ends")], 300)

    def test_the_first_of_several(self):
        log = told(20)
        self.refused(with_entry(with_entry(log, 9, None), 4, True), 4)
        self.refused([None, None], 0)

    def test_the_301st(self):
        log = told(300)
        self.assertIsNone(judged(*HANDED, log))
        hall = Hall(*HANDED)
        longer = [hall.beat() for beat in range(305)]
        self.refused(longer[:301], 300)
        self.refused(longer, 300)
        self.refused(log + [None], 300)
        self.refused(log + [None, None], 300)
        self.refused(with_entry(log, 299, None) + log[:1], 299)
