"""Points 2, 3, 4, 8 and 9: each row, beat by beat, without a device."""

import unittest

from stealbeats.hall import Hall
from stealbeats.runs import run

WORDS = [10, 11, 12, 13, 14]


def done(program, beats, memory=WORDS):
    """What the machine did, and what is shown."""
    told, shown = run(program, [], list(memory), [], beats)
    assert all(device is None for device, machine in told)
    return [machine for device, machine in told], shown


def cells_behind(program, beats, memory=WORDS):
    return done(program, beats, memory)[1][2]


class AtFirst(unittest.TestCase):
    def test_what_is_shown(self):
        hall = Hall((("end",),), [], [5, 6, 7, 8], [])
        self.assertEqual(hall.shown(), (0, 0, [0, 0, 0, 0], [5, 6, 7, 8], [False, False, False], []))

    def test_kinds_of_what_is_told(self):
        hall = Hall((("get", 0, 1),), [(0, 1, 1, 1, "idle", None, None)], [5, 6, 7, 8], [(0, 0)])
        told = hall.beat()
        shown = hall.shown()
        self.assertIs(told.__class__, tuple)
        self.assertIs(told[1].__class__, tuple)
        self.assertIs(shown.__class__, tuple)
        self.assertEqual([part.__class__ for part in shown[2:]], [list] * 4)
        self.assertTrue(all(mark is False for mark in shown[4]))
        self.assertEqual(shown[5], [(0, 0, False)])
        self.assertIs(shown[5][0].__class__, tuple)
        self.assertIs(shown[5][0][2], False)

    def test_kinds_of_a_run(self):
        told = run((("get", 0, 1),), [], [5, 6, 7, 8], [], 2)
        self.assertIs(told.__class__, tuple)
        self.assertEqual(told, ([(None, ("get", 1, 6)), (None, "ends")],
                                (2, None, [6, 0, 0, 0], [5, 6, 7, 8], [False] * 3, [])))

    def test_a_run_of_no_beats(self):
        self.assertEqual(run((("get", 0, 1),), [], [5, 6, 7, 8], [], 0),
                         ([], (0, 0, [0] * 4, [5, 6, 7, 8], [False] * 3, [])))


class Cells(unittest.TestCase):
    def test_set(self):
        told, shown = done((("set", 3, 999), ("set", 0, 4), ("set", 3, 0)), 2)
        self.assertEqual(told, ["goes", "goes"])
        self.assertEqual(shown[:3], (2, 2, [4, 0, 0, 999]))
        self.assertEqual(cells_behind((("set", 3, 999), ("set", 3, 0)), 2), [0, 0, 0, 0])

    def test_add(self):
        for one, other, both in ((3, 4, 7), (499, 500, 999), (500, 500, 0), (999, 999, 998), (999, 1, 0), (0, 0, 0)):
            program = (("set", 1, one), ("set", 2, other), ("add", 1, 2))
            self.assertEqual(cells_behind(program, 3), [0, both, other, 0])

    def test_add_to_itself(self):
        self.assertEqual(cells_behind((("set", 1, 600), ("add", 1, 1)), 2), [0, 200, 0, 0])

    def test_less(self):
        for one, other, told in ((3, 4, 1), (4, 4, 0), (5, 4, 0), (0, 999, 1), (999, 0, 0)):
            program = (("set", 1, one), ("set", 3, other), ("less", 1, 3))
            self.assertEqual(cells_behind(program, 3), [0, told, 0, other])
        self.assertEqual(cells_behind((("set", 1, 7), ("less", 1, 1)), 2), [0, 0, 0, 0])


class Words(unittest.TestCase):
    def test_get(self):
        told, shown = done((("get", 2, 3),), 1)
        self.assertEqual(told, [("get", 3, 13)])
        self.assertEqual(shown, (1, None, [0, 0, 13, 0], WORDS, [False] * 3, []))

    def test_put(self):
        told, shown = done((("set", 1, 77), ("put", 4, 1)), 2)
        self.assertEqual(told, ["goes", ("put", 4, 77)])
        self.assertEqual(shown[2:4], ([0, 77, 0, 0], [10, 11, 12, 13, 77]))

    def test_addresses_by_the_rest(self):
        for many in (4, 5, 7, 31, 32):
            memory = list(range(100, 100 + many))
            for address in (0, many - 1, many % 32, 30, 31):
                rest = address % many
                self.assertEqual(done((("get", 0, address),), 1, memory)[0], [("get", rest, 100 + rest)])
                told, shown = done((("put", address, 0),), 1, memory)
                self.assertEqual(told, [("put", rest, 0)])
                self.assertEqual(shown[3], [0 if at == rest else word for at, word in enumerate(memory)])

    def test_getx(self):
        program = (("set", 1, 998), ("getx", 3, 1))
        told, shown = done(program, 2)
        self.assertEqual(told, ["goes", ("get", 3, 13)])
        self.assertEqual(shown[2], [0, 998, 0, 13])

    def test_getx_into_its_own_holder(self):
        told, shown = done((("set", 1, 2), ("getx", 1, 1)), 2)
        self.assertEqual(told[1], ("get", 2, 12))
        self.assertEqual(shown[2], [0, 12, 0, 0])

    def test_putx(self):
        program = (("set", 1, 999), ("set", 2, 55), ("putx", 1, 2), ("putx", 1, 1))
        told, shown = done(program, 4)
        self.assertEqual(told[2:], [("put", 4, 55), ("put", 4, 999)])
        self.assertEqual(shown[3], [10, 11, 12, 13, 999])

    def test_what_was_put_is_got(self):
        program = (("set", 0, 5), ("put", 1, 0), ("get", 3, 6), ("getx", 2, 0))
        self.assertEqual(done(program, 4)[0], ["goes", ("put", 1, 5), ("get", 1, 5), ("get", 0, 10)])


class Pairs(unittest.TestCase):
    def test_pair_takes_two_beats(self):
        hall = Hall((("pair", 2, 1), ("end",)), [], WORDS, [])
        self.assertEqual(hall.beat(), (None, ("get", 1, 11)))
        self.assertEqual(hall.shown()[:3], (1, 0, [0, 0, 11, 0]))
        self.assertEqual(hall.beat(), (None, ("get", 2, 12)))
        self.assertEqual(hall.shown()[:3], (2, 1, [0, 0, 11, 12]))

    def test_lay_takes_two_beats(self):
        hall = Hall((("set", 0, 7), ("set", 1, 8), ("lay", 2, 0)), [], WORDS, [])
        hall.beat()
        hall.beat()
        self.assertEqual(hall.beat(), (None, ("put", 2, 7)))
        self.assertEqual(hall.shown()[:4], (3, 2, [7, 8, 0, 0], [10, 11, 7, 13, 14]))
        self.assertEqual(hall.beat(), (None, ("put", 3, 8)))
        self.assertEqual(hall.shown()[:4], (4, None, [7, 8, 0, 0], [10, 11, 7, 8, 14]))

    def test_the_next_address_by_the_rest(self):
        self.assertEqual(done((("pair", 0, 4),), 2)[0], [("get", 4, 14), ("get", 0, 10)])
        self.assertEqual(done((("lay", 9, 0),), 2)[0], [("put", 4, 0), ("put", 0, 0)])
        self.assertEqual(done((("pair", 0, 31),), 2)[0], [("get", 1, 11), ("get", 2, 12)])
        self.assertEqual(done((("pair", 0, 31),), 2, list(range(32)))[0], [("get", 31, 31), ("get", 0, 0)])


class Ways(unittest.TestCase):
    def test_go(self):
        hall = Hall((("go", 2), ("set", 0, 1), ("go", 0)), [], WORDS, [])
        rows = []
        for beat in range(5):
            rows.append(hall.shown()[1])
            self.assertEqual(hall.beat(), (None, "goes"))
        self.assertEqual(rows, [0, 2, 0, 2, 0])

    def test_if(self):
        for worth, row in ((0, 2), (1, 3), (999, 3)):
            program = (("set", 2, worth), ("if", 2, 3), ("end",), ("end",))
            told, shown = done(program, 2)
            self.assertEqual((told, shown[1]), (["goes", "goes"], row))

    def test_if_asks_for_its_own_cell(self):
        self.assertEqual(done((("set", 2, 5), ("if", 1, 0), ("end",)), 2)[1][1], 2)

    def test_if_as_the_last_row_goes_to_the_end(self):
        told, shown = done((("if", 0, 0),), 3)
        self.assertEqual(told, ["goes", "ends", "ends"])
        self.assertEqual(shown[:2], (3, None))

    def test_a_row_that_goes_to_itself(self):
        told, shown = done((("set", 0, 1), ("if", 0, 1)), 300)
        self.assertEqual(told, ["goes"] * 300)
        self.assertEqual(shown[:2], (300, 1))

    def test_the_end(self):
        hall = Hall((("end",), ("set", 0, 1)), [], WORDS, [])
        self.assertEqual(hall.beat(), (None, "goes"))
        self.assertEqual(hall.shown()[:2], (1, None))
        self.assertEqual(hall.beat(), (None, "ends"))
        self.assertEqual(hall.shown(), (2, None, [0] * 4, WORDS, [False] * 3, []))

    def test_behind_the_last_row(self):
        hall = Hall((("set", 0, 1),), [], WORDS, [])
        hall.beat()
        self.assertEqual(hall.shown()[:2], (1, None))
        self.assertEqual(hall.beat(), (None, "ends"))
        self.assertEqual(hall.beat(), (None, "ends"))
        self.assertEqual(hall.shown()[:3], (3, None, [1, 0, 0, 0]))

    def test_rest(self):
        for beats in (1, 2, 9):
            hall = Hall((("rest", beats), ("set", 0, 1)), [], WORDS, [])
            for beat in range(beats):
                self.assertEqual(hall.shown()[:2], (beat, 0))
                self.assertEqual(hall.beat(), (None, "goes"))
            self.assertEqual(hall.shown(), (beats, 1, [0] * 4, WORDS, [False] * 3, []))

    def test_resting_again(self):
        told, shown = done((("rest", 3), ("go", 0)), 9)
        self.assertEqual(told, ["goes"] * 9)
        self.assertEqual(shown[:2], (9, 0))

    def test_marks(self):
        hall = Hall((("mark", 2), ("mark", 0), ("mark", 0), ("clear", 2), ("clear", 1), ("clear", 0)), [], WORDS, [])
        seen = []
        for beat in range(6):
            self.assertEqual(hall.beat(), (None, "goes"))
            seen.append(hall.shown()[4])
        self.assertEqual(seen, [[False, False, True], [True, False, True], [True, False, True],
                                [True, False, False], [True, False, False], [False, False, False]])

    def test_ask_and_done_of_a_work_that_there_is_none_of(self):
        told, shown = done((("ask", 5), ("ask", 0), ("done", 1, 5), ("done", 2, 0)), 4)
        self.assertEqual(told, ["goes"] * 4)
        self.assertEqual(shown, (4, None, [0, 1, 1, 0], WORDS, [False] * 3, []))

    def test_a_loop_over_all_words(self):
        program = (
            ("set", 1, 5), ("set", 2, 1),
            ("getx", 3, 0), ("put", 4, 3), ("add", 0, 2), ("set", 3, 0), ("add", 3, 0), ("less", 3, 1),
            ("if", 3, 2),
        )
        told, shown = done(program, 60)
        self.assertEqual(shown[1:4], (None, [5, 5, 1, 0], [10, 11, 12, 13, 13]))
        self.assertEqual(told.index("ends"), 2 + 7 * 5)
        self.assertEqual([row for row in told if row not in ("goes", "ends")],
                         [("get", 0, 10), ("put", 4, 10), ("get", 1, 11), ("put", 4, 11), ("get", 2, 12),
                          ("put", 4, 12), ("get", 3, 13), ("put", 4, 13), ("get", 4, 13), ("put", 4, 13)])

    def test_forty_rows_one_behind_the_other(self):
        told, shown = done(tuple(("set", 0, row) for row in range(40)), 41)
        self.assertEqual(told, ["goes"] * 40 + ["ends"])
        self.assertEqual(shown[:3], (41, None, [39, 0, 0, 0]))
