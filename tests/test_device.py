"""Points 5 to 9: works, beside rows that want a word and rows that don't."""

import unittest

from stealbeats.hall import Hall
from stealbeats.runs import run

WORDS = [10, 11, 12, 13, 14, 15, 16, 17]
END = (("end",),)
GETS = tuple(("get", 0, 7) for row in range(40))
GOT = ("get", 7, 17)


def work(begin=0, goal=4, many=2, block=1, greed="all", mark=None, follow=None):
    return (begin, goal, many, block, greed, mark, follow)


def moves(told):
    """The beats as (work and deed, or None; what the machine did)."""
    return [(device and device[:2], machine) for device, machine in told]


def taken(told):
    return [device and device[0] for device, machine in told]


class Greeds(unittest.TestCase):
    def test_all_beside_words(self):
        told, shown = run((("get", 0, 0), ("get", 1, 1)), [work()], WORDS, [(0, 0)], 7)
        self.assertEqual(told, [
            ((0, "get", 0, 10), "waits"), ((0, "put", 4, 10), "waits"),
            ((0, "get", 1, 11), "waits"), ((0, "put", 5, 11), "waits"),
            (None, ("get", 0, 10)), (None, ("get", 1, 11)), (None, "ends"),
        ])
        self.assertEqual(shown, (7, None, [10, 11, 0, 0], [10, 11, 12, 13, 10, 11, 16, 17], [False] * 3, []))

    def test_all_beside_other_rows(self):
        for row in (("set", 0, 5), ("add", 0, 1), ("less", 0, 1), ("go", 1), ("if", 0, 1), ("ask", 3),
                    ("done", 3, 3), ("mark", 0), ("clear", 0), ("rest", 1), ("end",)):
            told, shown = run((row, ("rest", 9)), [work()], WORDS, [(0, 0)], 1)
            self.assertEqual(told, [((0, "get", 0, 10), "goes")], row)
            self.assertEqual(shown[5], [(0, 0, True)])

    def test_each_row_for_a_word_waits(self):
        for row in (("get", 0, 1), ("put", 1, 0), ("getx", 0, 1), ("putx", 1, 0), ("pair", 0, 1), ("lay", 1, 0)):
            told, shown = run((row,), [work(many=1)], WORDS, [(0, 0)], 2)
            self.assertEqual(moves(told), [((0, "get"), "waits"), ((0, "put"), "waits")], row)
            self.assertEqual(shown, (2, 0, [0] * 4, [10, 11, 12, 13, 10, 15, 16, 17], [False] * 3, []))
            self.assertIs(run((row,), [work(greed="idle")], WORDS, [(0, 0)], 1)[0][0][0], None)

    def test_idle_beside_words_and_other_rows(self):
        program = (("get", 0, 7), ("rest", 1), ("get", 0, 7), ("set", 1, 1), ("get", 0, 7))
        told, shown = run(program, [work(greed="idle")], WORDS, [(0, 0)], 8)
        self.assertEqual(moves(told), [
            (None, GOT), ((0, "get"), "goes"), (None, GOT), ((0, "put"), "goes"), (None, GOT),
            ((0, "get"), "ends"), ((0, "put"), "ends"), (None, "ends"),
        ])
        self.assertEqual(shown[5], [])

    def test_turn_beside_words(self):
        told, shown = run(GETS, [work(greed="turn")], WORDS, [(0, 0)], 9)
        self.assertEqual(moves(told), [
            ((0, "get"), "waits"), (None, GOT), ((0, "put"), "waits"), (None, GOT),
            ((0, "get"), "waits"), (None, GOT), ((0, "put"), "waits"), (None, GOT), (None, GOT),
        ])
        self.assertEqual(shown[1], 5)

    def test_turn_beside_other_rows_takes_each_beat(self):
        told = run((("rest", 9),), [work(greed="turn")], WORDS, [(0, 0)], 5)[0]
        self.assertEqual(moves(told), [((0, "get"), "goes"), ((0, "put"), "goes")] * 2 + [(None, "goes")])

    def test_turn_minds_a_beat_that_it_took_beside_another_row(self):
        program = (("rest", 1), ("get", 0, 7), ("get", 0, 7), ("rest", 1), ("rest", 1))
        told = run(program, [work(greed="turn")], WORDS, [(0, 0)], 5)[0]
        self.assertEqual(moves(told), [
            ((0, "get"), "goes"), (None, GOT), ((0, "put"), "waits"), (None, GOT), ((0, "get"), "goes"),
        ])

    def test_turn_minds_the_beat_ahead_only(self):
        program = (("rest", 1), ("get", 0, 7), ("rest", 1), ("get", 0, 7))
        told = run(program, [work(greed="turn")], WORDS, [(0, 0)], 4)[0]
        self.assertEqual(moves(told), [((0, "get"), "goes"), (None, GOT), ((0, "put"), "goes"), (None, GOT)])

    def test_turn_minds_beats_of_other_works(self):
        works = [work(greed="turn", many=1), work(many=1)]
        told = run(GETS, works, WORDS, [(0, 1), (1, 0)], 6)[0]
        self.assertEqual(moves(told), [
            ((1, "get"), "waits"), ((1, "put"), "waits"), (None, GOT), ((0, "get"), "waits"), (None, GOT),
            ((0, "put"), "waits"),
        ])

    def test_turn_in_the_first_beat(self):
        self.assertEqual(taken(run(GETS, [work(greed="turn")], WORDS, [(0, 0)], 1)[0]), [0])

    def test_pair_is_parted(self):
        told, shown = run((("pair", 0, 4),), [work(greed="turn")], WORDS, [(1, 0)], 5)
        self.assertEqual(told, [
            (None, ("get", 4, 14)), ((0, "get", 0, 10), "waits"), (None, ("get", 5, 15)),
            ((0, "put", 4, 10), "ends"), ((0, "get", 1, 11), "ends"),
        ])
        self.assertEqual(shown[2], [14, 15, 0, 0])

    def test_lay_is_parted(self):
        program = (("set", 0, 1), ("set", 1, 2), ("lay", 0, 0))
        told, shown = run(program, [work(begin=0, goal=0, many=2)], WORDS, [(3, 0)], 8)
        self.assertEqual(told[2:], [
            (None, ("put", 0, 1)), ((0, "get", 0, 1), "waits"), ((0, "put", 0, 1), "waits"),
            ((0, "get", 1, 11), "waits"), ((0, "put", 1, 11), "waits"), (None, ("put", 1, 2)),
        ])
        self.assertEqual(shown[3][:2], [1, 2])


class Moving(unittest.TestCase):
    def test_addresses_by_the_rest(self):
        told, shown = run(END, [work(begin=30, goal=31, many=3)], [1, 2, 3, 4, 5], [(0, 0)], 6)
        self.assertEqual([device for device, machine in told], [
            (0, "get", 0, 1), (0, "put", 1, 1), (0, "get", 1, 1), (0, "put", 2, 1), (0, "get", 2, 1), (0, "put", 3, 1),
        ])
        self.assertEqual(shown[3], [1, 1, 1, 1, 5])

    def test_addresses_go_on_beyond_31(self):
        told = run(END, [work(begin=31, goal=29, many=4)], [1, 2, 3, 4, 5], [(0, 0)], 8)[0]
        self.assertEqual([device[2] for device, machine in told], [1, 4, 2, 0, 3, 1, 4, 2])

    def test_sixteen_words_among_four(self):
        told, shown = run(END, [work(begin=0, goal=1, many=16)], [1, 2, 3, 4], [(0, 0)], 33)
        self.assertEqual([device[2] for device, machine in told[:32]],
                         [address % 4 for nth in range(16) for address in (nth, nth + 1)])
        self.assertEqual(told[32], (None, "ends"))
        self.assertEqual(shown[3], [1, 1, 1, 1])

    def test_a_word_is_laid_as_it_was_got(self):
        program = (("set", 0, 99), ("put", 0, 0))
        told, shown = run(program, [work(many=1, greed="turn")], WORDS, [(0, 0)], 3)
        self.assertEqual(told, [((0, "get", 0, 10), "goes"), (None, ("put", 0, 99)), ((0, "put", 4, 10), "ends")])
        self.assertEqual(shown[3], [99, 11, 12, 13, 10, 15, 16, 17])

    def test_a_word_of_0_is_in_hand(self):
        hall = Hall(END, [work(many=1)], [0, 1, 2, 3, 4], [(0, 0)])
        self.assertEqual(hall.beat()[0], (0, "get", 0, 0))
        self.assertEqual(hall.shown()[5], [(0, 0, True)])
        self.assertEqual(hall.beat()[0], (0, "put", 4, 0))
        self.assertEqual(hall.shown()[5], [])

    def test_what_is_shown_of_works(self):
        hall = Hall(END, [work(many=3)], WORDS, [(1, 0)])
        seen = [hall.shown()[5]]
        for beat in range(7):
            hall.beat()
            seen.append(hall.shown()[5])
        self.assertEqual(seen, [[], [], [(0, 0, True)], [(0, 1, False)], [(0, 1, True)], [(0, 2, False)],
                                [(0, 2, True)], []])


class Together(unittest.TestCase):
    def test_the_lower_number_goes_first(self):
        works = [work(many=1), work(many=1), work(many=1)]
        hall = Hall(END, works, WORDS, [(0, 2), (0, 1), (1, 0)])
        told = [hall.beat()]
        self.assertEqual(hall.shown()[5], [(1, 0, True), (2, 0, False)])
        told += [hall.beat() for beat in range(6)]
        self.assertEqual([device and device[:2] for device, machine in told],
                         [(1, "get"), (0, "get"), (0, "put"), (1, "put"), (2, "get"), (2, "put"), None])

    def test_one_that_may_not_take_leaves_the_beat_to_the_next(self):
        program = (("get", 0, 7), ("rest", 2), ("get", 0, 7))
        works = [work(greed="idle", many=1), work(many=1)]
        told = run(program, works, WORDS, [(0, 0), (0, 1)], 6)[0]
        self.assertEqual(moves(told), [((1, "get"), "waits"), ((1, "put"), "waits"), (None, GOT),
                                       ((0, "get"), "goes"), ((0, "put"), "goes"), (None, GOT)])

    def test_one_held_off_leaves_the_beat_to_the_next(self):
        program = (("mark", 1), ("rest", 3), ("clear", 1), ("rest", 9))
        works = [work(many=1, mark=1), work(many=3, mark=0)]
        told = run(program, works, WORDS, [(1, 0), (1, 1)], 10)[0]
        self.assertEqual(taken(told), [None, 1, 1, 1, 1, 0, 0, 1, 1, None])

    def test_words_in_two_hands(self):
        works = [work(0, 4, 1, greed="idle"), work(1, 5, 1)]
        program = (("rest", 1), ("get", 0, 7), ("rest", 1))
        told, shown = run(program, works, WORDS, [(0, 0), (1, 1)], 3)
        self.assertEqual(told, [((0, "get", 0, 10), "goes"), ((1, "get", 1, 11), "waits"),
                                ((1, "put", 5, 11), "waits")])
        self.assertEqual(shown[5], [(0, 0, True)])

    def test_six_works(self):
        works = [work(goal=at, many=1) for at in range(6)]
        told = run(END, works, WORDS, [(0, at) for at in (5, 3, 1, 0, 2, 4)], 12)[0]
        self.assertEqual(taken(told), [0, 0, 1, 1, 2, 2, 3, 3, 4, 4, 5, 5])


class Marks(unittest.TestCase):
    def test_held_off_ahead_of_a_block_only(self):
        program = (("mark", 2), ("rest", 5), ("clear", 2), ("rest", 9))
        for block, held in ((1, [0, 0, None, None, None, None, None, 0, 0, 0]),
                            (2, [0, 0, 0, 0, None, None, None, 0, 0, 0]),
                            (3, [0, 0, 0, 0, 0, 0, None, 0, 0, 0]),
                            (4, [0, 0, 0, 0, 0, 0, 0, 0, 0, 0])):
            told = run(program, [work(many=5, block=block, mark=2)], WORDS, [(0, 0)], 10)[0]
            self.assertEqual(taken(told), held, block)

    def test_a_mark_is_minded_from_the_next_beat_on(self):
        told = run((("mark", 0), ("rest", 9)), [work(mark=0)], WORDS, [(0, 0)], 4)[0]
        self.assertEqual(taken(told), [0, 0, None, None])
        told = run((("mark", 0), ("rest", 9)), [work(mark=0)], WORDS, [(1, 0)], 4)[0]
        self.assertEqual(taken(told), [None, None, None, None])

    def test_a_mark_cleared_is_minded_from_the_next_beat_on(self):
        program = (("mark", 0), ("rest", 1), ("clear", 0), ("rest", 9))
        told = run(program, [work(mark=0)], WORDS, [(1, 0)], 5)[0]
        self.assertEqual(taken(told), [None, None, None, 0, 0])

    def test_other_marks_do_not_matter(self):
        program = (("mark", 0), ("mark", 2), ("rest", 9))
        for mark in (1, None):
            told = run(program, [work(mark=mark)], WORDS, [(2, 0)], 6)[0]
            self.assertEqual(taken(told), [None, None, 0, 0, 0, 0])

    def test_a_block_cut_short_by_the_end_of_a_work(self):
        program = (("rest", 5), ("mark", 0), ("rest", 9))
        works = [work(many=3, block=2, mark=0, follow=0)]
        told = run(program, works, WORDS, [(0, 0)], 9)[0]
        self.assertEqual(taken(told), [0, 0, 0, 0, 0, 0, None, None, None])

    def test_a_held_off_work_stays_on_at_the_end(self):
        told, shown = run((("mark", 0),), [work(mark=0)], WORDS, [(1, 0)], 50)
        self.assertEqual(told[1:], [(None, "ends")] * 49)
        self.assertEqual(shown[4:], ([True, False, False], [(0, 0, False)]))

    def test_the_machine_waits_for_no_held_off_work(self):
        told = run((("mark", 0),) + GETS[:3], [work(mark=0)], WORDS, [(1, 0)], 4)[0]
        self.assertEqual(told, [(None, "goes")] + [(None, GOT)] * 3)

    def test_a_held_off_beat_is_not_taken(self):
        program = (("mark", 0), ("clear", 0), ("get", 0, 7), ("get", 0, 7))
        told = run(program, [work(mark=0, greed="turn")], WORDS, [(1, 0)], 4)[0]
        self.assertEqual(moves(told), [(None, "goes"), (None, "goes"), ((0, "get"), "waits"), (None, GOT)])


class Chains(unittest.TestCase):
    def test_next_begins_when_a_work_is_over(self):
        works = [work(many=1, follow=2), work(), work(1, 6, 1)]
        hall = Hall(END, works, WORDS, [(0, 0)])
        told, seen = [], []
        for beat in range(5):
            told.append(hall.beat()[0])
            seen.append(hall.shown()[5])
        self.assertEqual(told, [(0, "get", 0, 10), (0, "put", 4, 10), (2, "get", 1, 11), (2, "put", 6, 11), None])
        self.assertEqual(seen, [[(0, 0, True)], [(2, 0, False)], [(2, 0, True)], [], []])

    def test_next_with_a_lower_number(self):
        works = [work(1, 6, 1), work(many=1, follow=0)]
        self.assertEqual(taken(run(END, works, WORDS, [(0, 1)], 5)[0]), [1, 1, 0, 0, None])

    def test_its_own_next_one(self):
        hall = Hall((("rest", 9),), [work(many=1, follow=0)], WORDS, [(0, 0)])
        told, seen = [], []
        for beat in range(6):
            told.append(hall.beat()[0])
            seen.append(hall.shown()[5])
        self.assertEqual(told, [(0, "get", 0, 10), (0, "put", 4, 10)] * 3)
        self.assertEqual(seen, [[(0, 0, True)], [(0, 0, False)]] * 3)

    def test_its_own_next_one_is_never_done(self):
        program = (("done", 0, 0),) * 8
        told, shown = run(program, [work(many=1, follow=0)], WORDS, [(0, 0)], 8)
        self.assertEqual(shown[2], [0, 0, 0, 0])

    def test_next_that_is_on_goes_on(self):
        works = [work(many=1, follow=1), work(1, 6, 2)]
        hall = Hall(END, works, WORDS, [(0, 1), (3, 0)])
        told = [hall.beat()[0] for beat in range(7)]
        self.assertEqual(told, [(1, "get", 1, 11), (1, "put", 6, 11), (1, "get", 2, 12), (0, "get", 0, 10),
                                (0, "put", 4, 10), (1, "put", 7, 12), None])

    def test_works_in_a_ring(self):
        works = [work(many=1, follow=1), work(many=1, follow=2), work(many=1, follow=0)]
        self.assertEqual(taken(run(END, works, WORDS, [(0, 1)], 300)[0]), [1, 1, 2, 2, 0, 0] * 50)


class Asking(unittest.TestCase):
    def test_from_outside_it_begins_in_that_beat(self):
        for beat in (0, 1, 5, 200):
            told = run(END, [work(many=1)], WORDS, [(beat, 0)], 300)[0]
            self.assertEqual(taken(told), [None] * beat + [0, 0] + [None] * (298 - beat))

    def test_by_a_row_it_is_minded_from_the_next_beat_on(self):
        hall = Hall((("ask", 1),), [work(), work(many=1)], WORDS, [])
        self.assertEqual(hall.beat(), (None, "goes"))
        self.assertEqual(hall.shown()[5], [(1, 0, False)])
        self.assertEqual(hall.beat(), ((1, "get", 0, 10), "ends"))
        self.assertEqual(hall.beat(), ((1, "put", 4, 10), "ends"))
        self.assertEqual(hall.beat(), (None, "ends"))

    def test_one_that_is_on_is_not_begun_anew(self):
        told = run(END, [work(many=2)], WORDS, [(0, 0), (0, 0), (1, 0), (2, 0), (3, 0)], 6)[0]
        self.assertEqual(taken(told), [0, 0, 0, 0, None, None])
        told = run((("ask", 0),) * 5, [work(many=2)], WORDS, [], 7)[0]
        self.assertEqual([device and device[1:3] for device, machine in told],
                         [None, ("get", 0), ("put", 4), ("get", 1), ("put", 5), ("get", 0), ("put", 4)])

    def test_one_that_is_over_is_begun_anew(self):
        told = run(END, [work(many=1)], WORDS, [(0, 0), (2, 0), (5, 0)], 8)[0]
        self.assertEqual(taken(told), [0, 0, 0, 0, None, 0, 0, None])

    def test_by_a_row_in_the_beat_in_which_it_is_over(self):
        told, shown = run((("rest", 1), ("ask", 0)), [work(many=1)], WORDS, [(0, 0)], 2)
        self.assertEqual(taken(told), [0, 0])
        self.assertEqual(shown[5], [(0, 0, False)])

    def test_a_work_that_there_is_none_of(self):
        told, shown = run((("ask", 1), ("done", 2, 1), ("done", 3, 0)), [work(greed="idle")], WORDS, [(0, 0)], 3)
        self.assertEqual(taken(told), [0, 0, 0])
        self.assertEqual(shown[2], [0, 0, 1, 0])
        self.assertEqual(shown[5], [(0, 1, True)])

    def test_done(self):
        program = (("done", 0, 0), ("ask", 0), ("done", 1, 0), ("done", 2, 0), ("done", 3, 0))
        hall = Hall(program, [work(many=1)], WORDS, [])
        cells = []
        for beat in range(5):
            hall.beat()
            cells.append(hall.shown()[2])
        self.assertEqual(cells, [[1, 0, 0, 0], [1, 0, 0, 0], [1, 0, 0, 0], [1, 0, 1, 0], [1, 0, 1, 1]])

    def test_done_clears_a_cell(self):
        program = (("set", 0, 7), ("set", 1, 7), ("done", 0, 0), ("done", 1, 1))
        self.assertEqual(run(program, [work(many=8), work()], WORDS, [(0, 0)], 4)[1][2], [0, 1, 0, 0])

    def test_waiting_for_a_work(self):
        program = (("ask", 0), ("done", 0, 0), ("if", 0, 4), ("go", 1), ("get", 1, 4))
        told, shown = run(program, [work(many=3, greed="turn")], WORDS, [], 12)
        self.assertEqual(taken(told), [None] + [0] * 6 + [None] * 5)
        self.assertEqual([machine for device, machine in told], ["goes"] * 9 + [("get", 4, 10), "ends", "ends"])
        self.assertEqual(shown[2], [1, 10, 0, 0])
