"""Points 7 to 10 over many halls: as the model tells, and what follows."""

import unittest

from stealbeats.hall import Hall
from stealbeats.runs import run
from tests.model import Model, random_hall

MANY = 400


class AsTheModel(unittest.TestCase):
    def test_each_beat_and_what_is_shown(self):
        for seed in range(MANY):
            handed = random_hall(seed)
            hall, model = Hall(*handed), Model(*handed)
            for beat in range(300):
                self.assertEqual(hall.shown(), model.shown(), seed)
                self.assertEqual(hall.beat(), model.beat(), (seed, beat))
            self.assertEqual(hall.shown(), model.shown(), seed)

    def test_runs(self):
        for seed in range(MANY, MANY + 100):
            handed = random_hall(seed)
            for beats in (0, 1, 7, 150, 300):
                model = Model(*handed)
                told = [model.beat() for beat in range(beats)]
                self.assertEqual(run(*handed, beats), (told, model.shown()), seed)


def deeds(told):
    """(beat, work or None for the machine, deed, address, word) of each beat that is for a word."""
    for beat, (device, machine) in enumerate(told):
        if device is not None:
            yield (beat,) + device
        if isinstance(machine, tuple):
            yield (beat, None) + machine


class WhatFollows(unittest.TestCase):
    def test_one_word_a_beat_and_each_get_gets_the_last_put(self):
        for seed in range(MANY):
            program, works, memory, asks = random_hall(seed)
            told, shown = run(program, works, memory, asks, 300)
            words, used = list(memory), []
            for beat, who, deed, address, word in deeds(told):
                used.append(beat)
                if deed == "put":
                    words[address] = word
                self.assertEqual(words[address], word, (seed, beat))
            self.assertEqual(len(used), len(set(used)), seed)
            self.assertEqual(shown[3], words, seed)

    def test_words_are_laid_in_turn_as_they_were_got(self):
        for seed in range(MANY):
            program, works, memory, asks = random_hall(seed)
            seen = {}
            for beat, who, deed, address, word in deeds(run(program, works, memory, asks, 300)[0]):
                if who is None:
                    continue
                nth, held = seen.get(who, (0, None))
                begin, goal, many = works[who][:3]
                if held is None:
                    self.assertEqual((deed, address), ("get", (begin + nth) % len(memory)), (seed, beat))
                    seen[who] = (nth, word)
                else:
                    self.assertEqual((deed, address, word), ("put", (goal + nth) % len(memory), held), (seed, beat))
                    seen[who] = ((nth + 1) % many, None)

    def test_without_works_or_with_idle_ones_the_machine_never_waits(self):
        for seed in range(MANY):
            for handed in (random_hall(seed, works=0), random_hall(seed, greeds=("idle",))):
                told = run(*handed, 300)[0]
                self.assertNotIn("waits", [machine for device, machine in told], seed)

    def test_by_turn_the_machine_never_waits_twice_in_a_row(self):
        waits = 0
        for seed in range(MANY):
            did = [machine for device, machine in run(*random_hall(seed, greeds=("turn",)), 300)[0]]
            waits += did.count("waits")
            for one, other in zip(did, did[1:]):
                self.assertNotEqual((one, other), ("waits", "waits"), seed)
        self.assertGreater(waits, MANY)
