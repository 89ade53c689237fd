"""The model, noting what comes about; times, tears and claims told from these notes.

It is here only to be compared with the program.
"""

import random

from tests.model import Model, random_row, random_work


class Noted(Model):
    def __init__(self, program, works, memory, asks, beats=300):
        self.firsts = {}
        self.ways = []
        self.on_way = {}
        self.gets = []
        super().__init__(program, works, memory, asks)
        for beat in range(beats):
            self.beat()

    def begin(self, number):
        if 0 <= number < len(self.works) and number not in self.moves:
            self.on_way[number] = len(self.ways)
            self.ways.append((number, []))
        super().begin(number)

    def device(self, wants):
        ways = dict(self.on_way)
        told = super().device(wants)
        if told is not None and told[1] == "put":
            self.ways[ways[told[0]]][1].append((self.count, told[2]))
        return told

    def machine(self):
        at = self.at
        told = super().machine()
        if isinstance(told, tuple) and self.program[at][0] == "pair":
            self.gets.append((at, self.count, told[1]))
        return told

    def row_over(self):
        at = self.at
        super().row_over()
        self.firsts.setdefault(at, (self.count, sorted(self.moves)))

    def times(self):
        return [self.firsts[row][0] if row in self.firsts else None for row in range(len(self.program))]

    def overs(self):
        told = []
        for number, work in enumerate(self.works):
            ends = [puts[-1][0] for who, puts in self.ways if who == number and len(puts) == work[2]]
            told.append(min(ends) if ends else None)
        return told

    def torns(self):
        told = []
        for (row, one, first), (again, two, second) in zip(self.gets[::2], self.gets[1::2]):
            assert row == again
            for who, puts in self.ways:
                goal, many = self.works[who][1:3]
                goals = {(goal + k) % len(self.words) for k in range(many)}
                early = [address for beat, address in puts if beat < one].count(first)
                late = [address for beat, address in puts if beat < two].count(second)
                if {first, second} <= goals and early != late:
                    told.append((row, two, who))
        return told

    def holds(self, claim):
        if claim[0] == "over":
            return claim[2] not in self.firsts or claim[1] not in self.firsts[claim[2]][1]
        if claim[0] == "whole":
            return all(row != claim[1] for row, beat, who in self.torns())
        low, high, one, other = claim[1:]
        behind, until = self.firsts.get(one, (300,))[0], self.firsts.get(other, (299,))[0]
        stretch = set(range(behind + 1, until + 1))
        return not any(beat in stretch and address in range(low, high + 1)
                       for who, puts in self.ways for beat, address in puts)


def straightened(program, chance):
    other = [("pair", 1, chance.randrange(32)), ("get", 0, 3), ("rest", chance.randint(1, 9))]
    crooked, rare = ("go", "if"), ("end",)
    return tuple(chance.choice(other) if row[0] in crooked or row[0] in rare and chance.random() < 0.7 else row
                 for row in program)


def random_straight(seed):
    """(program, works, asks) of a straight program, the same for the same seed."""
    chance = random.Random(seed)
    rows = chance.randint(1, 40)
    many = chance.randint(0, 6)
    program = straightened([random_row(chance, rows) for k in range(rows)], chance)
    works = [random_work(chance, many, ("all", "turn", "idle")) for k in range(many)]
    beats = sorted(chance.randint(0, chance.choice((9, 60, 200))) for k in range(chance.randint(0, 8) if many else 0))
    return program, works, [(beat, chance.randrange(many)) for beat in beats]


def random_pairs(seed):
    """(program, works, memory, asks) with many pairs, few words and at least one work."""
    chance = random.Random(seed)
    rows = chance.randint(2, 12)
    size = chance.randint(4, chance.choice((5, 7, 20)))
    many = chance.randint(1, 4)
    program = []
    for k in range(rows):
        pair = ("pair", chance.randrange(3), chance.randrange(32))
        program.append(chance.choice((pair, pair, pair, ("rest", chance.randint(1, 9)), random_row(chance, rows))))
    program.append(chance.choice((("go", chance.randrange(rows)), ("go", 0), ("end",), ("if", 0, 0))))
    works = [random_work(chance, many, ("all", "turn", "idle")) for k in range(many)]
    memory = [chance.randrange(1000) for k in range(size)]
    beats = sorted(chance.randint(0, 60) for k in range(chance.randint(0, 8)))
    return tuple(program), works, memory, [(beat, chance.randrange(many)) for beat in beats]


def random_claim(chance, program, works):
    rows = range(len(program))
    pairs = [row for row in rows if program[row][0] == "pair"]
    kind = chance.choice(("over", "kept") + ("whole",) * (2 if pairs else 0))
    if kind == "whole":
        return kind, chance.choice(pairs)
    if kind == "over":
        # An early row is likelier to be done.
        return kind, chance.randrange(len(works)), min(chance.choice(rows), chance.choice(rows))
    low = chance.choice((0, 0, chance.randrange(32)))
    return kind, low, chance.randint(low, 31), min(chance.choice(rows), chance.choice(rows)), chance.choice(rows)
