"""A second, differently made hall: rows as lists of beats, works as counts of gets and puts.

It is here only to be compared with the program.
"""

import random


class Model:
    def __init__(self, program, works, memory, asks):
        self.program, self.works, self.words, self.asks = program, list(works), list(memory), list(asks)
        self.cells, self.marks = [0, 0, 0, 0], [False, False, False]
        self.moves = {}
        self.last_taken = False
        self.count = 0
        self.at = 0
        self.left = self.beats_at(0)

    def beats_at(self, at):
        """The beats of a row: each None, or (deed, address by the rest, cell)."""
        if at >= len(self.program):
            return []
        word, *parts = self.program[at]
        size = len(self.words)
        if word == "get":
            return [("get", parts[1] % size, parts[0])]
        if word == "put":
            return [("put", parts[0] % size, parts[1])]
        if word == "getx":
            return [("get", self.cells[parts[1]] % size, parts[0])]
        if word == "putx":
            return [("put", self.cells[parts[0]] % size, parts[1])]
        if word == "pair":
            return [("get", (parts[1] + k) % size, parts[0] + k) for k in (0, 1)]
        if word == "lay":
            return [("put", (parts[0] + k) % size, parts[1] + k) for k in (0, 1)]
        if word == "rest":
            return [None] * parts[0]
        return [None]

    def begin(self, number):
        if 0 <= number < len(self.works) and number not in self.moves:
            self.moves[number] = [0, None]

    def allowed(self, number, wants):
        begin, goal, many, block, greed, mark, after = self.works[number]
        if mark is not None and self.marks[mark] and self.moves[number][0] % (2 * block) == 0:
            return False
        return {"all": True, "turn": not (wants and self.last_taken), "idle": not wants}[greed]

    def device(self, wants):
        able = [number for number in sorted(self.moves) if self.allowed(number, wants)]
        self.last_taken = bool(able)
        if not able:
            return None
        number = able[0]
        begin, goal, many, block, greed, mark, after = self.works[number]
        moved, held = self.moves[number]
        nth, laying = divmod(moved, 2)
        if laying:
            address = (goal + nth) % len(self.words)
            self.words[address] = held
            told = (number, "put", address, held)
        else:
            address = (begin + nth) % len(self.words)
            held = self.words[address]
            told = (number, "get", address, held)
        self.moves[number] = [moved + 1, held]
        if moved + 1 == 2 * many:
            del self.moves[number]
            if after is not None:
                self.begin(after)
        return told

    def row_over(self):
        word, *parts = self.program[self.at]
        self.at += 1
        cells = self.cells
        if word == "set":
            cells[parts[0]] = parts[1]
        elif word == "add":
            cells[parts[0]] = int(str(cells[parts[0]] + cells[parts[1]])[-3:])
        elif word == "less":
            cells[parts[0]] = int(cells[parts[0]] < cells[parts[1]])
        elif word == "done":
            cells[parts[0]] = int(parts[1] not in self.moves)
        elif word == "ask":
            self.begin(parts[0])
        elif word in ("mark", "clear"):
            self.marks[parts[0]] = word == "mark"
        elif word == "end":
            self.at = len(self.program)
        elif word == "go" or word == "if" and cells[parts[0]]:
            self.at = parts[-1]
        self.left = self.beats_at(self.at)

    def machine(self):
        if not self.left:
            return "ends"
        step = self.left[0]
        if step is not None and self.last_taken:
            return "waits"
        self.left = self.left[1:]
        told = "goes"
        if step is not None:
            deed, address, cell = step
            if deed == "get":
                self.cells[cell] = self.words[address]
            else:
                self.words[address] = self.cells[cell]
            told = (deed, address, self.words[address])
        if not self.left:
            self.row_over()
        return told

    def beat(self):
        for when, work in self.asks:
            if when == self.count:
                self.begin(work)
        wants = bool(self.left) and self.left[0] is not None
        told = self.device(wants), self.machine()
        self.count += 1
        return told

    def shown(self):
        row = self.at if self.at < len(self.program) else None
        going = [(number, self.moves[number][0] // 2, self.moves[number][0] % 2 == 1) for number in sorted(self.moves)]
        return self.count, row, list(self.cells), list(self.words), list(self.marks), going


def random_row(chance, rows):
    cell, address, first = chance.randrange(4), chance.randrange(32), chance.randrange(3)
    other, work, mark = chance.randrange(4), chance.randrange(6), chance.randrange(3)
    target = chance.randrange(rows)
    return chance.choice([
        ("set", cell, chance.randrange(1000)), ("add", cell, other), ("less", cell, other),
        ("get", cell, address), ("put", address, cell), ("getx", cell, other), ("putx", other, cell),
        ("get", cell, address), ("put", address, cell), ("pair", first, address), ("lay", address, first),
        ("go", target), ("if", cell, target), ("ask", work), ("ask", work), ("done", cell, work),
        ("mark", mark), ("clear", mark), ("rest", chance.randint(1, 9)), ("end",),
    ])


def random_work(chance, works, greeds):
    return (chance.randrange(32), chance.randrange(32), chance.randint(1, 16), chance.randint(1, 4),
            chance.choice(greeds), chance.choice([None, 0, 1, 2]), chance.choice([None] + list(range(works))))


def random_hall(seed, greeds=("all", "turn", "idle"), works=None):
    """(program, works, memory, asks), the same for the same seed."""
    chance = random.Random(seed)
    rows = chance.randint(1, 40)
    many = chance.randint(0, 6) if works is None else works
    program = tuple(random_row(chance, rows) for k in range(rows))
    memory = [chance.randrange(1000) for k in range(chance.randint(4, 32))]
    asks = []
    if many:
        beats = sorted(chance.randint(0, 200) for k in range(chance.randint(0, 8)))
        asks = [(beat, chance.randrange(many)) for beat in beats]
    return program, [random_work(chance, many, greeds) for k in range(many)], memory, asks
