"""The machine: rows done upon cells, marks and words."""

CELLS = 4
MARKS = 3
WORTHS = 1000


def beats_of(row):
    if row[0] == "rest":
        return row[1]
    return 2 if row[0] in ("pair", "lay") else 1


def word_of(row, spent, cells):
    """(deed, address, cell) of the row's beat behind those spent, None if it is for no word."""
    match row:
        case ("get", cell, address):
            return "get", address, cell
        case ("put", address, cell):
            return "put", address, cell
        case ("getx", cell, holder):
            return "get", cells[holder], cell
        case ("putx", holder, cell):
            return "put", cells[holder], cell
        case ("pair", cell, address):
            return "get", address + spent, cell + spent
        case ("lay", address, cell):
            return "put", address + spent, cell + spent
    return None


class Machine:
    """A program being done: row is the one that is done next or on, spent its beats that were."""

    def __init__(self, program):
        self.program = program
        self.cells = [0] * CELLS
        self.marks = [False] * MARKS
        self.row = 0
        self.spent = 0

    def ended(self):
        return self.row == len(self.program)

    def wanted(self):
        """What the coming beat is to do with a word, None if it is for none."""
        if self.ended():
            return None
        return word_of(self.program[self.row], self.spent, self.cells)

    def step(self, words, device):
        if self.ended():
            return "ends"
        wanted = self.wanted()
        if wanted is not None and device.took:
            return "waits"
        told = "goes" if wanted is None else self.use_word(wanted, words)
        self.spent += 1
        row = self.program[self.row]
        if self.spent == beats_of(row):
            self.finish(row, device)
        return told

    def use_word(self, wanted, words):
        deed, place, cell = wanted
        address = place % len(words)
        if deed == "get":
            self.cells[cell] = words[address]
        else:
            words[address] = self.cells[cell]
        return deed, address, words[address]

    def finish(self, row, device):
        self.spent = 0
        self.row += 1
        match row:
            case ("go", target):
                self.row = target
            case ("if", cell, target):
                if self.cells[cell] != 0:
                    self.row = target
            case ("end",):
                self.row = len(self.program)
            case ("ask", work):
                device.start(work)
            case ("mark", mark):
                self.marks[mark] = True
            case ("clear", mark):
                self.marks[mark] = False
            case ("set" | "add" | "less" | "done", cell, other):
                self.cells[cell] = self.reckoned(row[0], self.cells[cell], other, device)

    def reckoned(self, deed, worth, other, device):
        if deed == "set":
            return other
        if deed == "done":
            return 0 if device.is_on(other) else 1
        if deed == "add":
            return (worth + self.cells[other]) % WORTHS
        return 1 if worth < self.cells[other] else 0
