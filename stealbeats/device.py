"""The device: works, their goings, and which of them takes a beat."""


class Going:
    """A work from its beginning till it is over; puts are (beat, address) of each word laid."""

    def __init__(self, number):
        self.number = number
        self.hand = None
        self.puts = []


class Work:
    """A work; going is None while it isn't on."""

    def __init__(self, begin, goal, many, block, greed, mark, follow):
        self.begin = begin
        self.goal = goal
        self.many = many
        self.block = block
        self.greed = greed
        self.mark = mark
        self.follow = follow
        self.going = None

    def held_off(self, marks):
        if self.mark is None or not marks[self.mark]:
            return False
        return self.going.hand is None and len(self.going.puts) % self.block == 0

    def may_take(self, wanted, took):
        if self.greed == "all" or not wanted:
            return True
        return self.greed == "turn" and not took

    def move(self, when, words):
        if self.going.hand is None:
            return self.fetch(words)
        return self.lay(when, words)

    def fetch(self, words):
        going = self.going
        address = (self.begin + len(going.puts)) % len(words)
        going.hand = words[address]
        return "get", address, going.hand

    def lay(self, when, words):
        going = self.going
        address = (self.goal + len(going.puts)) % len(words)
        word = going.hand
        words[address] = word
        going.hand = None
        going.puts.append((when, address))
        if len(going.puts) == self.many:
            self.going = None
        return "put", address, word


class Device:
    """All works; took tells whether the device took the last beat, begun the goings that began in it, in turn."""

    def __init__(self, works):
        self.works = [Work(*work) for work in works]
        self.took = False
        self.begun = []

    def is_on(self, number):
        return number < len(self.works) and self.works[number].going is not None

    def wake(self, asked):
        """A beat begins, with the works that are asked for it from outside."""
        self.begun = []
        for number in asked:
            self.start(number)

    def start(self, number):
        if number >= len(self.works):
            return
        work = self.works[number]
        if work.going is None:
            work.going = Going(number)
            self.begun.append(work.going)

    def move(self, when, wanted, marks, words):
        number = self.taker(wanted, marks)
        self.took = number is not None
        if number is None:
            return None
        work = self.works[number]
        deed, address, word = work.move(when, words)
        if work.going is None and work.follow is not None:
            self.start(work.follow)
        return number, deed, address, word

    def taker(self, wanted, marks):
        for number, work in enumerate(self.works):
            if self.is_on(number) and not work.held_off(marks) and work.may_take(wanted, self.took):
                return number
        return None

    def numbers_on(self):
        return [number for number in range(len(self.works)) if self.is_on(number)]

    def shown_on(self):
        on = [(number, self.works[number].going) for number in self.numbers_on()]
        return [(number, len(going.puts), going.hand is not None) for number, going in on]
