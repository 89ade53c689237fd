"""The device: works, and which of them takes a beat."""


class Work:
    """A work, and how far its going is while it is on."""

    def __init__(self, begin, goal, many, block, greed, mark, follow):
        self.begin = begin
        self.goal = goal
        self.many = many
        self.block = block
        self.greed = greed
        self.mark = mark
        self.follow = follow
        self.on = False
        self.laid = 0
        self.hand = None

    def start(self):
        if not self.on:
            self.on = True
            self.laid = 0

    def held_off(self, marks):
        if self.mark is None or not marks[self.mark]:
            return False
        return self.hand is None and self.laid % self.block == 0

    def may_take(self, wanted, took):
        if self.greed == "all" or not wanted:
            return True
        return self.greed == "turn" and not took

    def move(self, words):
        if self.hand is None:
            return self.fetch(words)
        return self.lay(words)

    def fetch(self, words):
        address = (self.begin + self.laid) % len(words)
        self.hand = words[address]
        return "get", address, self.hand

    def lay(self, words):
        address = (self.goal + self.laid) % len(words)
        word = self.hand
        words[address] = word
        self.hand = None
        self.laid += 1
        self.on = self.laid < self.many
        return "put", address, word


class Device:
    """All works; took tells whether the device took the last beat."""

    def __init__(self, works):
        self.works = [Work(*work) for work in works]
        self.took = False

    def is_on(self, number):
        return number < len(self.works) and self.works[number].on

    def start(self, number):
        if number < len(self.works):
            self.works[number].start()

    def move(self, wanted, marks, words):
        number = self.taker(wanted, marks)
        self.took = number is not None
        if number is None:
            return None
        work = self.works[number]
        deed, address, word = work.move(words)
        if not work.on and work.follow is not None:
            self.start(work.follow)
        return number, deed, address, word

    def taker(self, wanted, marks):
        for number, work in enumerate(self.works):
            if work.on and not work.held_off(marks) and work.may_take(wanted, self.took):
                return number
        return None

    def goings(self):
        return [(number, work.laid, work.hand is not None) for number, work in enumerate(self.works) if work.on]
