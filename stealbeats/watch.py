"""A hall that is watched: when rows are done, which pairs are got, which goings there are."""

from stealbeats.hall import Hall


class Watch:
    """A hall for so many beats, and what was seen of it.

    dones: of each row that was done, the beat in which it was first.
    on_behind: of each such row the works that are on behind that beat.
    pairs: (row, (beat, address) of the first get, (beat, address) of the second one), in turn.
    goings: all goings, by their beginning.
    """

    def __init__(self, program, works, memory, asks):
        self.hall = Hall(program, works, memory, asks)
        self.dones = {}
        self.on_behind = {}
        self.pairs = []
        self.first_get = None
        self.goings = []

    def run(self, beats):
        for done in range(beats):
            self.step()

    def step(self):
        hall = self.hall
        when, row = hall.beats, hall.machine.row
        moved, did = hall.beat()
        self.goings.extend(hall.device.begun)
        if did in ("waits", "ends"):
            return
        last = hall.machine.spent == 0
        if hall.machine.program[row][0] == "pair":
            self.note_get(row, when, did[1], last)
        if last and row not in self.dones:
            self.dones[row] = when
            self.on_behind[row] = hall.device.numbers_on()

    def note_get(self, row, when, address, last):
        if last:
            self.pairs.append((row, self.first_get, (when, address)))
        else:
            self.first_get = (when, address)
