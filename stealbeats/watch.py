"""A floor that is watched: when rows are done, which pairs are got, which goings there are."""

from stealbeats.floor import Floor


class Watch:
    """A floor for so many beats, and what was seen of it.

    dones: of each row that was done, the beat in which it was first.
    on_behind: of each such row the works that are on behind that beat.
    pairs: (row, (beat, address) of the first get, (beat, address) of the second one), in turn.
    goings: all goings, by their beginning.
    """

    def __init__(self, program, works, memory, asks):
        self.floor = Floor(program, works, memory, asks)
        self.dones = {}
        self.on_behind = {}
        self.pairs = []
        self.first_get = None
        self.goings = []

    def run(self, beats):
        for done in range(beats):
            self.step()

    def run_till(self, row, beats):
        """Till the row is done, but no more than so many beats."""
        while row not in self.dones and self.floor.beats < beats:
            self.step()

    def step(self):
        floor = self.floor
        when, row = floor.beats, floor.machine.row
        moved, did = floor.pass_beat()
        self.goings.extend(floor.device.begun)
        if did in ("waits", "ends"):
            return
        last = floor.machine.spent == 0
        if floor.machine.program[row][0] == "pair":
            self.note_get(row, when, did[1], last)
        if last and row not in self.dones:
            self.dones[row] = when
            self.on_behind[row] = floor.device.numbers_on()

    def note_get(self, row, when, address, last):
        if last:
            self.pairs.append((row, self.first_get, (when, address)))
        else:
            self.first_get = (when, address)
