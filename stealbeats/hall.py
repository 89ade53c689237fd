"""A hall: a machine and a device at the same words, beat by beat."""

from stealbeats.checks import check_hall
from stealbeats.floor import Floor


class Hall:
    def __init__(self, program, works, memory, asks):
        check_hall(program, works, memory, asks)
        self.floor = Floor(program, works, memory, asks)

    def beat(self):
        """Does a beat; tells (what the device did, what the machine did)."""
        return self.floor.pass_beat()

    def shown(self):
        """Tells (beats that were, row, cells, words, marks, works that are on)."""
        return self.floor.seen()
