"""The floor of a hall: a machine and a device at the same words."""

from stealbeats.device import Device
from stealbeats.machine import Machine


class Floor:
    """Nothing is checked here: a program with rests put in may be longer than one that is handed in."""

    def __init__(self, program, works, memory, asks):
        self.machine = Machine(program)
        self.device = Device(works)
        self.words = list(memory)
        self.asks = list(asks)
        self.beats = 0

    def pass_beat(self):
        """Does a beat; tells (what the device did, what the machine did)."""
        self.device.wake([work for when, work in self.asks if when == self.beats])
        wanted = self.machine.wanted() is not None
        moved = self.device.move(self.beats, wanted, self.machine.marks, self.words)
        done = self.machine.step(self.words, self.device)
        self.beats += 1
        return moved, done

    def seen(self):
        """Tells (beats that were, row, cells, words, marks, works that are on)."""
        machine = self.machine
        row = None if machine.ended() else machine.row
        return self.beats, row, list(machine.cells), list(self.words), list(machine.marks), self.device.shown_on()
