"""A hall: a machine and a device at the same words, beat by beat."""

from stealbeats.checks import check_asks, check_memory, check_program, check_works
from stealbeats.device import Device
from stealbeats.machine import Machine


class Hall:
    def __init__(self, program, works, memory, asks):
        check_program(program)
        check_works(works)
        check_memory(memory)
        check_asks(asks, works)
        self.machine = Machine(program)
        self.device = Device(works)
        self.words = list(memory)
        self.asks = list(asks)
        self.beats = 0

    def beat(self):
        """Does a beat; tells (what the device did, what the machine did)."""
        self.device.wake([work for when, work in self.asks if when == self.beats])
        wanted = self.machine.wanted() is not None
        moved = self.device.move(self.beats, wanted, self.machine.marks, self.words)
        done = self.machine.step(self.words, self.device)
        self.beats += 1
        return moved, done

    def shown(self):
        """Tells (beats that were, row, cells, words, marks, works that are on)."""
        machine = self.machine
        row = None if machine.ended() else machine.row
        return self.beats, row, list(machine.cells), list(self.words), list(machine.marks), self.device.shown_on()
