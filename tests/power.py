"""Disks that say what is done to them, and disks whose power was lost at each step of something."""

import copy

from pastamended.disk import Disk
from pastamended.errors import PowerLost


class Traced(Disk):
    """A disk that keeps a list of its writes, as pairs, and syncs, as the word."""

    def __init__(self, size):
        super().__init__(size)
        self.trace = []

    def write(self, index, text):
        super().write(index, text)
        self.trace.append((index, text))

    def sync(self):
        super().sync()
        self.trace.append("sync")

    def taken_trace(self):
        """What was done since this was asked before."""
        trace, self.trace = self.trace, []
        return trace


def blocks_of(disk):
    return [disk.block(index) for index in range(disk.size)]


def losses(disk, action):
    """The disks behind a loss of power at each write and sync of the action, for each choice of the waiting writes.

    They are pairs of the number of steps that were done and the disk behind its restart; the disk itself stays as it
    is. Last comes the disk behind the whole action.
    """
    done = 0
    while True:
        lost = copy.deepcopy(disk)
        lost.fall_after(done)
        try:
            action(lost)
        except PowerLost:
            for choice in range(2 ** lost.waiting()):
                other = copy.deepcopy(lost)
                other.restart(choice)
                yield done, other
            done += 1
        else:
            lost.fall_after(None)
            yield done, lost
            return
