"""The disk: sectors that can be written and synced, and power that can fail."""

from turnshelves.blocks import region_start
from turnshelves.errors import InvalidArgument, PowerOff
from turnshelves.shapes import SECTOR_BYTES

FEWEST_SECTORS = 60
MOST_SECTORS = 400


def is_size(value):
    """True if a value is a number of sectors that a disk can have."""
    if not isinstance(value, int) or isinstance(value, bool):
        return False
    return FEWEST_SECTORS <= value <= MOST_SECTORS


class Disk:
    """Sectors, the writes that wait for a sync, and the counts of what was done."""

    def __init__(self, sectors):
        if not is_size(sectors):
            raise InvalidArgument("a disk has from 60 to 400 sectors")
        self.stored = [[0] * SECTOR_BYTES for _ in range(sectors)]
        # What is read: the sectors as they were written last, also by waiting writes.
        self.seen = list(self.stored)
        self.waiting = []
        self.reads = 0
        self.writes = 0
        self.logs = 0
        self.syncs = 0
        self.powered = True
        self.lost = 0
        self.allowed = None
        self.holder = None

    def size(self):
        """The number of sectors."""
        return len(self.stored)

    def read(self, index):
        """The list of the bytes of a sector, as it was written last."""
        return list(self.seen[index])

    def pending(self):
        """The number of waiting writes."""
        return len(self.waiting)

    def counts(self):
        """The tuple of the numbers of reads, writes, logs and syncs."""
        return (self.reads, self.writes, self.logs, self.syncs)

    def write(self, index, data):
        """Write a sector; the write waits for the next sync."""
        self.operate()
        sector = list(data)
        self.waiting.append((index, sector))
        self.seen[index] = sector
        if index < region_start(self.size()):
            self.logs += 1
        else:
            self.writes += 1

    def sync(self):
        """Sync the waiting writes."""
        self.operate()
        self.stored = list(self.seen)
        self.waiting = []
        self.syncs += 1

    def note_reads(self, count):
        """Add to the reads."""
        self.reads += count

    def fail_after(self, operations):
        """Let power fail after so many further operations."""
        if not self.powered:
            raise PowerOff("the power is off")
        self.allowed = operations

    def power(self, kept):
        """Let power fail, if it has not yet, and come back; kept tells which waiting writes arrive."""
        if self.powered:
            self.fail()
        for (index, sector), arrives in zip(self.waiting, kept):
            if arrives:
                self.stored[index] = sector
        self.seen = list(self.stored)
        self.waiting = []
        self.powered = True

    def is_on(self):
        """True if power is on."""
        return self.powered

    def losses(self):
        """How often power failed."""
        return self.lost

    def hold(self):
        """Note that a database of this disk is in use from now on, until power fails."""
        self.holder = self.lost

    def is_held(self):
        """True if a database of this disk is in use."""
        return self.holder == self.lost

    def operate(self):
        """Raise an error if the next operation is not made, since power is off or fails."""
        if not self.powered:
            raise PowerOff("the power is off")
        if self.allowed is not None:
            if self.allowed < 1:
                self.fail()
                raise PowerOff("the power failed")
            self.allowed -= 1

    def fail(self):
        """Let power fail."""
        self.powered = False
        self.lost += 1
        self.allowed = None
