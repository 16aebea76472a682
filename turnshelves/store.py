"""The store: an image of the state, and behind it a group of changes for each later commit."""

from turnshelves.blocks import area_size, area_start, found, head, region_start, turn_of, write_block
from turnshelves.codes import write_changes, write_image
from turnshelves.errors import DiskFull, PowerOff
from turnshelves.shapes import room_needed
from turnshelves.states import State

FIRST_TURN = 1


def greatest_turn(disk):
    """The greatest turn that the sectors of the two areas have."""
    size = disk.size()
    behind = area_start(size, 1) + area_size(size)
    return max([turn_of(disk.read(index)) for index in range(area_start(size, 0), behind)])


class Store:
    """Keeps a state on a disk, so that each commit arrives there as a whole or not at all."""

    def __init__(self, disk):
        if not disk.is_on():
            raise PowerOff("the power is off")
        self.disk = disk
        disk.note_reads(region_start(disk.size()))
        # For a disk without a head these are the other sector and the other
        # area than those into which the first head and image are written.
        self.place = 1
        self.area = 1
        self.commits = 0
        self.state = State()
        told = found(disk)
        if told is None:
            self.renew(FIRST_TURN, self.commits, self.state)
        else:
            self.place, self.turn, self.area, self.commits, self.state = told
            self.renew(max(self.turn, greatest_turn(disk)) + 1, self.commits, self.state)

    def put(self, first, sectors):
        """Write some sectors one behind another, and sync."""
        for at, sector in enumerate(sectors):
            self.disk.write(first + at, sector)
        self.disk.sync()

    def renew(self, turn, commits, state):
        """Write a new image into the other area under a turn, and its head into the other sector."""
        sectors = write_block(turn, write_image(commits, state))
        area = 1 - self.area
        place = 1 - self.place
        self.put(area_start(self.disk.size(), area), sectors)
        self.put(place, [head(turn, area)])
        self.place = place
        self.area = area
        # This is always the greatest turn that was used.
        self.turn = turn
        # The number of sectors that the image and the groups take.
        self.taken = len(sectors)

    def has_room(self, state):
        """True if a state can be stored by the next commit."""
        size = self.disk.size()
        image = write_block(self.turn, write_image(self.commits + 1, state))
        return len(image) <= area_size(size) and room_needed(state) <= size - region_start(size)

    def fits(self, changes):
        """True if a commit with some changes can be stored."""
        return self.has_room(self.state.change(changes))

    def commit(self, changes):
        """Store a commit with some changes."""
        if not self.disk.is_on():
            raise PowerOff("the power is off")
        made = self.state.change(changes)
        if not self.has_room(made):
            raise DiskFull("the state after the commit has no room on the disk")
        size = self.disk.size()
        group = write_block(self.turn, write_changes(changes))
        if self.taken + len(group) > area_size(size):
            self.renew(self.turn + 1, self.commits + 1, made)
        else:
            self.put(area_start(size, self.area) + self.taken, group)
            self.taken += len(group)
        self.commits += 1
        self.state = made
