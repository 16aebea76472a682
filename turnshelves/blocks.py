"""The blocks and heads of the low part of a disk, and what is found there."""

from turnshelves.codes import Reader
from turnshelves.errors import DamagedData
from turnshelves.shapes import SECTOR_BYTES

# Each sector of a block has a turn, a number of sectors and a piece.
TURN_BYTES = 6
COUNT_BYTES = 4
FRONT_BYTES = 10
PIECE_BYTES = 54
# The first piece begins with the number of bytes.
LENGTH_BYTES = 4

HEAD_MARK = (82, 85, 76, 69)
# The sectors of the heads stand before the areas.
HEADS = 2


def number_bytes(number, many):
    """The bytes, so many, of a number, the most significant first."""
    return [(number >> (8 * at)) & 255 for at in reversed(range(many))]


def number_of(data):
    """The number that some bytes are, the most significant first."""
    number = 0
    for byte in data:
        number = 256 * number + byte
    return number


def turn_of(sector):
    """The turn that a sector of a block has."""
    return number_of(sector[:TURN_BYTES])


def write_block(turn, data):
    """The list of the sectors of a block."""
    told = number_bytes(len(data), LENGTH_BYTES) + list(data)
    pieces = [told[at:at + PIECE_BYTES] for at in range(0, len(told), PIECE_BYTES)]
    front = number_bytes(turn, TURN_BYTES) + number_bytes(len(pieces), COUNT_BYTES)
    return [front + piece + [0] * (PIECE_BYTES - len(piece)) for piece in pieces]


def read_block(sectors, turn):
    """The pair of the bytes and the number of sectors of the block that some sectors begin with, or None."""
    if not sectors:
        return None
    many = number_of(sectors[0][TURN_BYTES:FRONT_BYTES])
    if many < 1 or many > len(sectors):
        return None
    if any([turn_of(sector) != turn for sector in sectors[:many]]):
        return None
    told = [byte for sector in sectors[:many] for byte in sector[FRONT_BYTES:]]
    length = number_of(told[:LENGTH_BYTES])
    if length > len(told) - LENGTH_BYTES:
        return None
    return (told[LENGTH_BYTES:LENGTH_BYTES + length], many)


def head(turn, area):
    """The sector of a head."""
    told = list(HEAD_MARK) + number_bytes(turn, TURN_BYTES) + [area]
    return told + [0] * (SECTOR_BYTES - len(told))


def read_head(sector):
    """The pair of the turn and the area of a head, or None."""
    first = len(HEAD_MARK)
    turn = number_of(sector[first:first + TURN_BYTES])
    area = number_of(sector[first + TURN_BYTES:first + TURN_BYTES + 1])
    if turn < 1 or area > 1 or sector != head(turn, area):
        return None
    return (turn, area)


def region_start(size):
    """The first sector of the region of a disk of a size; so many sectors are in the low part."""
    return size - (size - 2) // 2


def area_size(size):
    """The number of sectors of an area on a disk of a size."""
    return (region_start(size) - HEADS) // 2


def area_start(size, area):
    """The first sector of an area on a disk of a size."""
    return HEADS + area * area_size(size)


def found_head(disk):
    """The triple of the sector, the turn and the area of the head that counts, or None."""
    best = None
    for place in range(HEADS):
        told = read_head(disk.read(place))
        if told is not None and (best is None or told[0] > best[1]):
            best = (place, *told)
    return best


def blocks_of(disk, turn, area):
    """The list of the bytes of the blocks that stand one behind another in an area."""
    start = area_start(disk.size(), area)
    sectors = [disk.read(start + at) for at in range(area_size(disk.size()))]
    blocks = []
    block = read_block(sectors, turn)
    while block is not None:
        blocks.append(block[0])
        sectors = sectors[block[1]:]
        block = read_block(sectors, turn)
    return blocks


def read_changes_of(data):
    """The list of the changes of a group."""
    reader = Reader(data)
    changes = reader.read_changes()
    reader.end()
    return changes


def found(disk):
    """What is found on a disk with a head: its sector, turn and area, the number of commits, and the state."""
    told = found_head(disk)
    if told is None:
        return None
    place, turn, area = told
    blocks = blocks_of(disk, turn, area)
    if not blocks:
        raise DamagedData("an area has no image")
    reader = Reader(blocks[0])
    commits, state = reader.read_image()
    reader.end()
    for data in blocks[1:]:
        state = state.change(read_changes_of(data))
        commits += 1
    return (place, turn, area, commits, state)
