"""The clusters of a film and the blocks within them."""

from strictfilm.contents import Contents
from strictfilm.contents import check_before
from strictfilm.cursor import Cursor
from strictfilm.errors import NotRight
from strictfilm.lacing import take_frame_lengths

TIME = 0xE7
SIMPLE_BLOCK = 0xA3
BLOCK_GROUP = 0xA0
GROUPED_BLOCK = 0xA1
REFERENCE = 0xFB

LATEST_TIME = 0x1000000000000
LONGEST_TRACK_NUMBER = 2
KEY_BIT = 0x80


class Block:
    """A block: what its frames have in common, where the first begins, and the length of each."""

    def __init__(self, track_number, time, is_key, start, lengths):
        self.track_number = track_number
        self.time = time
        self.is_key = is_key
        self.start = start
        self.lengths = lengths


def read_cluster(file, cluster, tracks):
    """The blocks, in the file's order."""
    contents = Contents(file, cluster)
    time = contents.number_once(TIME, 0, LATEST_TIME)
    holders = contents.all_named((SIMPLE_BLOCK, BLOCK_GROUP))
    check_before(contents.once(TIME), holders)
    return [read_holder(file, holder, time, tracks) for holder in holders]


def read_holder(file, holder, cluster_time, tracks):
    if holder.name == SIMPLE_BLOCK:
        return read_block(file, holder, cluster_time, tracks, None)
    contents = Contents(file, holder)
    is_key = not contents.all_named((REFERENCE,))
    return read_block(file, contents.once(GROUPED_BLOCK), cluster_time, tracks, is_key)


def read_block(file, element, cluster_time, tracks, is_key):
    """The block; if is_key is None, its flags tell whether it is key."""
    cursor = Cursor(file, element.start, element.end)
    track_number = cursor.take_known_number(LONGEST_TRACK_NUMBER).value
    if track_number not in tracks:
        raise NotRight()
    time = cluster_time + take_offset(cursor)
    flags = cursor.take_byte()
    if is_key is None:
        is_key = flags & KEY_BIT != 0
    lengths = take_frame_lengths(cursor, flags)
    return Block(track_number, time, is_key, cursor.place, lengths)


def take_offset(cursor):
    """A number of two bytes with a sign."""
    high = cursor.take_byte()
    value = high * 256 + cursor.take_byte()
    return value - 65536 if high >= 128 else value
