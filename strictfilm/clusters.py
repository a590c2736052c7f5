"""The clusters of a film and the blocks within them."""

from strictfilm.contents import Contents
from strictfilm.contents import check_before
from strictfilm.cursor import Cursor
from strictfilm.errors import NotRight
from strictfilm.lacing import take_frame_lengths

TIME = 0xE7
SIMPLE_BLOCK = 0xA3
BLOCK_GROUP = 0xA0
GROUPED_BLOCK = 0xA1

LATEST_TIME = 0x1000000000000
LONGEST_TRACK_NUMBER = 2
TIME_OFFSET_SIZE = 2


def count_cluster_frames(file, cluster, tracks):
    contents = Contents(file, cluster)
    contents.number_once(TIME, 0, LATEST_TIME)
    holders = contents.all_named((SIMPLE_BLOCK, BLOCK_GROUP))
    check_before(contents.once(TIME), holders)
    return sum([count_block_frames(file, block_in(file, holder), tracks) for holder in holders])


def block_in(file, holder):
    if holder.name == BLOCK_GROUP:
        return Contents(file, holder).once(GROUPED_BLOCK)
    return holder


def count_block_frames(file, block, tracks):
    cursor = Cursor(file, block.start, block.end)
    if cursor.take_known_number(LONGEST_TRACK_NUMBER).value not in tracks:
        raise NotRight()
    cursor.skip(TIME_OFFSET_SIZE)
    return len(take_frame_lengths(cursor, cursor.take_byte()))
