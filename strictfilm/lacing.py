"""How the frames of a block share its bytes."""

from strictfilm.cursor import ALL_ONES
from strictfilm.cursor import LONGEST_LENGTH
from strictfilm.errors import NotRight

LACING_BITS = 6
NO_LACING = 0
BY_SUMS = 2
BY_EQUAL_PARTS = 4


def take_frame_lengths(cursor, flags):
    """The length of each frame; the cursor, right behind the flags, moves to where the first frame begins."""
    lacing = flags & LACING_BITS
    if lacing == NO_LACING:
        return [cursor.bytes_left()]
    frames = cursor.take_byte() + 1
    if lacing == BY_EQUAL_PARTS:
        return equal_lengths(cursor.bytes_left(), frames)
    if lacing == BY_SUMS:
        lengths = take_sums(cursor, frames - 1)
    else:
        lengths = take_differences(cursor, frames - 1)
    return with_last_length(lengths, cursor.bytes_left())


def equal_lengths(rest, frames):
    if rest % frames != 0:
        raise NotRight()
    return [rest // frames] * frames


def take_sums(cursor, count):
    lengths = []
    while len(lengths) < count:
        lengths.append(take_sum(cursor))
    return lengths


def take_sum(cursor):
    byte = cursor.take_byte()
    total = byte
    while byte == 0xFF:
        byte = cursor.take_byte()
        total += byte
    return total


def take_differences(cursor, count):
    lengths = []
    while len(lengths) < count:
        number = cursor.take_known_number(LONGEST_LENGTH)
        if lengths:
            # Half of all ones stands for no difference, so that differences below 0 can be written.
            lengths.append(lengths[-1] + number.value - ALL_ONES[number.size] // 2)
        else:
            lengths.append(number.value)
    return lengths


def with_last_length(lengths, rest):
    whole = lengths + [rest - sum(lengths)]
    if min(whole) < 0:
        raise NotRight()
    return whole
