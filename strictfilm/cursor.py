"""Length numbers, names and elements, taken one behind another from a stretch of the file."""

from strictfilm.errors import NotRight

LONGEST_NAME = 4
LONGEST_LENGTH = 8

# By how many bytes a length number has: its value when every bit behind the leading 1 is a 1.
ALL_ONES = (
    0,
    0x7F,
    0x3FFF,
    0x1FFFFF,
    0xFFFFFFF,
    0x7FFFFFFFF,
    0x3FFFFFFFFFF,
    0x1FFFFFFFFFFFF,
    0xFFFFFFFFFFFFFF,
)


def join_bytes(file, start, end, front):
    """The number that the bytes from start to end make behind what is in front."""
    value = front
    for place in range(start, end):
        value = value * 256 + file[place]
    return value


class LengthNumber:
    """A length number: of how many bytes it is, and its value."""

    def __init__(self, size, value):
        self.size = size
        self.value = value

    def is_all_ones(self):
        return self.value == ALL_ONES[self.size]


class Element:
    """An element: its name, and from where to where in the file its bytes go."""

    def __init__(self, name, start, end):
        self.name = name
        self.start = start
        self.end = end


class Cursor:
    """A place that moves on through a stretch of the file and never leaves it."""

    def __init__(self, file, start, end):
        self.file = file
        self.place = start
        self.limit = end

    def bytes_left(self):
        return self.limit - self.place

    def skip(self, size):
        if size > self.bytes_left():
            raise NotRight()
        self.place += size

    def take_byte(self):
        self.skip(1)
        return self.file[self.place - 1]

    def take_length_number(self, most_bytes):
        first = self.take_byte()
        size = 9 - first.bit_length()
        if size > most_bytes:
            raise NotRight()
        start = self.place
        self.skip(size - 1)
        return LengthNumber(size, join_bytes(self.file, start, self.place, first & (0xFF >> size)))

    def take_known_number(self, most_bytes):
        number = self.take_length_number(most_bytes)
        if number.is_all_ones():
            raise NotRight()
        return number

    def take_name(self):
        """The name as a number, its leading 1 included: so names of different sizes never look alike."""
        number = self.take_known_number(LONGEST_NAME)
        # All ones name nothing, so what a name of one byte less can say ends one below its all ones.
        if number.value < ALL_ONES[number.size - 1]:
            raise NotRight()
        return number.value + ALL_ONES[number.size] + 1

    def take_element(self):
        name = self.take_name()
        return self.take_body(name, self.take_known_number(LONGEST_LENGTH).value)

    def take_element_or_rest(self):
        """An element that, if its length is unknown, goes to the end of the stretch."""
        name = self.take_name()
        length = self.take_length_number(LONGEST_LENGTH)
        return self.take_body(name, self.bytes_left() if length.is_all_ones() else length.value)

    def take_body(self, name, size):
        start = self.place
        self.skip(size)
        return Element(name, start, self.place)
