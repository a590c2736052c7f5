"""The children of an element, and how often they may be there."""

from strictfilm.cursor import Cursor
from strictfilm.cursor import join_bytes
from strictfilm.errors import NotRight

LONGEST_NUMBER = 8
# The most that a number of eight bytes can say: a bound for numbers that have no other.
GREATEST_NUMBER = 0xFFFFFFFFFFFFFFFF


class Contents:
    """The children of one element, in the file's order."""

    def __init__(self, file, element):
        self.file = file
        self.children = take_children(file, element)

    def all_named(self, names):
        return [child for child in self.children if child.name in names]

    def at_most_once(self, name):
        """The child of that name, or None."""
        found = self.all_named((name,))
        if len(found) > 1:
            raise NotRight()
        return found[0] if found else None

    def once(self, name):
        child = self.at_most_once(name)
        if child is None:
            raise NotRight()
        return child

    def number_once(self, name, least, most):
        return bounded_number(self.file, self.once(name), least, most)

    def number_or(self, name, least, most, otherwise):
        """The number of the child that is there at most once; what is handed in otherwise, without it."""
        child = self.at_most_once(name)
        if child is None:
            return otherwise
        return bounded_number(self.file, child, least, most)


def take_children(file, element):
    cursor = Cursor(file, element.start, element.end)
    children = []
    while cursor.bytes_left() > 0:
        children.append(cursor.take_element())
    return children


def bounded_number(file, element, least, most):
    if element.end - element.start > LONGEST_NUMBER:
        raise NotRight()
    value = join_bytes(file, element.start, element.end, 0)
    if value < least or value > most:
        raise NotRight()
    return value


def check_before(first, others):
    for other in others:
        if other.start < first.start:
            raise NotRight()
