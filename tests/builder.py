"""Builds films byte by byte, right ones and wrong ones, and asks about them."""

import unittest

from strictfilm import films

LEAST, GREATEST = -2 ** 31, 2 ** 31 - 1
EARLIEST, LATEST = -2 ** 63, 2 ** 63 - 1
BY_SUMS, BY_EQUAL_PARTS, BY_DIFFERENCES = 2, 4, 6

HEADER, BODY, ABOUT, TRACKS, CLUSTER = 0x1A45DFA3, 0x18538067, 0x1549A966, 0x1654AE6B, 0x1F43B675


def coded(value, size=None):
    """A length number; of the fewest bytes that can say it, if no size is told."""
    if size is None:
        size = next(k for k in range(1, 9) if value < 2 ** (7 * k) - 1)
    return (value + 2 ** (7 * size)).to_bytes(size, "big")


def unknown(size):
    return coded(2 ** (7 * size) - 1, size)


def difference(value, size=1):
    """A difference between the lengths of two frames."""
    return coded(value + 2 ** (7 * size - 1) - 1, size)


def raw_name(name):
    return name.to_bytes((name.bit_length() + 7) // 8, "big")


def element(name, *parts, size=None):
    body = b"".join(parts)
    return raw_name(name) + coded(len(body), size) + body


def number(name, value, width=None):
    """An element that holds a number, of the fewest bytes if no width is told."""
    if width is None:
        width = (value.bit_length() + 7) // 8
    return element(name, value.to_bytes(width, "big"))


class Parts(dict):
    """The children of an element by their names, in order; made to be changed."""

    def but(self, name, *children):
        """The same children, with others (or none) in the place of the named one, or behind all."""
        changed = Parts(self)
        changed[name] = b"".join(children)
        return changed

    def twice(self, name):
        return self.but(name, self[name], self[name])

    def bytes(self):
        return b"".join(self.values())


HEADER_PARTS = Parts({
    0x42F7: number(0x42F7, 1),
    0x42F2: number(0x42F2, 4),
    0x42F3: number(0x42F3, 8),
    0x4282: element(0x4282, b"matroska"),
    0x4285: number(0x4285, 2),
})


def track_parts(track=1):
    return Parts({
        0xD7: number(0xD7, track),
        0x73C5: number(0x73C5, 1000 + track),
        0x83: number(0x83, 1),
        0x86: element(0x86, b"V_TEST"),
    })


def track(track_number=1):
    return element(0xAE, track_parts(track_number).bytes())


def cluster(*blocks, time=0):
    return element(CLUSTER, number(0xE7, time), *blocks)


def block_body(flags, *rest, track_number=1, offset=0):
    return coded(track_number) + offset.to_bytes(2, "big", signed=True) + bytes([flags]) + b"".join(rest)


def block(flags, *rest, **where):
    return element(0xA3, block_body(flags, *rest, **where))


def group(flags, *rest, **where):
    return element(0xA0, element(0xA1, block_body(flags, *rest, **where)))


def referring(flags, *rest, **where):
    """A group with FB, so that it is not key."""
    return element(0xA0, element(0xA1, block_body(flags, *rest, **where)), element(0xFB, b"\1"))


def body_parts(clusters=b"", tracks=None, about=b""):
    return Parts({
        ABOUT: element(ABOUT, about),
        TRACKS: element(TRACKS, track() if tracks is None else tracks),
        CLUSTER: clusters,
    })


def film(body=None, header=HEADER_PARTS):
    """A whole file from the children of its two elements."""
    body = body_parts() if body is None else body
    return list(element(HEADER, header.bytes()) + element(BODY, body.bytes()))


def film_of_track(parts):
    return film(body_parts(tracks=element(0xAE, parts.bytes())))


def film_of_blocks(*blocks, tracks=None):
    return film(body_parts(cluster(*blocks), tracks))


def plentiful():
    """A right film of three tracks, three clusters and ten frames."""
    picture = element(0xE0, number(0xB0, 320), number(0xBA, 200))
    tracks = (
        element(0xAE, track_parts(1).but(0xE0, picture).bytes())
        + track(2)
        + element(0xAE, track_parts(200).but(0x83, number(0x83, 2)).but(0xE1, element(0xE1)).bytes())
    )
    clusters = (
        cluster(block(0x80, b"one"), group(BY_SUMS, b"\1\1", b"de", offset=-8), time=7)
        + cluster(time=8)
        + cluster(
            block(BY_EQUAL_PARTS, b"\3", b"abcdefgh", track_number=200),
            referring(BY_DIFFERENCES, b"\2", coded(1), difference(1), b"abcdef", track_number=2, offset=5),
            time=9,
        )
    )
    return film(body_parts(clusters, tracks, number(0x2AD7B1, 1234567)))


PARENTS = (HEADER, BODY, ABOUT, TRACKS, 0xAE, 0xE0, 0xE1, CLUSTER, 0xA0)


def film_with(extra, parent, behind=True):
    """A right film of one track, one cluster and two frames, but for the extra bytes among one parent's children."""
    def nest(name, *parts):
        body = b"".join(parts)
        if name == parent:
            body = body + extra if behind else extra + body
        return element(name, body)
    picture = nest(0xE0, number(0xB0, 320), number(0xBA, 200))
    sound = nest(0xE1, number(0x9F, 2))
    grouped = nest(0xA0, element(0xA1, block_body(0, b"x")))
    return list(
        nest(HEADER, HEADER_PARTS.bytes())
        + nest(
            BODY,
            nest(ABOUT, number(0x2AD7B1, 5)),
            nest(TRACKS, nest(0xAE, track_parts().bytes(), picture, sound)),
            nest(CLUSTER, number(0xE7, 0), block(0, b"x"), grouped),
        )
    )


class FilmTest(unittest.TestCase):

    def right(self, file, *answer):
        """The file is right; look answers the numbers that are told, if any are."""
        got = films.look(file)
        self.assertEqual(got[0], 0)
        if answer:
            self.assertEqual(got, [0, *answer])

    def wrong(self, file):
        """The file is not right, for every call."""
        self.assertEqual(films.look(file), [-1])
        self.assertEqual(films.track(0, GREATEST, file), [-1])
        self.assertEqual(films.frame(0, GREATEST, file), [-1])
        self.assertEqual(films.find(1, LATEST, file), [-1])

    def frames(self, count, *blocks):
        self.right(film_of_blocks(*blocks), 1, 1000000, 1, count)

    def wrong_blocks(self, *blocks):
        self.wrong(film_of_blocks(*blocks))

    def right_everywhere(self, extra):
        for parent in PARENTS:
            for behind in (True, False):
                with self.subTest(extra=extra.hex(), parent=hex(parent), behind=behind):
                    self.right(film_with(extra, parent, behind), 1, 5, 1, 2)

    def wrong_everywhere(self, extra):
        """Wrong as the last child of whatever has children."""
        for parent in PARENTS:
            with self.subTest(extra=extra.hex(), parent=hex(parent)):
                self.wrong(film_with(extra, parent))
