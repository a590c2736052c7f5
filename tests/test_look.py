"""What look answers."""

from strictfilm.films import look
from tests.builder import (
    BODY, HEADER, HEADER_PARTS, FilmTest, block, body_parts, cluster, element, film, plentiful, raw_name, unknown,
)

LONGEST = 100000


def fixed_to(length, *children):
    """A right film of just so many bytes, by an unnamed element at its end."""
    front = element(HEADER, HEADER_PARTS.bytes()) + raw_name(BODY) + unknown(1) + b"".join(children)
    rest = length - len(front) - 1 - 8
    return list(front + element(0xEC, b"\xff" * rest, size=8))


class LookTest(FilmTest):

    def test_the_four_numbers_in_their_order(self):
        self.assertEqual(look(plentiful()), [0, 3, 1234567, 3, 10])

    def test_the_fewest(self):
        self.assertEqual(look(film()), [0, 1, 1000000, 0, 0])

    def test_a_refusal_is_its_number_alone(self):
        self.assertEqual(look([]), [-1])
        self.assertEqual(look(plentiful()[:-1]), [-1])

    def test_files_of_few_bytes(self):
        for first in range(256):
            with self.subTest(first=first):
                self.wrong([first])
                self.wrong([first, first])
                self.wrong([first] * 40)

    def test_every_cut(self):
        file = plentiful()
        for length in range(len(file)):
            with self.subTest(length=length):
                self.wrong(file[:length])


class LongTest(FilmTest):

    def test_longest_file(self):
        file = fixed_to(LONGEST, body_parts(cluster(block(0, b"x"))).bytes())
        self.assertEqual(len(file), LONGEST)
        self.right(file, 1, 1000000, 1, 1)
        self.wrong(file[:-1])

    def test_longest_frame(self):
        frame = b"x" * (LONGEST - 200)
        self.right(film(body_parts(cluster(block(0, frame)))), 1, 1000000, 1, 1)

    def test_many_small_children(self):
        body = body_parts().bytes()
        count = (LONGEST - 200) // 2
        file = fixed_to(LONGEST, body, element(0x80) * count)
        self.assertEqual(len(file), LONGEST)
        self.right(file, 1, 1000000, 0, 0)

    def test_many_clusters(self):
        one = cluster()
        count = (LONGEST - 200) // len(one)
        self.right(fixed_to(LONGEST, body_parts(one * count).bytes()), 1, 1000000, count, 0)

    def test_many_frames(self):
        one = block(4, b"\xff")
        count = (LONGEST - 200) // len(one)
        file = fixed_to(LONGEST, body_parts(cluster(one * count)).bytes())
        self.right(file, 1, 1000000, 1, 256 * count)

    def test_many_bytes_of_one_length(self):
        told = b"\xff" * 300 + b"\0"
        file = film(body_parts(cluster(block(2, b"\1", told, b"x" * (255 * 300)))))
        self.assertLessEqual(len(file), LONGEST)
        self.right(file, 1, 1000000, 1, 2)

    def test_a_codec_as_long_as_the_file(self):
        self.wrong(film(body_parts(tracks=element(0xAE, element(0x86, b"x" * (LONGEST - 200))))))
        self.wrong([0xFF] * LONGEST)
        self.wrong([0] * LONGEST)
        self.wrong([0x80] * LONGEST)
