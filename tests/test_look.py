"""What look answers, and what the interface says of every call."""

import contextlib
import io

from strictfilm.films import look
from tests.builder import (
    BODY, HEADER, HEADER_PARTS, FilmTest, block, body_parts, cluster, element, film, group, number, raw_name, track,
    unknown,
)

LONGEST = 100000


class Untouchable(list):
    """A list that can't be changed, not for a while either."""

    def refuse(self, *given, **named):
        raise AssertionError("what is handed in is changed")

    __setitem__ = __delitem__ = __iadd__ = __imul__ = refuse
    append = extend = insert = pop = remove = clear = reverse = sort = refuse


def plentiful():
    tracks = track(1) + track(2) + track(200)
    clusters = (
        cluster(block(0, b"one"), group(2, b"\1\1", b"ab"), time=7)
        + cluster(time=8)
        + cluster(block(4, b"\3", b"abcd", track_number=200), block(6, b"\2\x81\xbf", b"abc", track_number=2), time=9)
    )
    return film(body_parts(clusters, tracks, number(0x2AD7B1, 1234567)))


def fixed_to(length, *children):
    """A right film of just so many bytes, by an unnamed element at its end."""
    front = element(HEADER, HEADER_PARTS.bytes()) + raw_name(BODY) + unknown(1) + b"".join(children)
    rest = length - len(front) - 1 - 8
    return list(front + element(0xEC, b"\xff" * rest, size=8))


class LookTest(FilmTest):

    def test_the_four_numbers_in_their_order(self):
        self.assertEqual(look(plentiful()), [0, 3, 1234567, 3, 10])

    def test_the_fewest(self):
        self.assertEqual(look(film()), [0, 1, 1000000, 0, 0])

    def test_a_refusal_is_its_number_alone(self):
        self.assertEqual(look([]), [-1])
        self.assertEqual(look(plentiful()[:-1]), [-1])

    def test_files_of_few_bytes(self):
        for first in range(256):
            with self.subTest(first=first):
                self.wrong([first])
                self.wrong([first, first])
                self.wrong([first] * 40)

    def test_every_cut(self):
        file = plentiful()
        for length in range(len(file)):
            with self.subTest(length=length):
                self.wrong(file[:length])

    def test_kinds(self):
        for file in (plentiful(), film(), []):
            answer = look(file)
            self.assertIs(type(answer), list)
            self.assertEqual([type(given) for given in answer], [int] * len(answer))

    def test_argument_name(self):
        self.assertEqual(look(file=film()), look(film()))


class KeptTest(FilmTest):

    def test_what_is_handed_in_stays(self):
        for file in (plentiful(), plentiful()[:-1], film(), []):
            self.assertEqual(look(Untouchable(file)), look(file))
            handed = list(file)
            look(handed)
            self.assertEqual(handed, file)

    def test_a_second_call_answers_as_the_first(self):
        first, second, refused = plentiful(), film(), plentiful() + [0]
        for file, answer in [(first, look(first)), (refused, [-1]), (second, look(second)), (first, look(first))] * 2:
            self.assertEqual(look(file), answer)

    def test_an_answer_changed_by_its_owner_changes_no_other(self):
        look(plentiful()).append(5)
        look([]).append(5)
        self.assertEqual(look(plentiful()), [0, 3, 1234567, 3, 10])
        self.assertEqual(look([]), [-1])

    def test_nothing_is_printed(self):
        said = io.StringIO()
        with contextlib.redirect_stdout(said), contextlib.redirect_stderr(said):
            look(plentiful())
            look([])
        self.assertEqual(said.getvalue(), "")


class LongTest(FilmTest):

    def test_longest_file(self):
        file = fixed_to(LONGEST, body_parts(cluster(block(0, b"x"))).bytes())
        self.assertEqual(len(file), LONGEST)
        self.right(file, 1, 1000000, 1, 1)
        self.wrong(file[:-1])

    def test_longest_frame(self):
        frame = b"x" * (LONGEST - 200)
        self.right(film(body_parts(cluster(block(0, frame)))), 1, 1000000, 1, 1)

    def test_many_small_children(self):
        body = body_parts().bytes()
        count = (LONGEST - 200) // 2
        file = fixed_to(LONGEST, body, element(0x80) * count)
        self.assertEqual(len(file), LONGEST)
        self.right(file, 1, 1000000, 0, 0)

    def test_many_clusters(self):
        one = cluster()
        count = (LONGEST - 200) // len(one)
        self.right(fixed_to(LONGEST, body_parts(one * count).bytes()), 1, 1000000, count, 0)

    def test_many_frames(self):
        one = block(4, b"\xff")
        count = (LONGEST - 200) // len(one)
        file = fixed_to(LONGEST, body_parts(cluster(one * count)).bytes())
        self.right(file, 1, 1000000, 1, 256 * count)

    def test_many_bytes_of_one_length(self):
        told = b"\xff" * 300 + b"\0"
        file = film(body_parts(cluster(block(2, b"\1", told, b"x" * (255 * 300)))))
        self.assertLessEqual(len(file), LONGEST)
        self.right(file, 1, 1000000, 1, 2)

    def test_a_codec_as_long_as_the_file(self):
        self.wrong(film(body_parts(tracks=element(0xAE, element(0x86, b"x" * (LONGEST - 200))))))
        self.wrong([0xFF] * LONGEST)
        self.wrong([0] * LONGEST)
        self.wrong([0x80] * LONGEST)
