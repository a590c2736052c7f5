"""What find answers."""

from strictfilm.films import find, frame, look, track
from tests.builder import (
    BY_DIFFERENCES, BY_EQUAL_PARTS, BY_SUMS, EARLIEST, GREATEST, LATEST, LEAST, FilmTest, block, body_parts, cluster,
    coded, element, film, film_of_blocks, group, number, plentiful, referring, track as track_element,
)

KEY = 0x80


def film_of_times(*times):
    """A key frame at each time, in a cluster of its own."""
    return film(body_parts(b"".join(cluster(block(KEY, b"x"), time=time) for time in times)))


class FindTest(FilmTest):

    def found(self, file, track_number, *times_and_answers):
        for time, answer in times_and_answers:
            with self.subTest(track_number=track_number, time=time):
                self.assertEqual(find(track_number, time, file), [answer])


class TimesTest(FindTest):

    def test_just_at_below_and_above(self):
        file = film_of_times(100, 200, 300)
        self.found(file, 1, (99, -2), (100, 0), (101, 0), (199, 0), (200, 1), (201, 1), (299, 1), (300, 2), (301, 2))

    def test_both_ends_of_the_range(self):
        self.found(film_of_times(0, 2 ** 48), 1, (EARLIEST, -2), (EARLIEST + 1, -2), (LATEST - 1, 1), (LATEST, 1))

    def test_latest_time_there_can_be(self):
        latest = 2 ** 48 + 32767
        file = film(body_parts(cluster(block(KEY), block(KEY, offset=32767), time=2 ** 48)))
        self.found(file, 1, (2 ** 48 - 1, -2), (2 ** 48, 0), (latest - 1, 0), (latest, 1), (latest + 1, 1))

    def test_below_zero(self):
        file = film_of_blocks(block(KEY, offset=-32768), block(KEY, offset=-2), block(KEY, offset=-1), block(KEY))
        self.found(file, 1, (-32769, -2), (-32768, 0), (-3, 0), (-2, 1), (-1, 2), (0, 3), (LATEST, 3))

    def test_offset_counts(self):
        file = film(body_parts(cluster(block(KEY, offset=-5), block(KEY, offset=5), time=50)))
        self.found(file, 1, (44, -2), (45, 0), (50, 0), (54, 0), (55, 1))

    def test_scale_does_not_matter(self):
        for scale in (1, 1000, 2 ** 64 - 1):
            file = film(body_parts(cluster(block(KEY), time=10), about=number(0x2AD7B1, scale)))
            self.found(file, 1, (9, -2), (10, 0))


class LastTest(FindTest):

    def test_of_several_at_one_time(self):
        self.found(film_of_times(5, 5, 5), 1, (4, -2), (5, 2), (6, 2))

    def test_times_that_go_back_between_clusters(self):
        file = film_of_times(100, 300, 200, 50)
        self.found(file, 1, (49, -2), (50, 3), (100, 3), (250, 3), (LATEST, 3))
        file = film_of_times(100, 300, 200)
        self.found(file, 1, (99, -2), (100, 0), (199, 0), (200, 2), (299, 2), (300, 2))

    def test_times_that_go_back_between_blocks(self):
        file = film_of_blocks(block(KEY, offset=9), group(0, offset=3), block(KEY, offset=7), group(0, offset=5))
        self.found(file, 1, (2, -2), (3, 1), (4, 1), (5, 3), (7, 3), (9, 3), (LATEST, 3))

    def test_all_frames_count(self):
        tracks = track_element(1) + track_element(2)
        blocks = [
            block(0, b"x"),
            block(KEY, b"x", track_number=2),
            referring(BY_EQUAL_PARTS, b"\4"),
            block(KEY, b"x", offset=1),
            block(0, b"x", offset=1),
            block(KEY | BY_SUMS, b"\1\0", track_number=2, offset=1),
            group(0, b"x", offset=2),
        ]
        file = film(body_parts(cluster() + cluster(*blocks), tracks))
        self.found(file, 1, (0, -2), (1, 7), (2, 11))
        self.found(file, 2, (-1, -2), (0, 1), (1, 10), (2, 10))

    def test_last_of_a_laced_block(self):
        laced = [
            (BY_SUMS, b"\2\0\0", 3), (BY_EQUAL_PARTS, b"\5", 6), (BY_EQUAL_PARTS, b"\xff", 256),
            (BY_DIFFERENCES, b"\1" + coded(0), 2), (BY_SUMS, b"\0", 1), (BY_EQUAL_PARTS, b"\0", 1),
            (BY_DIFFERENCES, b"\0", 1),
        ]
        for flags, rest, count in laced:
            for one in (block(KEY | flags, rest), group(flags, rest)):
                with self.subTest(flags=flags, count=count):
                    self.found(film_of_blocks(one), 1, (0, count - 1))
                    self.found(film_of_blocks(block(0), one, block(0)), 1, (0, count))

    def test_frame_tells_what_was_found(self):
        file = plentiful()
        self.found(file, 1, (-2, -2), (-1, 2), (6, 2), (7, 2), (LATEST, 2))
        self.assertEqual(frame(find(1, 7, file)[0], GREATEST, file), [1, 4, 1, -1, 1, 1, 1, *b"e"])


class KeyTest(FindTest):

    def test_frames_that_are_not_key_are_passed_by(self):
        blocks = [block(KEY), block(0x7F & ~6), referring(KEY), group(0, offset=1), referring(0, offset=2)]
        self.found(film_of_blocks(*blocks), 1, (-1, -2), (0, 0), (1, 3), (2, 3), (LATEST, 3))

    def test_no_key_frame(self):
        file = film_of_blocks(block(0), referring(0), referring(KEY), block(BY_EQUAL_PARTS, b"\2"))
        self.found(file, 1, (EARLIEST, -2), (0, -2), (LATEST, -2))

    def test_no_frame(self):
        for file in (film(), film(body_parts(cluster() * 3))):
            self.found(file, 1, (EARLIEST, -2), (0, -2), (LATEST, -2))


class WhichTrackTest(FindTest):

    def test_others_are_passed_by(self):
        numbers = (1, 2, 127, 128, 255)
        blocks = [block(KEY, track_number=track_number) for track_number in numbers]
        file = film_of_blocks(*blocks, tracks=b"".join(track_element(track_number) for track_number in numbers))
        for k, track_number in enumerate(numbers):
            self.found(file, track_number, (-1, -2), (0, k), (LATEST, k))

    def test_the_number_counts_not_the_place(self):
        file = film_of_blocks(block(KEY, track_number=9), tracks=track_element(9) + track_element(1))
        self.found(file, 9, (0, 0))
        self.found(file, 1, (0, -2))
        self.found(file, 0, (0, -2))

    def test_no_such_track(self):
        file = film_of_blocks(block(KEY))
        for track_number in (LEAST, LEAST + 1, -255, -1, 0, 2, 128, 255, 256, 257, 0x4001, GREATEST - 1, GREATEST):
            self.found(file, track_number, (EARLIEST, -2), (0, -2), (LATEST, -2))

    def test_track_number_of_two_bytes(self):
        self.found(film_of_blocks(element(0xA3, coded(1, 2), b"\0\0\x80")), 1, (0, 0))


class WrongFileTest(FindTest):

    def test_before_all_else(self):
        late_fault = film_of_blocks(block(KEY, b"abc"), block(BY_EQUAL_PARTS, b"\1", b"abc"))
        for file in ([], plentiful()[:-1], plentiful() + [0], late_fault):
            for track_number in (LEAST, -1, 0, 1, 255, GREATEST):
                self.found(file, track_number, (EARLIEST, -1), (0, -1), (LATEST, -1))


class LongTest(FindTest):

    def test_many_frames(self):
        count = 14000
        file = film_of_blocks(block(KEY | BY_EQUAL_PARTS, b"\xff") * count, block(0))
        self.assertLessEqual(len(file), 100000)
        self.found(file, 1, (0, 256 * count - 1))


class OtherCallsTest(FilmTest):

    def test_answer_as_before(self):
        file = plentiful()
        find(1, 0, file)
        self.assertEqual(look(file), [0, 3, 1234567, 3, 10])
        self.assertEqual(track(0, 6, file), [6, 6, 1, 1001, 1, 320, 200, 0, 6, *b"V_TEST"])
        self.assertEqual(frame(9, 3, file), [3, 4, 2, 14, 0, 3, 3, *b"def"])
