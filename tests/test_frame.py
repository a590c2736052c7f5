"""What frame answers."""

from strictfilm.films import frame, look
from tests.builder import (
    BY_DIFFERENCES, BY_EQUAL_PARTS, BY_SUMS, GREATEST, LEAST, FilmTest, block, block_body, body_parts, cluster, coded,
    difference, element, film, film_of_blocks, group, number, plentiful, referring, track,
)

MANY = bytes(k % 251 for k in range(2000))


class FrameCallTest(FilmTest):

    def told(self, file, *frames):
        """All frames of the file: of each its track's number, its time, whether it is key, and its bytes."""
        for k, (track_number, time, key, content) in enumerate(frames):
            answer = [len(content), 4, track_number, time, key, len(content), len(content), *content]
            with self.subTest(k=k):
                self.assertEqual(frame(k, len(content), file), answer)
                self.assertEqual(frame(k, GREATEST, file), answer)
                self.assertEqual(frame(k, len(content) - 1, file), [-3])
        for k in (-1, len(frames)):
            self.assertEqual(frame(k, GREATEST, file), [-2])
        self.assertEqual(look(file)[4], len(frames))

    def contents(self, flags, *rest_and_contents):
        """The bytes of each frame of one block, whichever holds it."""
        *rest, contents = rest_and_contents
        for make, key in ((block, 0), (group, 1), (referring, 0)):
            with self.subTest(flags=flags, make=make):
                file = film_of_blocks(make(flags, *rest, b"".join(contents)))
                self.told(file, *[(1, 0, key, content) for content in contents])


class OrderTest(FrameCallTest):

    def test_the_only_one(self):
        self.told(film_of_blocks(block(0, b"abc")), (1, 0, 0, b"abc"))

    def test_of_all_clusters_blocks_and_tracks(self):
        self.told(
            plentiful(),
            (1, 7, 1, b"one"), (1, -1, 1, b"d"), (1, -1, 1, b"e"),
            (200, 9, 0, b"ab"), (200, 9, 0, b"cd"), (200, 9, 0, b"ef"), (200, 9, 0, b"gh"),
            (2, 14, 0, b"a"), (2, 14, 0, b"bc"), (2, 14, 0, b"def"),
        )

    def test_times_do_not_order(self):
        clusters = (
            cluster(block(0, b"a", offset=5), block(0, b"b", offset=-5), time=100)
            + cluster(group(0, b"c"), time=50)
            + cluster(block(0x80, b"d", offset=-1), time=50)
        )
        self.told(film(body_parts(clusters)), (1, 105, 0, b"a"), (1, 95, 0, b"b"), (1, 50, 1, b"c"), (1, 49, 1, b"d"))

    def test_others_in_between(self):
        other = element(0xEC, b"any")
        first = element(0xA0, other, element(0xA1, block_body(0, b"a")), element(0x9B, b"any"))
        clusters = other + cluster(other, first, other, block(0, b"b")) + other + cluster(block(0, b"c"))
        self.told(film(body_parts(clusters)), (1, 0, 1, b"a"), (1, 0, 0, b"b"), (1, 0, 0, b"c"))

    def test_simple_block_in_a_group_is_no_block(self):
        one = element(0xA0, element(0xA3, block_body(0, b"no")), element(0xA1, block_body(0, b"yes")))
        self.told(film_of_blocks(one), (1, 0, 1, b"yes"))

    def test_track_numbers(self):
        numbers = (255, 1, 128, 127, 126)
        tracks = b"".join(track(track_number) for track_number in sorted(numbers))
        blocks = [block(0, b"x", track_number=track_number) for track_number in numbers]
        file = film_of_blocks(*blocks, tracks=tracks)
        self.told(file, *[(track_number, 0, 0, b"x") for track_number in numbers])

    def test_track_number_of_two_bytes(self):
        self.told(film_of_blocks(element(0xA3, coded(1, 2), b"\0\2\x80", b"ab")), (1, 2, 1, b"ab"))

    def test_none(self):
        for file, count in ((film(), 0), (film(body_parts(cluster() * 3)), 0), (plentiful(), 10)):
            for k in (LEAST, LEAST + 1, -11, -10, -1, count, count + 1, GREATEST - 1, GREATEST):
                for most in (LEAST, -1, 0, 5, GREATEST):
                    with self.subTest(k=k, most=most, count=count):
                        self.assertEqual(frame(k, most, file), [-2])


class LacingTest(FrameCallTest):

    def test_no_lacing(self):
        for length in (0, 1, 2, 254, 255, 256, 510, 1000):
            self.contents(0, [MANY[:length]])

    def test_one_frame(self):
        for flags in (BY_SUMS, BY_EQUAL_PARTS, BY_DIFFERENCES):
            for length in (0, 1, 254, 255, 256, 510):
                self.contents(flags, b"\0", [MANY[:length]])

    def test_sums(self):
        self.contents(BY_SUMS, b"\1", b"\2", [b"ab", b"cde"])
        self.contents(BY_SUMS, b"\3", b"\0\3\1", [b"", b"abc", b"d", b"ef"])
        self.contents(BY_SUMS, b"\2", b"\0\0", [b"", b"", b""])
        self.contents(BY_SUMS, b"\2", b"\0\0", [b"", b"", b"abc"])

    def test_sums_of_several_bytes(self):
        told = b"\xfe" + b"\xff\0" + b"\xff\1" + b"\xff\xff\0" + b"\xff\xff\xff\2"
        lengths = (254, 255, 256, 510, 767)
        for last in (0, 1, 510):
            frames = [MANY[length:length + length] for length in (*lengths, last)]
            self.contents(BY_SUMS, b"\5", told, frames)

    def test_equal_parts(self):
        self.contents(BY_EQUAL_PARTS, b"\1", [b"ab", b"cd"])
        self.contents(BY_EQUAL_PARTS, b"\2", [b"", b"", b""])
        for length in (1, 254, 255, 256, 510):
            self.contents(BY_EQUAL_PARTS, b"\2", [MANY[k:k + length] for k in range(3)])
        self.contents(BY_EQUAL_PARTS, b"\xff", [bytes([k]) for k in range(256)])

    def test_differences(self):
        self.contents(BY_DIFFERENCES, b"\1", coded(2), [b"ab", b"cde"])
        self.contents(BY_DIFFERENCES, b"\1", coded(0), [b"", b""])
        steps = coded(3), difference(2), difference(0), difference(-4), difference(-1), difference(3)
        self.contents(BY_DIFFERENCES, b"\6", *steps, [b"abc", b"defgh", b"ijklm", b"n", b"", b"opq", b"rs"])

    def test_differences_of_several_bytes(self):
        for size in range(2, 9):
            steps = coded(254, size), difference(1, size), difference(1, size), difference(254, size), \
                difference(-510, size), difference(1, size)
            frames = [MANY[length:length + length] for length in (254, 255, 256, 510, 0, 1, 7)]
            self.contents(BY_DIFFERENCES, b"\6", *steps, frames)

    def test_rest_of_the_flags_does_not_matter(self):
        for other in (0, 1, 8, 0x10, 0x20, 0x40, 0x79):
            self.contents(other, [b"\1\1ab"])
            self.contents(BY_SUMS | other, b"\1", b"\1", [b"a", b"bcd"])
            self.contents(BY_EQUAL_PARTS | other, b"\1", [b"\1a", b"bc"])
            self.contents(BY_DIFFERENCES | other, b"\1", b"\x81", [b"a", b"bcd"])


class TimeTest(FrameCallTest):

    def test_offset_is_added(self):
        for time in (0, 1, 100, 32768, 2 ** 32, 2 ** 48 - 1, 2 ** 48):
            for offset in (-32768, -32767, -257, -256, -255, -1, 0, 1, 255, 256, 32766, 32767):
                blocks = block(0, b"a", offset=offset), group(0, b"b", offset=offset)
                with self.subTest(time=time, offset=offset):
                    file = film(body_parts(cluster(*blocks, time=time)))
                    self.told(file, (1, time + offset, 0, b"a"), (1, time + offset, 1, b"b"))

    def test_each_cluster_has_its_own(self):
        clusters = cluster(block(0), time=5) + cluster(block(0), time=2 ** 48) + cluster(block(0), time=0)
        self.told(film(body_parts(clusters)), (1, 5, 0, b""), (1, 2 ** 48, 0, b""), (1, 0, 0, b""))

    def test_scale_does_not_matter(self):
        for scale in (1, 1000, 999999999, 2 ** 64 - 1):
            file = film(body_parts(cluster(block(0, offset=-3), time=10), about=number(0x2AD7B1, scale)))
            self.told(file, (1, 7, 0, b""))

    def test_all_frames_of_a_block_have_its_time(self):
        file = film(body_parts(cluster(block(BY_EQUAL_PARTS, b"\2", b"abc", offset=-2), time=1)))
        self.told(file, (1, -1, 0, b"a"), (1, -1, 0, b"b"), (1, -1, 0, b"c"))


class KeyTest(FrameCallTest):

    def test_simple_blocks_by_their_flags(self):
        for flags in range(256):
            with self.subTest(flags=flags):
                file = film_of_blocks(block(flags, b"\0" if flags & 6 else b"", b"x"))
                self.told(file, (1, 0, 1 if flags >= 128 else 0, b"x"))

    def test_groups_by_their_reference(self):
        for flags in range(256):
            rest = b"\0x" if flags & 6 else b"x"
            with self.subTest(flags=flags):
                self.told(film_of_blocks(group(flags, rest), referring(flags, rest)), (1, 0, 1, b"x"), (1, 0, 0, b"x"))

    def test_reference_wherever_and_whatever(self):
        held = element(0xA1, block_body(0x80, b"x"))
        for reference in (element(0xFB), element(0xFB, b"\0"), element(0xFB, b"\xff" * 9)):
            for children in ((held, reference), (reference, held), (reference, held, reference)):
                self.told(film_of_blocks(element(0xA0, *children)), (1, 0, 0, b"x"))

    def test_other_references_do_not_matter(self):
        other = element(0xFA, b"\1")
        self.told(film_of_blocks(element(0xA0, other, element(0xA1, block_body(0, b"x")))), (1, 0, 1, b"x"))
        file = film_of_blocks(element(0xFB, b"\1"), block(0x80, b"x"), group(0, b"y"))
        self.told(file, (1, 0, 1, b"x"), (1, 0, 1, b"y"))

    def test_all_frames_of_a_block(self):
        file = film_of_blocks(block(0x80 | BY_EQUAL_PARTS, b"\1", b"ab"), referring(BY_EQUAL_PARTS, b"\1", b"cd"))
        self.told(file, (1, 0, 1, b"a"), (1, 0, 1, b"b"), (1, 0, 0, b"c"), (1, 0, 0, b"d"))


class MostTest(FrameCallTest):

    def test_bounds(self):
        for length in (0, 1, 2, 255, 256):
            file = film_of_blocks(block(0, MANY[:length]))
            for most in (LEAST, LEAST + 1, -1, 0, 1, 2, 254, 255, 256, 257, GREATEST):
                with self.subTest(length=length, most=most):
                    self.assertEqual(frame(0, most, file)[0], -3 if length > most else length)
                    self.assertEqual(len(frame(0, most, file)), 1 if length > most else 7 + length)

    def test_held_against_the_frame_asked_for(self):
        file = film_of_blocks(block(BY_SUMS, b"\3", b"\2\0\4", b"aaccccd"))
        self.assertEqual([frame(k, 2, file)[0] for k in range(4)], [2, 0, -3, 1])
        self.assertEqual([frame(k, 0, file)[0] for k in range(4)], [-3, 0, -3, -3])
        self.assertEqual([frame(k, -1, file)[0] for k in range(4)], [-3, -3, -3, -3])


class WrongFileTest(FrameCallTest):

    def test_before_all_else(self):
        late_fault = film_of_blocks(block(0, b"abc"), block(BY_EQUAL_PARTS, b"\1", b"abc"))
        for file in ([], plentiful()[:-1], plentiful() + [0], late_fault):
            for k in (LEAST, -1, 0, 1, 10, GREATEST):
                for most in (LEAST, -1, 0, 2, GREATEST):
                    with self.subTest(k=k, most=most):
                        self.assertEqual(frame(k, most, file), [-1])


class LongTest(FrameCallTest):

    def test_longest_frame(self):
        content = MANY * 49
        self.told(film(body_parts(cluster(block(0x80, content)))), (1, 0, 1, content))

    def test_many_frames(self):
        count = 14000
        file = film(body_parts(cluster(block(BY_EQUAL_PARTS, b"\xff") * count, block(0x80, b"last"))))
        self.assertLessEqual(len(file), 100000)
        self.assertEqual(frame(256 * count - 1, 0, file), [0, 4, 1, 0, 0, 0, 0])
        self.assertEqual(frame(256 * count, 4, file), [4, 4, 1, 0, 1, 4, 4, *b"last"])
        self.assertEqual(frame(256 * count + 1, 4, file), [-2])

    def test_many_clusters(self):
        count = 5000
        one = cluster(block(0, b"x"), time=3)
        file = film(body_parts(one * count))
        self.assertLessEqual(len(file), 100000)
        self.assertEqual(frame(count - 1, 1, file), [1, 4, 1, 3, 0, 1, 1, *b"x"])
        self.assertEqual(frame(count, 1, file), [-2])
