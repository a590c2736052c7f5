"""What the document says of clusters, and of a block up to its lacing."""

from tests.builder import (
    CLUSTER, FilmTest, block, block_body, body_parts, cluster, coded, element, film, film_of_blocks, group, number,
    track, unknown,
)

TIME = number(0xE7, 5)


class ClustersTest(FilmTest):

    def clusters(self, *clusters):
        return film(body_parts(b"".join(clusters)))

    def test_how_many(self):
        for count in (0, 1, 2, 7):
            with self.subTest(count=count):
                self.right(self.clusters(*[cluster()] * count), 1, 1000000, count, 0)

    def test_frames_of_all_clusters(self):
        some = cluster(block(0, b"a"), group(0, b"b"), block(4, b"\2", b"abc"))
        self.right(self.clusters(some, cluster(), some, cluster(block(0))), 1, 1000000, 4, 11)

    def test_others_between_clusters(self):
        self.right(self.clusters(cluster(block(0)), element(0xEC), cluster(block(0))), 1, 1000000, 2, 2)

    def test_time_is_there_once(self):
        self.wrong(self.clusters(element(CLUSTER)))
        self.wrong(self.clusters(element(CLUSTER, block(0))))
        self.wrong(self.clusters(element(CLUSTER, TIME, TIME)))
        self.wrong(self.clusters(element(CLUSTER, TIME, block(0), TIME)))

    def test_time_before_the_blocks(self):
        for one in (block(0), group(0)):
            self.right(self.clusters(element(CLUSTER, TIME, one)), 1, 1000000, 1, 1)
            self.wrong(self.clusters(element(CLUSTER, one, TIME)))
            self.wrong(self.clusters(element(CLUSTER, one, TIME, one)))

    def test_others_before_the_time(self):
        self.right(self.clusters(element(CLUSTER, element(0xA7, b"any"), TIME, block(0))), 1, 1000000, 1, 1)

    def test_bounds_of_the_time(self):
        for time in (0, 1, 2 ** 32, 2 ** 48 - 1, 2 ** 48):
            with self.subTest(time=time):
                self.right(self.clusters(cluster(block(0), time=time)), 1, 1000000, 1, 1)
        for time in (2 ** 48 + 1, 2 ** 49, 2 ** 56, 2 ** 64 - 1):
            with self.subTest(time=time):
                self.wrong(self.clusters(cluster(time=time)))

    def test_any_order_of_times(self):
        self.right(self.clusters(cluster(time=9), cluster(time=3), cluster(time=9)), 1, 1000000, 3, 0)

    def test_one_wrong_among_right_ones(self):
        self.wrong(self.clusters(cluster(block(0)), element(CLUSTER), cluster(block(0))))
        self.wrong(self.clusters(cluster(block(0)), cluster(element(0xA3))))


class GroupsTest(FilmTest):

    BLOCK = element(0xA1, block_body(0, b"x"))

    def test_block_alone(self):
        self.frames(1, element(0xA0, self.BLOCK))

    def test_reference_or_not(self):
        for held in (b"", b"\1", b"\xff" * 9):
            reference = element(0xFB, held)
            with self.subTest(held=held):
                self.frames(1, element(0xA0, self.BLOCK, reference))
                self.frames(1, element(0xA0, reference, self.BLOCK))
                self.frames(1, element(0xA0, self.BLOCK, reference, reference))

    def test_block_missing(self):
        self.wrong_blocks(element(0xA0))
        self.wrong_blocks(element(0xA0, element(0xFB, b"\1")))
        self.wrong_blocks(element(0xA0, block(0, b"x")))

    def test_block_twice(self):
        self.wrong_blocks(element(0xA0, self.BLOCK, self.BLOCK))

    def test_simple_block_within_does_not_matter(self):
        self.frames(1, element(0xA0, self.BLOCK, element(0xA3)))


class BlocksTest(FilmTest):

    def both(self, check, body, *answer):
        check(film_of_blocks(element(0xA3, body)), *answer)
        check(film_of_blocks(element(0xA0, element(0xA1, body))), *answer)

    def test_of_a_track(self):
        tracks = track(1) + track(126) + track(127) + track(128) + track(255)
        for track_number in (1, 126, 127, 128, 255):
            with self.subTest(track_number=track_number):
                for make in (block, group):
                    self.right(film_of_blocks(make(0, track_number=track_number), tracks=tracks), 5, 1000000, 1, 1)

    def test_of_no_track(self):
        tracks = track(1) + track(127) + track(255)
        for track_number in (0, 2, 126, 128, 254, 256, 257, 16382):
            with self.subTest(track_number=track_number):
                for make in (block, group):
                    self.wrong(film_of_blocks(make(0, track_number=track_number), tracks=tracks))

    def test_track_number_of_one_and_two_bytes(self):
        self.both(self.right, coded(1, 1) + b"\0\0\0", 1, 1000000, 1, 1)
        self.both(self.right, coded(1, 2) + b"\0\0\0", 1, 1000000, 1, 1)

    def test_track_number_of_more_bytes(self):
        for size in range(3, 9):
            with self.subTest(size=size):
                self.both(self.wrong, coded(1, size) + b"\0\0\0")
        self.both(self.wrong, b"\0\x81\0\0\0")

    def test_track_number_unknown(self):
        tracks = track(1) + track(127)
        for size in (1, 2):
            with self.subTest(size=size):
                self.wrong(film_of_blocks(element(0xA3, unknown(size), b"\0\0\0"), tracks=tracks))
        self.right(film_of_blocks(element(0xA3, coded(127, 2), b"\0\0\0"), tracks=tracks))

    def test_cut_short(self):
        for body in (b"", b"\x81", b"\x81\0", b"\x81\0\0", b"\x40", b"\x40\1", b"\x40\1\0", b"\x40\1\0\0"):
            with self.subTest(body=body):
                self.both(self.wrong, body)
        self.both(self.right, b"\x81\0\0\0", 1, 1000000, 1, 1)

    def test_any_time(self):
        for offset in (-32768, -1, 0, 1, 32767):
            with self.subTest(offset=offset):
                self.frames(1, block(0, offset=offset))
                self.frames(1, group(0, offset=offset))
        self.right(film(body_parts(cluster(block(0, offset=32767), time=2 ** 48))), 1, 1000000, 1, 1)

    def test_other_flags_do_not_matter(self):
        for flags in range(256):
            if flags & 6 == 0:
                with self.subTest(flags=flags):
                    self.frames(2, block(flags, b"\3any"), group(flags, b"\3any"))
