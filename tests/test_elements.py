"""What the document says under "Elements"."""

from tests.builder import (
    ABOUT, BODY, CLUSTER, HEADER, HEADER_PARTS, FilmTest, body_parts, block, cluster, coded, element, film,
    film_of_track, number, raw_name, track_parts, unknown,
)

# The first and the last name of each size that may be written.
EDGE_NAMES = (0x80, 0xFE, 0x407F, 0x7FFE, 0x203FFF, 0x3FFFFE, 0x101FFFFF, 0x1FFFFFFE)
# Names that could be written in one byte less, the greatest and the least of each size.
LONG_NAMES = (0x407E, 0x4000, 0x203FFE, 0x200000, 0x101FFFFE, 0x10000000)
ALL_ONES_NAMES = (0xFF, 0x7FFF, 0x3FFFFF, 0x1FFFFFFF)


class NamesTest(FilmTest):

    def test_names_at_the_edges(self):
        for name in EDGE_NAMES:
            self.right_everywhere(element(name, b"any"))

    def test_names_that_could_be_shorter(self):
        for name in LONG_NAMES:
            self.wrong_everywhere(element(name, b"any"))

    def test_names_of_all_ones(self):
        for name in ALL_ONES_NAMES:
            self.wrong_everywhere(element(name, b"any"))

    def test_names_of_more_than_four_bytes(self):
        for size in (5, 6, 7, 8):
            with self.subTest(size=size):
                self.wrong_everywhere(coded(2 ** (7 * size - 1), size) + coded(3) + b"any")
        self.wrong_everywhere(b"\0" + coded(0))

    def test_names_cut_short(self):
        for cut in (b"\x42", b"\x2a\xd7", b"\x1f\x43\xb6", b"\x10"):
            self.wrong_everywhere(cut)

    def test_known_names_elsewhere_do_not_matter(self):
        self.right(film(body_parts(number(0xE7, 0) * 2 + element(0xA3) + element(0xAE) + element(HEADER))), 1, 1000000, 0, 0)
        self.right(film(body_parts(cluster(element(0xA1), element(0xD7), element(CLUSTER)))), 1, 1000000, 1, 0)
        self.right(film(body_parts(about=element(0xAE) * 2 + element(0x4282))), 1, 1000000, 0, 0)


class UnnamedTest(FilmTest):

    def test_unnamed_ones_do_not_matter(self):
        self.right_everywhere(element(0xEC) + element(0xBF, b"\0\0\0\0"))

    def test_unnamed_ones_may_come_again(self):
        self.right_everywhere(element(0xEC, b"\xff" * 200) * 3)

    def test_what_unnamed_ones_hold_does_not_matter(self):
        for held in (b"\0", b"\xff\xff", raw_name(CLUSTER) + unknown(1), element(0xE7, b"\xff" * 9) * 2):
            self.right_everywhere(element(0xEC, held))


class LengthsTest(FilmTest):

    def test_lengths_of_one_to_eight_bytes(self):
        for size in range(1, 9):
            self.right_everywhere(element(0xEC, b"any", size=size))
            self.right_everywhere(element(0xEC, size=size))

    def test_lengths_of_one_to_eight_bytes_of_named_ones(self):
        for size in range(1, 9):
            with self.subTest(size=size):
                clusters = element(CLUSTER, element(0xE7, b"\1", size=size), size=size)
                body = body_parts(clusters, about=element(0x2AD7B1, b"\x09", size=size))
                self.right(
                    list(element(HEADER, HEADER_PARTS.bytes(), size=size) + element(BODY, body.bytes(), size=size)),
                    1, 9, 1, 0)

    def test_a_value_of_all_ones_in_more_bytes_is_known(self):
        self.right_everywhere(raw_name(0xEC) + coded(127, 2) + b"x" * 127)
        self.right_everywhere(raw_name(0xEC) + coded(126, 1) + b"x" * 126)

    def test_no_length_number_begins_with_zero(self):
        self.wrong_everywhere(raw_name(0xEC) + b"\0\1" + b"\0" * 20)
        self.wrong_everywhere(raw_name(0xEC) + b"\0")

    def test_lengths_cut_short(self):
        self.wrong_everywhere(raw_name(0xEC))
        for size in range(2, 9):
            self.wrong_everywhere(raw_name(0xEC) + coded(0, size)[:-1])


class UnknownTest(FilmTest):

    def test_unknown_at_the_second(self):
        body = body_parts(cluster(block(0)), about=number(0x2AD7B1, 3)).bytes()
        for size in range(1, 9):
            with self.subTest(size=size):
                file = list(element(HEADER, HEADER_PARTS.bytes()) + raw_name(BODY) + unknown(size) + body)
                self.right(file, 1, 3, 1, 1)
                self.wrong(file + [0])
                self.right(file + list(element(0xEC)), 1, 3, 1, 1)
                self.right(file + list(cluster(block(0))), 1, 3, 2, 2)
                self.wrong(file[:-1])

    def test_unknown_at_the_first(self):
        for size in range(1, 9):
            with self.subTest(size=size):
                first = raw_name(HEADER) + unknown(size) + HEADER_PARTS.bytes()
                self.wrong(list(first + element(BODY, body_parts().bytes())))
                self.wrong(list(first))

    def test_unknown_at_children(self):
        for size in range(1, 9):
            self.wrong_everywhere(raw_name(0xEC) + unknown(size))
            self.wrong_everywhere(raw_name(0xEC) + unknown(size) + b"any")

    def test_unknown_at_named_children(self):
        about, tracks = body_parts()[ABOUT], body_parts().but(ABOUT).bytes()
        time = number(0xE7, 0)
        for size in (1, 4, 8):
            with self.subTest(size=size):
                self.wrong(film(body_parts(raw_name(CLUSTER) + unknown(size) + time)))
                self.wrong(film(body_parts(element(CLUSTER, time, raw_name(0xA3) + unknown(size) + b"\x81\0\0\0"))))
                self.wrong(list(element(HEADER, HEADER_PARTS.bytes())
                                + element(BODY, tracks, raw_name(ABOUT) + unknown(size))))
        self.right(list(element(HEADER, HEADER_PARTS.bytes()) + element(BODY, tracks, about)))


class FillTest(FilmTest):

    def test_a_child_that_goes_beyond(self):
        for size in range(1, 9):
            self.wrong_everywhere(raw_name(0xEC) + coded(4, size) + b"any")
        self.wrong_everywhere(raw_name(0xEC) + coded(2 ** 56 - 2, 8))
        self.wrong_everywhere(raw_name(0xEC) + coded(2 ** 55, 8))

    def test_a_child_that_goes_beyond_into_its_neighbour(self):
        long_time = raw_name(CLUSTER) + coded(3) + raw_name(0xE7) + coded(2) + b"\0"
        self.wrong(film(body_parts(long_time + element(0xEC))))
        self.wrong(film(body_parts(long_time + cluster())))

    def test_bytes_that_make_no_child(self):
        for rest in (b"\0", b"\xff", b"\x81", b"\x80"):
            self.wrong_everywhere(rest)


# Where each number stands, with a value that is right there: a name, the value, how its film is made.
NUMBERS = (
    (0x42F7, 1, lambda it: film(header=HEADER_PARTS.but(0x42F7, it))),
    (0x42F2, 4, lambda it: film(header=HEADER_PARTS.but(0x42F2, it))),
    (0x42F3, 8, lambda it: film(header=HEADER_PARTS.but(0x42F3, it))),
    (0x4285, 4, lambda it: film(header=HEADER_PARTS.but(0x4285, it))),
    (0x2AD7B1, 7, lambda it: film(body_parts(about=it))),
    (0xD7, 7, lambda it: film_of_track(track_parts().but(0xD7, it))),
    (0x73C5, 7, lambda it: film_of_track(track_parts().but(0x73C5, it))),
    (0x83, 7, lambda it: film_of_track(track_parts().but(0x83, it))),
    (0xB0, 7, lambda it: film_of_track(track_parts().but(0xE0, element(0xE0, it, number(0xBA, 1))))),
    (0xBA, 7, lambda it: film_of_track(track_parts().but(0xE0, element(0xE0, number(0xB0, 1), it)))),
    (0x9F, 7, lambda it: film_of_track(track_parts().but(0xE1, element(0xE1, it)))),
    (0xE7, 7, lambda it: film(body_parts(element(CLUSTER, it)))),
)


class NumbersTest(FilmTest):

    def test_numbers_of_one_to_eight_bytes(self):
        for name, value, make in NUMBERS:
            for width in range(1, 9):
                with self.subTest(name=hex(name), width=width):
                    self.right(make(number(name, value, width)))

    def test_numbers_of_nine_bytes_and_more(self):
        for name, value, make in NUMBERS:
            for width in (9, 10, 130):
                with self.subTest(name=hex(name), width=width):
                    self.wrong(make(number(name, value, width)))

    def test_a_number_of_no_bytes_is_zero(self):
        for name, value, make in NUMBERS:
            with self.subTest(name=hex(name)):
                if name in (0x4285, 0xE7):
                    self.right(make(number(name, 0, 0)))
                else:
                    self.wrong(make(number(name, 0, 0)))

    def test_the_first_byte_weighs_most(self):
        self.right(film(body_parts(about=element(0x2AD7B1, b"\1\2\3\4\5\6\7\x08"))), 1, 0x0102030405060708, 0, 0)
        self.right(film(body_parts(about=element(0x2AD7B1, b"\xff" * 8))), 1, 2 ** 64 - 1, 0, 0)
