"""What the document says of the lacing of a block."""

from tests.builder import BY_DIFFERENCES, BY_EQUAL_PARTS, BY_SUMS, FilmTest, block, coded, difference, group, unknown


class LacingTest(FilmTest):

    def comes_out(self, count, flags, *rest):
        """Whatever the other flags, in both kinds of block."""
        for other in (0, 0x80, 0xF9):
            for make in (block, group):
                with self.subTest(flags=flags | other, rest=rest, make=make):
                    self.frames(count, make(flags | other, *rest))

    def comes_not_out(self, flags, *rest):
        for other in (0, 0x80, 0xF9):
            for make in (block, group):
                with self.subTest(flags=flags | other, rest=rest, make=make):
                    self.wrong_blocks(make(flags | other, *rest))


class NoLacingTest(LacingTest):

    def test_one_frame(self):
        for rest in (b"", b"\0", b"\5", b"\xff" * 300):
            self.comes_out(1, 0, rest)


class CountTest(LacingTest):

    def test_no_count(self):
        for flags in (BY_SUMS, BY_EQUAL_PARTS, BY_DIFFERENCES):
            self.comes_not_out(flags)

    def test_one_frame(self):
        for flags in (BY_SUMS, BY_EQUAL_PARTS, BY_DIFFERENCES):
            for rest in (b"", b"\0", b"\xff", b"abc", b"\xff" * 300):
                self.comes_out(1, flags, b"\0", rest)

    def test_most_frames(self):
        self.comes_out(256, BY_SUMS, b"\xff", b"\0" * 255)
        self.comes_not_out(BY_SUMS, b"\xff", b"\0" * 254)
        self.comes_out(256, BY_EQUAL_PARTS, b"\xff")
        self.comes_out(256, BY_EQUAL_PARTS, b"\xff", b"x" * 512)
        self.comes_out(256, BY_DIFFERENCES, b"\xff", coded(0), difference(0) * 254)
        self.comes_not_out(BY_DIFFERENCES, b"\xff", coded(0), difference(0) * 253)


class SumsTest(LacingTest):

    def test_lengths(self):
        self.comes_out(2, BY_SUMS, b"\1", b"\2", b"aabbb")
        self.comes_out(3, BY_SUMS, b"\2", b"\2\1", b"aabccc")
        self.comes_out(3, BY_SUMS, b"\2", b"\0\0", b"ccc")

    def test_last_length_of_none(self):
        self.comes_out(2, BY_SUMS, b"\1", b"\5", b"aaaaa")
        self.comes_out(2, BY_SUMS, b"\1", b"\0")
        self.comes_out(3, BY_SUMS, b"\2", b"\2\3", b"aabbb")

    def test_beyond_the_rest(self):
        self.comes_not_out(BY_SUMS, b"\1", b"\6", b"aaaaa")
        self.comes_not_out(BY_SUMS, b"\2", b"\2\4", b"aabbb")
        self.comes_not_out(BY_SUMS, b"\1", b"\1")

    def test_lengths_of_more_bytes(self):
        for length in (254, 255, 256, 509, 510, 511, 765):
            told = b"\xff" * (length // 255) + bytes([length % 255])
            self.comes_out(2, BY_SUMS, b"\1", told, b"\xff" * length)
            self.comes_out(2, BY_SUMS, b"\1", told, b"\xff" * length, b"b")
            self.comes_not_out(BY_SUMS, b"\1", told, b"\xff" * (length - 1))

    def test_lengths_cut_short(self):
        self.comes_not_out(BY_SUMS, b"\1")
        self.comes_not_out(BY_SUMS, b"\1", b"\xff")
        self.comes_not_out(BY_SUMS, b"\1", b"\xff" * 300)
        self.comes_not_out(BY_SUMS, b"\2", b"\0")
        self.comes_not_out(BY_SUMS, b"\2", b"\0\xff")


class EqualPartsTest(LacingTest):

    def test_without_remainder(self):
        for count, rest in ((2, 4), (3, 9), (3, 0), (5, 5), (200, 400)):
            self.comes_out(count, BY_EQUAL_PARTS, bytes([count - 1]), b"x" * rest)

    def test_with_remainder(self):
        for count, rest in ((2, 1), (2, 5), (3, 10), (3, 11), (5, 4), (256, 255), (256, 257)):
            self.comes_not_out(BY_EQUAL_PARTS, bytes([count - 1]), b"x" * rest)


class DifferencesTest(LacingTest):

    def test_first_length(self):
        for size in range(1, 9):
            self.comes_out(2, BY_DIFFERENCES, b"\1", coded(3, size), b"aaabb")
            self.comes_out(2, BY_DIFFERENCES, b"\1", coded(3, size), b"aaa")
            self.comes_out(2, BY_DIFFERENCES, b"\1", coded(0, size))
            self.comes_not_out(BY_DIFFERENCES, b"\1", coded(4, size), b"aaa")

    def test_differences(self):
        for size in range(1, 9):
            for step in (-3, -1, 0, 2):
                steps = coded(3), difference(step, size)
                self.comes_out(3, BY_DIFFERENCES, b"\2", *steps, b"x" * (6 + step))
                self.comes_out(3, BY_DIFFERENCES, b"\2", *steps, b"x" * (6 + step + 1))
                self.comes_not_out(BY_DIFFERENCES, b"\2", *steps, b"x" * (6 + step - 1))

    def test_difference_to_the_one_before(self):
        steps = coded(5), difference(-2), difference(-2), difference(4)
        self.comes_out(5, BY_DIFFERENCES, b"\4", *steps, b"x" * (5 + 3 + 1 + 5))
        self.comes_not_out(BY_DIFFERENCES, b"\4", *steps, b"x" * (5 + 3 + 1 + 5 - 1))

    def test_below_zero(self):
        for size in range(1, 9):
            self.comes_not_out(BY_DIFFERENCES, b"\2", coded(3), difference(-4, size), b"x" * 50)
            self.comes_not_out(BY_DIFFERENCES, b"\3", coded(3), difference(-4, size), difference(9), b"x" * 50)

    def test_least_and_greatest_differences(self):
        self.comes_out(3, BY_DIFFERENCES, b"\2", coded(63), difference(-63), b"x" * 63)
        self.comes_not_out(BY_DIFFERENCES, b"\2", coded(62), difference(-63), b"x" * 63)
        self.comes_out(3, BY_DIFFERENCES, b"\2", coded(0), difference(63), b"x" * 63)
        self.comes_not_out(BY_DIFFERENCES, b"\2", coded(0), difference(63), b"x" * 62)
        self.comes_out(3, BY_DIFFERENCES, b"\2", coded(8191), difference(-8191, 2), b"x" * 8191)
        self.comes_out(3, BY_DIFFERENCES, b"\2", coded(0), difference(8191, 2), b"x" * 8191)
        self.comes_not_out(BY_DIFFERENCES, b"\2", coded(0), difference(2 ** 55 - 1, 8), b"x" * 50)
        self.comes_not_out(BY_DIFFERENCES, b"\2", coded(0), difference(1 - 2 ** 55, 8), b"x" * 50)

    def test_beyond_the_rest_for_a_while(self):
        self.comes_not_out(BY_DIFFERENCES, b"\3", coded(60), difference(-60), difference(0), b"x" * 59)

    def test_unknown_ones(self):
        for size in range(1, 9):
            self.comes_not_out(BY_DIFFERENCES, b"\1", unknown(size), b"x" * 200)
            self.comes_not_out(BY_DIFFERENCES, b"\2", coded(1), unknown(size), b"x" * 200)
        self.comes_not_out(BY_DIFFERENCES, b"\2", coded(1), unknown(2), b"x" * 9000)

    def test_cut_short(self):
        self.comes_not_out(BY_DIFFERENCES, b"\1")
        self.comes_not_out(BY_DIFFERENCES, b"\2", coded(0))
        for size in range(2, 9):
            self.comes_not_out(BY_DIFFERENCES, b"\1", coded(0, size)[:-1])
            self.comes_not_out(BY_DIFFERENCES, b"\2", coded(0), difference(0, size)[:-1])

    def test_no_length_number(self):
        self.comes_not_out(BY_DIFFERENCES, b"\1", b"\0" * 20)
        self.comes_not_out(BY_DIFFERENCES, b"\2", coded(0), b"\0" * 20)
