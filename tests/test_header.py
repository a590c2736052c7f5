"""What the document says of a file as a whole and of its first element."""

from tests.builder import (
    BODY, HEADER, HEADER_PARTS, FilmTest, Parts, body_parts, element, film, number,
)

FIRST = element(HEADER, HEADER_PARTS.bytes())
SECOND = element(BODY, body_parts().bytes())
OTHER = element(0xEC, b"any")


class WholeTest(FilmTest):

    def test_two_and_nothing_else(self):
        self.right(list(FIRST + SECOND), 1, 1000000, 0, 0)

    def test_the_empty_file(self):
        self.wrong([])

    def test_one_missing(self):
        self.wrong(list(FIRST))
        self.wrong(list(SECOND))

    def test_one_twice(self):
        self.wrong(list(FIRST + FIRST + SECOND))
        self.wrong(list(FIRST + SECOND + SECOND))
        self.wrong(list(FIRST + SECOND + FIRST))

    def test_the_other_order(self):
        self.wrong(list(SECOND + FIRST))

    def test_others_beside_them(self):
        self.wrong(list(OTHER + FIRST + SECOND))
        self.wrong(list(FIRST + OTHER + SECOND))
        self.wrong(list(FIRST + SECOND + OTHER))

    def test_other_names(self):
        self.wrong(list(element(HEADER + 1, HEADER_PARTS.bytes()) + SECOND))
        self.wrong(list(FIRST + element(BODY + 1, body_parts().bytes())))

    def test_bytes_behind(self):
        for byte in (0, 0x80, 0xEC, 0xFF):
            with self.subTest(byte=byte):
                self.wrong(list(FIRST + SECOND) + [byte])

    def test_every_cut(self):
        file = list(FIRST + SECOND)
        for length in range(len(file)):
            with self.subTest(length=length):
                self.wrong(file[:length])


class HeaderTest(FilmTest):

    def header(self, parts):
        return film(header=parts)

    def form(self, text):
        return self.header(HEADER_PARTS.but(0x4282, element(0x4282, text)))

    def test_the_two_forms(self):
        self.right(self.form(b"matroska"))
        self.right(self.form(b"webm"))
        self.right(self.form(bytes.fromhex("6D6174726F736B61")))
        self.right(self.form(bytes.fromhex("7765626D")))

    def test_other_forms(self):
        for text in (b"", b"matrosk", b"matroskaa", b"matroska\0", b"Matroska", b"web", b"webm\0", b"webmm",
                     b"webmatroska", b"\0webm", b"x" * 200):
            with self.subTest(text=text):
                self.wrong(self.form(text))

    def test_the_form_is_there_once(self):
        self.right(self.header(Parts({0x4282: element(0x4282, b"webm")})))
        self.wrong(self.header(HEADER_PARTS.but(0x4282)))
        self.wrong(self.header(HEADER_PARTS.twice(0x4282)))
        self.wrong(self.header(HEADER_PARTS.but(0x4282, element(0x4282, b"webm"), element(0x4282, b"matroska"))))
        self.wrong(self.header(Parts()))

    def test_numbers_are_there_once_at_most(self):
        for name in (0x42F7, 0x42F2, 0x42F3, 0x4285):
            with self.subTest(name=hex(name)):
                self.right(self.header(HEADER_PARTS.but(name)))
                self.wrong(self.header(HEADER_PARTS.twice(name)))

    def test_values(self):
        for name, least, most in ((0x42F7, 1, 1), (0x42F2, 4, 4), (0x42F3, 8, 8), (0x4285, 0, 4)):
            for value in (0, 1, 2, 3, 4, 5, 7, 8, 9, 255, 256, 257, 260, 264, 2 ** 64 - 1):
                with self.subTest(name=hex(name), value=value):
                    file = self.header(HEADER_PARTS.but(name, number(name, value)))
                    if least <= value <= most:
                        self.right(file)
                    else:
                        self.wrong(file)

    def test_any_order(self):
        self.right(self.header(Parts(reversed(HEADER_PARTS.items()))))
