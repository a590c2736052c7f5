"""What the document says of the second element and of the scale."""

from tests.builder import (
    ABOUT, CLUSTER, TRACKS, FilmTest, Parts, block, body_parts, cluster, element, film, number,
)

SCALE = 0x2AD7B1


class BodyTest(FilmTest):

    def test_about_is_there_once(self):
        self.wrong(film(body_parts().but(ABOUT)))
        self.wrong(film(body_parts().twice(ABOUT)))

    def test_tracks_are_there_once(self):
        self.wrong(film(body_parts().but(TRACKS)))
        self.wrong(film(body_parts().twice(TRACKS)))
        parts = body_parts()
        self.wrong(film(parts.but(CLUSTER, cluster(), parts[TRACKS])))

    def test_an_empty_body(self):
        self.wrong(film(Parts()))

    def test_tracks_before_every_cluster(self):
        parts = body_parts()
        for blocks in (b"", block(0)):
            some = cluster(blocks)
            with self.subTest(blocks=blocks):
                self.right(film(parts.but(CLUSTER, some, some)))
                self.wrong(film(Parts({ABOUT: parts[ABOUT], CLUSTER: some, TRACKS: parts[TRACKS]})))
                self.wrong(film(Parts({CLUSTER: some, ABOUT: parts[ABOUT], TRACKS: parts[TRACKS], 0: some})))

    def test_about_may_stand_anywhere(self):
        parts = body_parts(cluster(block(0)), about=number(SCALE, 12))
        self.right(film(Parts({TRACKS: parts[TRACKS], ABOUT: parts[ABOUT], CLUSTER: parts[CLUSTER]})), 1, 12, 1, 1)
        self.right(film(Parts({TRACKS: parts[TRACKS], CLUSTER: parts[CLUSTER], ABOUT: parts[ABOUT]})), 1, 12, 1, 1)


class ScaleTest(FilmTest):

    def scaled(self, *about):
        return film(body_parts(about=b"".join(about)))

    def test_without_it(self):
        self.right(self.scaled(), 1, 1000000, 0, 0)
        self.right(self.scaled(element(0x4D80, b"any")), 1, 1000000, 0, 0)

    def test_with_it(self):
        for scale in (1, 2, 255, 256, 999999, 1000000, 1000001, 2 ** 32, 2 ** 63, 2 ** 64 - 1):
            with self.subTest(scale=scale):
                self.right(self.scaled(number(SCALE, scale)), 1, scale, 0, 0)

    def test_zero(self):
        for width in range(9):
            with self.subTest(width=width):
                self.wrong(self.scaled(number(SCALE, 0, width)))

    def test_twice(self):
        self.wrong(self.scaled(number(SCALE, 5), number(SCALE, 5)))
