"""What the document says of the tracks."""

from tests.builder import (
    FilmTest, block, body_parts, cluster, element, film, film_of_track, number, track, track_parts,
)


class TracksTest(FilmTest):

    def tracks(self, *tracks):
        return film(body_parts(tracks=b"".join(tracks)))

    def test_how_many(self):
        for count in (1, 2, 3, 255):
            with self.subTest(count=count):
                self.right(self.tracks(*[track(k + 1) for k in range(count)]), count, 1000000, 0, 0)

    def test_any_order_of_numbers(self):
        self.right(self.tracks(track(200), track(3), track(100)), 3, 1000000, 0, 0)

    def test_none(self):
        self.wrong(self.tracks())
        self.wrong(self.tracks(element(0xEC, track())))

    def test_no_two_of_one_number(self):
        self.wrong(self.tracks(track(1), track(1)))
        self.wrong(self.tracks(track(1), track(2), track(1)))
        again = track_parts().but(0xD7, number(0xD7, 1, 2))
        self.wrong(self.tracks(track(1), element(0xAE, again.bytes())))

    def test_one_wrong_among_right_ones(self):
        self.wrong(self.tracks(track(1), element(0xAE, track_parts(2).but(0x83).bytes()), track(3)))
        self.wrong(self.tracks(track(1), track(2), element(0xAE)))

    def test_other_numbers_may_be_the_same(self):
        same = track_parts(2).but(0x73C5, track_parts(1)[0x73C5])
        self.right(self.tracks(track(1), element(0xAE, same.bytes())), 2, 1000000, 0, 0)


class TrackTest(FilmTest):

    def test_what_is_there_once(self):
        for name in (0xD7, 0x73C5, 0x83, 0x86):
            with self.subTest(name=hex(name)):
                self.wrong(film_of_track(track_parts().but(name)))
                self.wrong(film_of_track(track_parts().twice(name)))

    def test_bounds(self):
        for name, most in ((0xD7, 255), (0x83, 255), (0x73C5, 2 ** 64 - 1)):
            for value in (0, 1, 2, 254, 255, 256, 257, 511, 65535, 2 ** 64 - 1):
                with self.subTest(name=hex(name), value=value):
                    file = film_of_track(track_parts().but(name, number(name, value)))
                    if 1 <= value <= most:
                        self.right(file, 1, 1000000, 0, 0)
                    else:
                        self.wrong(file)

    def test_any_order(self):
        parts = track_parts()
        self.right(film_of_track(type(parts)(reversed(parts.items()))))


class CodecTest(FilmTest):

    def codec(self, text):
        return film_of_track(track_parts().but(0x86, element(0x86, text)))

    def test_lengths(self):
        for length in (1, 2, 63, 64):
            with self.subTest(length=length):
                self.right(self.codec(b"A" * length))
        for length in (0, 65, 66, 200):
            with self.subTest(length=length):
                self.wrong(self.codec(b"A" * length))

    def test_bytes(self):
        for byte in range(256):
            for place in range(3):
                text = bytearray(b"A_B")
                text[place] = byte
                with self.subTest(byte=byte, place=place):
                    if 0x20 <= byte <= 0x7E:
                        self.right(self.codec(bytes(text)))
                    else:
                        self.wrong(self.codec(bytes(text)))


class PictureTest(FilmTest):

    def picture(self, *parts):
        return film_of_track(track_parts().but(0xE0, element(0xE0, *parts)))

    def test_with_both(self):
        self.right(self.picture(number(0xB0, 320), number(0xBA, 200)))
        self.right(self.picture(number(0xBA, 200), number(0xB0, 320)))

    def test_one_missing(self):
        self.wrong(self.picture())
        self.wrong(self.picture(number(0xB0, 320)))
        self.wrong(self.picture(number(0xBA, 200)))

    def test_one_twice(self):
        self.wrong(self.picture(number(0xB0, 320), number(0xB0, 320), number(0xBA, 200)))
        self.wrong(self.picture(number(0xB0, 320), number(0xBA, 200), number(0xBA, 200)))

    def test_bounds(self):
        for value in (0, 1, 2, 255, 256, 65534, 65535, 65536, 65537, 2 ** 64 - 1):
            check = self.right if 1 <= value <= 65535 else self.wrong
            with self.subTest(value=value):
                check(self.picture(number(0xB0, value), number(0xBA, 200)))
                check(self.picture(number(0xB0, 320), number(0xBA, value)))

    def test_picture_twice(self):
        one = element(0xE0, number(0xB0, 320), number(0xBA, 200))
        self.wrong(film_of_track(track_parts().but(0xE0, one, one)))


class SoundTest(FilmTest):

    def sound(self, *parts):
        return film_of_track(track_parts().but(0xE1, element(0xE1, *parts)))

    def test_channels_or_not(self):
        self.right(self.sound())
        self.right(self.sound(number(0x9F, 2)))

    def test_channels_twice(self):
        self.wrong(self.sound(number(0x9F, 2), number(0x9F, 2)))

    def test_bounds(self):
        for value in (0, 1, 2, 254, 255, 256, 257, 2 ** 64 - 1):
            with self.subTest(value=value):
                check = self.right if 1 <= value <= 255 else self.wrong
                check(self.sound(number(0x9F, value)))

    def test_sound_twice(self):
        self.wrong(film_of_track(track_parts().but(0xE1, element(0xE1), element(0xE1))))

    def test_picture_and_sound_of_any_kind_of_track(self):
        both = track_parts().but(0xE0, element(0xE0, number(0xB0, 1), number(0xBA, 1)), element(0xE1))
        for kind in (1, 2, 17, 255):
            with self.subTest(kind=kind):
                file = film_of_track(both.but(0x83, number(0x83, kind)))
                self.right(file, 1, 1000000, 0, 0)

    def test_tracks_with_blocks(self):
        file = film(body_parts(cluster(block(0, track_number=2)), tracks=track(2)))
        self.right(file, 1, 1000000, 1, 1)
