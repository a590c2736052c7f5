"""What track answers."""

from strictfilm.films import track
from tests.builder import (
    GREATEST, LEAST, FilmTest, block, body_parts, cluster, element, film, film_of_track, number, track_parts,
)


def picture(width, height):
    return element(0xE0, number(0xB0, width), number(0xBA, height))


def sound(*channels):
    return element(0xE1, *[number(0x9F, count) for count in channels])


def codec(name):
    return element(0x86, name)


def three_tracks(clusters=b""):
    parts = [
        track_parts(7).but(0xE0, picture(640, 480)).but(0x86, codec(b"V_ONE")),
        track_parts(3).but(0xE1, sound(2)).but(0x83, number(0x83, 2)).but(0x86, codec(b"A_LONGER")),
        track_parts(255).but(0x83, number(0x83, 17)).but(0x86, codec(b"S")),
    ]
    return film(body_parts(clusters, b"".join(element(0xAE, one.bytes()) for one in parts)))


class TrackCallTest(FilmTest):

    def told(self, file, numbers, name, k=0):
        """What track answers, with just so many bytes allowed as the name has, and with many more."""
        answer = [len(name), 6, *numbers, len(name), *name]
        self.assertEqual(track(k, len(name), file), answer)
        self.assertEqual(track(k, GREATEST, file), answer)

    def told_of_parts(self, parts, *numbers):
        self.told(film_of_track(parts), numbers, b"V_TEST")


class WhichTest(TrackCallTest):

    def test_the_only_one(self):
        self.told_of_parts(track_parts(5), 5, 1005, 1, 0, 0, 0)

    def test_each_of_several(self):
        file = three_tracks()
        self.told(file, [7, 1007, 1, 640, 480, 0], b"V_ONE", k=0)
        self.told(file, [3, 1003, 2, 0, 0, 2], b"A_LONGER", k=1)
        self.told(file, [255, 1255, 17, 0, 0, 0], b"S", k=2)

    def test_as_many_as_there_can_be(self):
        tracks = [element(0xAE, track_parts(255 - k).bytes()) for k in range(255)]
        file = film(body_parts(tracks=b"".join(tracks)))
        for k in range(255):
            self.told(file, [255 - k, 1255 - k, 1, 0, 0, 0], b"V_TEST", k)
        self.assertEqual(track(255, GREATEST, file), [-2])

    def test_others_among_the_tracks(self):
        tracks = [element(0xEC, b"any"), element(0xAE, track_parts(9).bytes()), element(0xAE, track_parts(4).bytes())]
        file = film(body_parts(tracks=element(0xEC).join(tracks)))
        self.told(file, [9, 1009, 1, 0, 0, 0], b"V_TEST", k=0)
        self.told(file, [4, 1004, 1, 0, 0, 0], b"V_TEST", k=1)

    def test_of_a_film_with_clusters(self):
        file = three_tracks(cluster(block(0, b"x", track_number=3)))
        self.told(file, [3, 1003, 2, 0, 0, 2], b"A_LONGER", k=1)

    def test_none(self):
        for k in (LEAST, LEAST + 1, -4, -3, -2, -1, 3, 4, 255, GREATEST - 1, GREATEST):
            for most in (LEAST, -1, 0, 1, 64, GREATEST):
                with self.subTest(k=k, most=most):
                    self.assertEqual(track(k, most, three_tracks()), [-2])
        for k in (-1, 1):
            self.assertEqual(track(k, GREATEST, film()), [-2])


class NumbersTest(TrackCallTest):

    def test_bounds_of_the_first_three(self):
        for value in (1, 127, 128, 255):
            self.told_of_parts(track_parts().but(0xD7, number(0xD7, value)), value, 1001, 1, 0, 0, 0)
            self.told_of_parts(track_parts().but(0x83, number(0x83, value)), 1, 1001, value, 0, 0, 0)
        for value in (1, 255, 2 ** 31, 2 ** 32, 2 ** 63, 2 ** 64 - 1):
            self.told_of_parts(track_parts().but(0x73C5, number(0x73C5, value)), 1, value, 1, 0, 0, 0)

    def test_numbers_with_zeros_in_front(self):
        for width in (2, 3, 8):
            parts = track_parts().but(0xD7, number(0xD7, 2, width)).but(0x73C5, number(0x73C5, 3, width))
            self.told_of_parts(parts.but(0x83, number(0x83, 4, width)), 2, 3, 4, 0, 0, 0)

    def test_all_six_in_their_order(self):
        parts = track_parts(11).but(0x73C5, number(0x73C5, 12)).but(0x83, number(0x83, 13))
        self.told_of_parts(parts.but(0xE0, picture(14, 15)).but(0xE1, sound(16)), 11, 12, 13, 14, 15, 16)

    def test_children_in_another_order(self):
        parts = track_parts(11).but(0xE0, element(0xE0, number(0xBA, 15), number(0xB0, 14))).but(0xE1, sound(16))
        self.told_of_parts(type(parts)(reversed(parts.items())), 11, 1011, 1, 14, 15, 16)

    def test_width_and_height(self):
        for width, height in ((1, 1), (1, 65535), (65535, 1), (65535, 65535), (256, 255)):
            with self.subTest(width=width, height=height):
                self.told_of_parts(track_parts().but(0xE0, picture(width, height)), 1, 1001, 1, width, height, 0)

    def test_channels(self):
        for channels in (1, 2, 254, 255):
            with self.subTest(channels=channels):
                self.told_of_parts(track_parts().but(0xE1, sound(channels)), 1, 1001, 1, 0, 0, channels)

    def test_sound_without_channels(self):
        self.told_of_parts(track_parts().but(0xE1, sound()), 1, 1001, 1, 0, 0, 1)
        self.told_of_parts(track_parts().but(0xE1, element(0xE1, element(0xB5, b"any"))), 1, 1001, 1, 0, 0, 1)

    def test_what_they_hold_counts_within_them_alone(self):
        parts = track_parts().but(0xB0, number(0xB0, 5), number(0xBA, 6), number(0x9F, 7))
        self.told_of_parts(parts, 1, 1001, 1, 0, 0, 0)
        parts = track_parts().but(0xE0, element(0xE0, number(0xB0, 5), number(0x9F, 7), number(0xBA, 6)))
        self.told_of_parts(parts, 1, 1001, 1, 5, 6, 0)


class NameTest(TrackCallTest):

    def test_lengths(self):
        for length in (1, 2, 63, 64):
            name = bytes(range(0x7E, 0x7E - length, -1))
            with self.subTest(length=length):
                self.told(film_of_track(track_parts().but(0x86, codec(name))), [1, 1001, 1, 0, 0, 0], name)

    def test_every_byte(self):
        for name in (bytes(range(0x20, 0x50)), bytes(range(0x50, 0x7F)), b"    ", b"~"):
            self.told(film_of_track(track_parts().but(0x86, codec(name))), [1, 1001, 1, 0, 0, 0], name)

    def test_more_bytes_than_most(self):
        for length in (1, 2, 63, 64):
            file = film_of_track(track_parts().but(0x86, codec(b"A" * length)))
            for most in (LEAST, LEAST + 1, -1, 0, 1, 2, 62, 63, 64, 65, GREATEST):
                with self.subTest(length=length, most=most):
                    self.assertEqual(track(0, most, file)[0], -3 if length > most else length)
                    self.assertEqual(len(track(0, most, file)), 1 if length > most else 9 + length)

    def test_most_is_held_against_the_track_asked_for(self):
        file = three_tracks()
        self.assertEqual([track(k, 5, file)[0] for k in range(3)], [5, -3, 1])
        self.assertEqual([track(k, 4, file)[0] for k in range(3)], [-3, -3, 1])
        self.assertEqual([track(k, 0, file) for k in range(3)], [[-3], [-3], [-3]])


class WrongFileTest(TrackCallTest):

    def refused(self, file):
        for k in (LEAST, -1, 0, 1, 3, GREATEST):
            for most in (LEAST, -1, 0, 5, 64, GREATEST):
                with self.subTest(k=k, most=most):
                    self.assertEqual(track(k, most, file), [-1])

    def test_before_all_else(self):
        self.refused([])
        self.refused(three_tracks()[:-1])
        self.refused(three_tracks() + [0])

    def test_a_fault_far_behind_the_tracks(self):
        good = cluster(block(0, b"x", track_number=3))
        faults = [
            cluster(block(0, b"x", track_number=4)),
            cluster(block(0, b"x", track_number=3), block(4, b"\1", b"abc", track_number=3)),
            cluster(block(2, b"\1\4", b"abc", track_number=3)),
            cluster(block(0, track_number=3), time=2 ** 48 + 1),
            element(0xEC, b"", size=8)[:-1],
        ]
        for fault in faults:
            self.refused(three_tracks(good * 5 + fault))

    def test_a_fault_ahead_of_the_tracks(self):
        self.refused(film(body_parts(about=number(0x2AD7B1, 0))))

    def test_a_fault_of_another_track(self):
        wrong = element(0xAE, track_parts(2).but(0x86, codec(b"A\x7f")).bytes())
        self.refused(film(body_parts(tracks=element(0xAE, track_parts(1).bytes()) + wrong)))
