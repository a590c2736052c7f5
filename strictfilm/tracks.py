"""The tracks of a film."""

from strictfilm.contents import Contents
from strictfilm.contents import GREATEST_NUMBER
from strictfilm.errors import NotRight

TRACK = 0xAE
NUMBER = 0xD7
LASTING_NUMBER = 0x73C5
KIND = 0x83
CODEC = 0x86
PICTURE = 0xE0
WIDTH = 0xB0
HEIGHT = 0xBA
SOUND = 0xE1
CHANNELS = 0x9F

LONGEST_CODEC = 64


class Picture:
    """How wide and how high the pictures of a track are."""

    def __init__(self, width, height):
        self.width = width
        self.height = height


class Track:
    """What is told of a track; the codec is the element that holds its name."""

    def __init__(self, number, lasting_number, kind, picture, channels, codec):
        self.number = number
        self.lasting_number = lasting_number
        self.kind = kind
        self.picture = picture
        self.channels = channels
        self.codec = codec


def read_tracks(file, element):
    """The tracks by their numbers, in the file's order."""
    tracks = {}
    for child in Contents(file, element).all_named((TRACK,)):
        track = read_track(file, child)
        if track.number in tracks:
            raise NotRight()
        tracks[track.number] = track
    if not tracks:
        raise NotRight()
    return tracks


def read_track(file, element):
    contents = Contents(file, element)
    codec = contents.once(CODEC)
    check_codec(file, codec)
    return Track(
        contents.number_once(NUMBER, 1, 255),
        contents.number_once(LASTING_NUMBER, 1, GREATEST_NUMBER),
        contents.number_once(KIND, 1, 255),
        read_picture(file, contents.at_most_once(PICTURE)),
        read_channels(file, contents.at_most_once(SOUND)),
        codec,
    )


def check_codec(file, codec):
    size = codec.end - codec.start
    if size < 1 or size > LONGEST_CODEC:
        raise NotRight()
    for place in range(codec.start, codec.end):
        if file[place] < 0x20 or file[place] > 0x7E:
            raise NotRight()


def read_picture(file, element):
    if element is None:
        return Picture(0, 0)
    contents = Contents(file, element)
    return Picture(contents.number_once(WIDTH, 1, 65535), contents.number_once(HEIGHT, 1, 65535))


def read_channels(file, sound):
    if sound is None:
        return 0
    return Contents(file, sound).number_or(CHANNELS, 1, 255, 1)
