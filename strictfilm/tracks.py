"""The tracks of a film."""

from strictfilm.contents import Contents
from strictfilm.contents import GREATEST_NUMBER
from strictfilm.errors import NotRight

TRACK = 0xAE
NUMBER = 0xD7
LASTING_NUMBER = 0x73C5
KIND = 0x83
CODEC = 0x86
PICTURE = 0xE0
WIDTH = 0xB0
HEIGHT = 0xBA
SOUND = 0xE1
CHANNELS = 0x9F

LONGEST_CODEC = 64


def read_tracks(file, element):
    """The tracks' numbers, in the file's order, as the keys of a dict."""
    numbers = {}
    for track in Contents(file, element).all_named((TRACK,)):
        number = read_track(file, track)
        if number in numbers:
            raise NotRight()
        numbers[number] = True
    if not numbers:
        raise NotRight()
    return numbers


def read_track(file, track):
    """The track's number; whatever else the track must hold is checked."""
    contents = Contents(file, track)
    contents.number_once(LASTING_NUMBER, 1, GREATEST_NUMBER)
    contents.number_once(KIND, 1, 255)
    check_codec(file, contents.once(CODEC))
    check_picture(file, contents.at_most_once(PICTURE))
    check_sound(file, contents.at_most_once(SOUND))
    return contents.number_once(NUMBER, 1, 255)


def check_codec(file, codec):
    size = codec.end - codec.start
    if size < 1 or size > LONGEST_CODEC:
        raise NotRight()
    for place in range(codec.start, codec.end):
        if file[place] < 0x20 or file[place] > 0x7E:
            raise NotRight()


def check_picture(file, picture):
    if picture is None:
        return
    contents = Contents(file, picture)
    contents.number_once(WIDTH, 1, 65535)
    contents.number_once(HEIGHT, 1, 65535)


def check_sound(file, sound):
    if sound is None:
        return
    Contents(file, sound).number_or(CHANNELS, 1, 255, 1)
