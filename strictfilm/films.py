"""The calls."""

from strictfilm.errors import NotRight
from strictfilm.reader import read_film

FILE_NOT_RIGHT = -1
NOT_THERE = -2
TOO_LONG = -3


def look(file):
    """How many tracks, the scale, how many clusters, how many frames, behind a 0."""
    film = film_or_none(file)
    if film is None:
        return [FILE_NOT_RIGHT]
    frames = sum([len(block.lengths) for block in film.blocks()])
    return [0, len(film.tracks), film.scale, len(film.clusters), frames]


def track(k, most, file):
    """The k-th track, from 0: six numbers and its codec's name."""
    film = film_or_none(file)
    if film is None:
        return [FILE_NOT_RIGHT]
    if k < 0 or k >= len(film.tracks):
        return [NOT_THERE]
    found = list(film.tracks.values())[k]
    picture = found.picture
    numbers = [
        found.number, found.lasting_number, found.kind, picture.width, picture.height, found.channels,
    ]
    return tell(numbers, file[found.codec.start:found.codec.end], most)


def frame(k, most, file):
    """The k-th frame in the file's order, from 0: four numbers and its bytes."""
    film = film_or_none(file)
    if film is None:
        return [FILE_NOT_RIGHT]
    if k < 0:
        return [NOT_THERE]
    ahead = 0
    for block in film.blocks():
        if k < ahead + len(block.lengths):
            return tell_frame(block, k - ahead, most, file)
        ahead += len(block.lengths)
    return [NOT_THERE]


def tell_frame(block, place, most, file):
    """The frame that has so many frames ahead of it in its block."""
    length = block.lengths[place]
    start = block.start + sum(block.lengths[:place])
    numbers = [block.track_number, block.time, 1 if block.is_key else 0, length]
    return tell(numbers, file[start:start + length], most)


def find(track, time, file):
    """Which frame, from 0, is the last key one of the track whose time isn't above."""
    film = film_or_none(file)
    if film is None:
        return [FILE_NOT_RIGHT]
    found = NOT_THERE
    frames = 0
    for block in film.blocks():
        frames += len(block.lengths)
        if block.is_key and block.track_number == track and block.time <= time:
            found = frames - 1
    return [found]


def film_or_none(file):
    try:
        return read_film(file)
    except NotRight:
        return None


def tell(numbers, content, most):
    """How many bytes of content there are, the numbers and the content, each behind how many they are."""
    length = len(content)
    if length > most:
        return [TOO_LONG]
    return [length, len(numbers)] + numbers + [length] + content
