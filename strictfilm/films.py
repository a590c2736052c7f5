"""The calls."""

from strictfilm.errors import NotRight
from strictfilm.reader import read_film

REFUSED_FILE = -1


def look(file):
    """How many tracks, the scale, how many clusters, how many frames, behind a 0."""
    try:
        film = read_film(file)
    except NotRight:
        return [REFUSED_FILE]
    return [0, len(film.track_numbers), film.scale, len(film.cluster_frames), sum(film.cluster_frames)]
