"""A whole file."""

from strictfilm.clusters import read_cluster
from strictfilm.contents import Contents
from strictfilm.contents import GREATEST_NUMBER
from strictfilm.contents import check_before
from strictfilm.cursor import Cursor
from strictfilm.errors import NotRight
from strictfilm.header import check_header
from strictfilm.tracks import read_tracks

HEADER = 0x1A45DFA3
BODY = 0x18538067
ABOUT = 0x1549A966
SCALE = 0x2AD7B1
TRACKS = 0x1654AE6B
CLUSTER = 0x1F43B675

USUAL_SCALE = 1000000


class Film:
    """What a right file holds: its tracks by their numbers, the scale, and the blocks of each cluster."""

    def __init__(self, tracks, scale, clusters):
        self.tracks = tracks
        self.scale = scale
        self.clusters = clusters

    def blocks(self):
        """All blocks, in the file's order."""
        found = []
        for cluster in self.clusters:
            found.extend(cluster)
        return found


def read_film(file):
    cursor = Cursor(file, 0, len(file))
    header = cursor.take_element()
    body = cursor.take_element_or_rest()
    if header.name != HEADER or body.name != BODY or cursor.bytes_left() > 0:
        raise NotRight()
    check_header(file, header)
    return read_body(file, body)


def read_body(file, body):
    contents = Contents(file, body)
    scale = read_scale(file, contents.once(ABOUT))
    clusters = contents.all_named((CLUSTER,))
    check_before(contents.once(TRACKS), clusters)
    tracks = read_tracks(file, contents.once(TRACKS))
    return Film(tracks, scale, [read_cluster(file, cluster, tracks) for cluster in clusters])


def read_scale(file, about):
    return Contents(file, about).number_or(SCALE, 1, GREATEST_NUMBER, USUAL_SCALE)
