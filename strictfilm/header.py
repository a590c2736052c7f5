"""The first element of a file: which form it is written in."""

from strictfilm.contents import Contents
from strictfilm.errors import NotRight

FORM = 0x4282
READ_VERSION = 0x42F7
NAME_BYTES = 0x42F2
LENGTH_BYTES = 0x42F3
FORM_READ_VERSION = 0x4285

MATROSKA = (0x6D, 0x61, 0x74, 0x72, 0x6F, 0x73, 0x6B, 0x61)
WEBM = (0x77, 0x65, 0x62, 0x6D)


def check_header(file, header):
    contents = Contents(file, header)
    form = contents.once(FORM)
    if tuple(file[form.start:form.end]) not in (MATROSKA, WEBM):
        raise NotRight()
    contents.number_or(READ_VERSION, 1, 1, None)
    contents.number_or(NAME_BYTES, 4, 4, None)
    contents.number_or(LENGTH_BYTES, 8, 8, None)
    contents.number_or(FORM_READ_VERSION, 0, 4, None)
