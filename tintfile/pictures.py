"""The calls that the package offers."""

from tintfile.drawing import draw_picture
from tintfile.reading import NoFile, read_outline
from tintfile.unpacking import unpack

MOST_BYTES = 1048576
MOST_NUMBERS = 1048576


# Raised where a number is asked for that no picture has.
class NoPicture(Exception):
    pass


# The screen's width and height, how many pictures there are, and the file's length.
def look(file):
    if len(file) > MOST_BYTES:
        return [-2]
    try:
        outline = read_outline(file)
    except NoFile:
        return [-1]
    return [0, outline.screen.width, outline.screen.height, len(outline.pictures), outline.length]


# Where picture k lies, how long it stays, what is done behind it, and its transparent colour.
def tell(k, file):
    if len(file) > MOST_BYTES:
        return [-2]
    try:
        picture = find_picture(k, read_outline(file))
    except NoFile:
        return [-1]
    except NoPicture:
        return [-1]
    area = picture.area
    manner = picture.manner
    return [0, area.left, area.top, area.width, area.height, manner.time, manner.after, manner.transparent]


# Picture k drawn over canvas, with what is to be brought back later in saved.
def draw(k, file, canvas, saved):
    if len(file) > MOST_BYTES:
        return [-2]
    try:
        outline = read_outline(file)
        find_picture(k, outline)
    except NoFile:
        return [-1]
    except NoPicture:
        return [-1]
    return draw_picture(k, outline, canvas, saved)


# How many numbers the codes of data tell, at most so many as are wanted, and the numbers themselves.
def codes(size, most, data):
    if size < 2 or size > 8 or most < 0 or most > MOST_NUMBERS or len(data) > MOST_BYTES:
        return [-2]
    unpacked = unpack(size, most, data)
    first = -1 if unpacked.is_wrong else len(unpacked.numbers)
    return [first] + unpacked.numbers


def find_picture(k, outline):
    if k < 0 or k >= len(outline.pictures):
        raise NoPicture()
    return outline.pictures[k]
