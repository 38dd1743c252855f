"""The calls that the package offers."""

from tintfile.reading import NoFile, read_outline

MOST_BYTES = 1048576


# The screen's width and height, how many pictures there are, and the file's length.
def look(file):
    if len(file) > MOST_BYTES:
        return [-2]
    try:
        outline = read_outline(file)
    except NoFile:
        return [-1]
    return [0, outline.width, outline.height, outline.pictures, outline.length]
