"""A file's bytes, gone through from the head to the last byte."""

HEADS = ((71, 73, 70, 56, 55, 97), (71, 73, 70, 56, 57, 97))
NOTE = 0x21
PICTURE = 0x2C
LAST = 0x3B
PICTURE_NOTE = 0xF9

MOST_PLACES = 1048576
MOST_PICTURES = 4096


# Raised wherever the bytes turn out to be no file.
class NoFile(Exception):
    pass


# Walks along the bytes, so that no other code has to ask whether they end too early.
class Reader:
    def __init__(self, file):
        self.file = file
        self.place = 0

    def take_byte(self):
        start = self.place
        self.skip(1)
        return self.file[start]

    def take_pair(self):
        lower_byte = self.take_byte()
        return lower_byte + 256 * self.take_byte()

    def skip(self, many):
        if self.place + many > len(self.file):
            raise NoFile()
        self.place += many


class Screen:
    def __init__(self, width, height, has_table):
        self.width = width
        self.height = height
        self.has_table = has_table


class Outline:
    def __init__(self, screen, pictures, length):
        self.width = screen.width
        self.height = screen.height
        self.pictures = pictures
        self.length = length


def read_outline(file):
    reader = Reader(file)
    read_head(reader)
    screen = read_screen(reader)
    pictures = count_pictures(reader, screen)
    return Outline(screen, pictures, reader.place)


def read_head(reader):
    head = [reader.take_byte() for step in range(6)]
    if tuple(head) not in HEADS:
        raise NoFile()


def read_screen(reader):
    width = reader.take_pair()
    height = reader.take_pair()
    if width < 1 or height < 1 or width * height > MOST_PLACES:
        raise NoFile()
    marks = reader.take_byte()
    # The number of a colour and the byte behind it say nothing that is ever used.
    reader.skip(2)
    skip_table(reader, marks)
    return Screen(width, height, tells_table(marks))


def tells_table(marks):
    return marks >= 128


def skip_table(reader, marks):
    if tells_table(marks):
        colours = 2 << (marks % 8)
        reader.skip(3 * colours)


def count_pictures(reader, screen):
    pictures = 0
    begin = reader.take_byte()
    while begin != LAST:
        if begin == NOTE:
            read_note(reader)
        elif begin == PICTURE:
            read_picture(reader, screen)
            pictures += 1
        else:
            raise NoFile()
        begin = reader.take_byte()
    if pictures < 1 or pictures > MOST_PICTURES:
        raise NoFile()
    return pictures


def read_note(reader):
    kind = reader.take_byte()
    lengths = skip_blocks(reader)
    if kind == PICTURE_NOTE and lengths != [4]:
        raise NoFile()


# Gives back how long each of the blocks is.
def skip_blocks(reader):
    lengths = []
    length = reader.take_byte()
    while length > 0:
        reader.skip(length)
        lengths.append(length)
        length = reader.take_byte()
    return lengths


def read_picture(reader, screen):
    left = reader.take_pair()
    top = reader.take_pair()
    check_edge(left, reader.take_pair(), screen.width)
    check_edge(top, reader.take_pair(), screen.height)
    marks = reader.take_byte()
    if not tells_table(marks) and not screen.has_table:
        raise NoFile()
    skip_table(reader, marks)
    size = reader.take_byte()
    if size < 2 or size > 8:
        raise NoFile()
    skip_blocks(reader)


# One way along the screen, across or down: a picture's start and extent must lie within it.
def check_edge(start, extent, room):
    if extent < 1 or start + extent > room:
        raise NoFile()
