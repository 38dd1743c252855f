"""A file's bytes, gone through from the head to the last byte."""

HEADS = ((71, 73, 70, 56, 55, 97), (71, 73, 70, 56, 57, 97))
NOTE = 0x21
PICTURE = 0x2C
LAST = 0x3B
PICTURE_NOTE = 0xF9

MOST_PLACES = 1048576
MOST_PICTURES = 4096


# Raised wherever the bytes turn out to be no file.
class NoFile(Exception):
    pass


# Walks along the bytes, so that no other code has to ask whether they end too early.
class Reader:
    def __init__(self, file):
        self.file = file
        self.place = 0

    def take_byte(self):
        start = self.place
        self.skip(1)
        return self.file[start]

    def take_pair(self):
        lower_byte = self.take_byte()
        return lower_byte + 256 * self.take_byte()

    def take_bytes(self, many):
        start = self.place
        self.skip(many)
        return self.file[start:self.place]

    def skip(self, many):
        if self.place + many > len(self.file):
            raise NoFile()
        self.place += many


# Its colours are empty where the file has no table of its own.
class Screen:
    def __init__(self, width, height, colours):
        self.width = width
        self.height = height
        self.colours = colours


# How long a picture stays, what is done with it behind it, and which colour is not drawn, -1 if each is.
class Manner:
    def __init__(self, time, after, transparent):
        self.time = time
        self.after = after
        self.transparent = transparent


# Where on the screen a picture lies.
class Area:
    def __init__(self, left, top, width, height):
        self.left = left
        self.top = top
        self.width = width
        self.height = height


class Picture:
    def __init__(self, area, manner, colours, in_passes, size, data):
        self.area = area
        self.manner = manner
        self.colours = colours
        self.in_passes = in_passes
        self.size = size
        self.data = data


class Outline:
    def __init__(self, screen, pictures, length):
        self.screen = screen
        self.pictures = pictures
        self.length = length


def read_outline(file):
    reader = Reader(file)
    read_head(reader)
    screen = read_screen(reader)
    pictures = read_pictures(reader, screen)
    return Outline(screen, pictures, reader.place)


def read_head(reader):
    head = reader.take_bytes(6)
    if tuple(head) not in HEADS:
        raise NoFile()


def read_screen(reader):
    width = reader.take_pair()
    height = reader.take_pair()
    if width < 1 or height < 1 or width * height > MOST_PLACES:
        raise NoFile()
    marks = reader.take_byte()
    # The number of a colour and the byte behind it say nothing that is ever used.
    reader.skip(2)
    return Screen(width, height, read_table(reader, marks))


# Empty where the marks say that there is no table; a table has two colours at least.
def read_table(reader, marks):
    if marks < 128:
        return []
    many = 2 << (marks % 8)
    return [reader.take_bytes(3) for step in range(many)]


def read_pictures(reader, screen):
    pictures = []
    manner = plain_manner()
    begin = reader.take_byte()
    while begin != LAST:
        if begin == NOTE:
            manner = read_note(reader, manner)
        elif begin == PICTURE:
            pictures.append(read_picture(reader, screen, manner))
            # A note speaks of one picture only.
            manner = plain_manner()
        else:
            raise NoFile()
        begin = reader.take_byte()
    if len(pictures) < 1 or len(pictures) > MOST_PICTURES:
        raise NoFile()
    return pictures


def plain_manner():
    return Manner(0, 0, -1)


# Gives back the manner that holds behind the note: most notes leave it as it was.
def read_note(reader, manner):
    kind = reader.take_byte()
    blocks = read_blocks(reader)
    if kind != PICTURE_NOTE:
        return manner
    if len(blocks) != 1 or len(blocks[0]) != 4:
        raise NoFile()
    return read_manner(blocks[0])


def read_manner(block):
    reader = Reader(block)
    marks = reader.take_byte()
    time = reader.take_pair()
    colour = reader.take_byte()
    transparent = colour if marks % 2 == 1 else -1
    return Manner(time, marks // 4 % 8, transparent)


def read_blocks(reader):
    blocks = []
    length = reader.take_byte()
    while length > 0:
        blocks.append(reader.take_bytes(length))
        length = reader.take_byte()
    return blocks


def read_picture(reader, screen, manner):
    area = read_area(reader, screen)
    marks = reader.take_byte()
    colours = read_table(reader, marks)
    if len(colours) == 0:
        colours = screen.colours
    if len(colours) == 0:
        raise NoFile()
    size = reader.take_byte()
    if size < 2 or size > 8:
        raise NoFile()
    in_passes = marks % 128 >= 64
    return Picture(area, manner, colours, in_passes, size, join_blocks(read_blocks(reader)))


def join_blocks(blocks):
    joined = []
    for block in blocks:
        joined.extend(block)
    return joined


def read_area(reader, screen):
    left = reader.take_pair()
    top = reader.take_pair()
    width = reader.take_pair()
    height = reader.take_pair()
    check_edge(left, width, screen.width)
    check_edge(top, height, screen.height)
    return Area(left, top, width, height)


# One way along the screen, across or down: a picture's start and extent must lie within it.
def check_edge(start, extent, room):
    if extent < 1 or start + extent > room:
        raise NoFile()
