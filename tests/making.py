"""Makes files, byte by byte, and lists that may not be changed, for the tests."""

LAST = [0x3B]


class Untouchable(list):
    """A list that tells at once when it is changed, be it for a while."""

    def refuse(self, *given, **named):
        raise AssertionError("what was handed in is changed")

    __setitem__ = __delitem__ = __iadd__ = __imul__ = refuse
    append = extend = insert = pop = remove = clear = sort = reverse = refuse


def pair(number):
    return [number % 256, number // 256]


def table(marks, first=0):
    return [(first + 7 * k) % 256 for k in range(3 * 2 ** (1 + marks % 8))] if marks >= 128 else []


def blocks(rows):
    made = []
    for row in rows:
        made += [len(row)] + row
    return made + [0]


def head(width=10, height=8, marks=0x80, letters="GIF89a", colour=0, behind=0):
    begin = [ord(letter) for letter in letters]
    return begin + pair(width) + pair(height) + [marks, colour, behind] + table(marks)


def note(kind, rows):
    return [0x21, kind] + blocks(rows)


def picture_note(p=0, time=0, colour=0):
    return note(0xF9, [[p] + pair(time) + [colour]])


def picture(left=0, top=0, width=1, height=1, marks=0, size=2, rows=((0x44, 0x01),), first=0):
    edges = pair(left) + pair(top) + pair(width) + pair(height)
    return [0x2C] + edges + [marks] + table(marks, first) + [size] + blocks([list(row) for row in rows])


def whole(*parts, **screen):
    made = head(**screen)
    for part in parts:
        made += part
    return made + LAST


def pack(codes):
    """Bytes of codes that are given each with its number of bits."""
    bits = "".join(f"{code:0{many}b}"[::-1] for code, many in codes)
    bits += "0" * (-len(bits) % 8)
    return [int(bits[start:start + 8][::-1], 2) for start in range(0, len(bits), 8)]


def widen(size, codes):
    """The codes, each with the bits that it has behind those ahead of it."""
    clear = 2 ** size
    places, bits, before = clear + 2, size + 1, False
    made = []
    for code in codes:
        made.append((code, bits))
        if code == clear:
            places, bits, before = clear + 2, size + 1, False
        else:
            places += 1 if before and places < 4096 else 0
            bits = max(size + 1, min(12, places.bit_length()))
            before = True
    return made


def data(size, codes):
    return pack(widen(size, codes))


def cut(row, length=255):
    return [row[start:start + length] for start in range(0, len(row), length)]
