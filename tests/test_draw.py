"""Point 4 of the promises, and the rows on -2 and -1 above it, for draw."""

import random
import unittest

from making import LAST, Untouchable, cut, data, head, note, picture, picture_note, whole
from tintfile.pictures import draw, look, tell

LOWEST = -2147483648
HIGHEST = 2147483647
EMPTY = [0, 0, 0, 0]
OWN = 100


def shade(number, first=0):
    """A colour of the tables that are made here, as a place shows it."""
    return [(first + 7 * (3 * number + step)) % 256 for step in range(3)] + [255]


def filled(places, first):
    """A screen full of colours, no two neighbours alike."""
    made = []
    for k in range(places):
        made += [(first + k) % 256, (first + 3 * k) % 256, (7 * k) % 256, 255]
    return made


def over(canvas, width, places):
    """The canvas with some of its places changed; they are given by column and row."""
    made = list(canvas)
    for (column, row), four in places.items():
        start = 4 * (row * width + column)
        made[start:start + 4] = four
    return made


def box(left, top, width, height):
    return [(column, row) for row in range(top, top + height) for column in range(left, left + width)]


def spelled(size, numbers):
    """Codes for numbers, each by itself: clear comes ahead of every one, end behind the last."""
    codes = []
    for number in numbers:
        codes += [2 ** size, number]
    return codes + [2 ** size + 1]


def shown(left, top, width, height, codes, marks=0, size=2, first=OWN):
    rows = cut(data(size, codes))
    return picture(left, top, width, height, marks=marks, size=size, rows=rows, first=first)


def plain(left, top, width, height, number=1):
    """A picture of one colour."""
    return shown(left, top, width, height, spelled(2, [number] * (width * height)))


def says(after):
    return picture_note(4 * after)


class Draw(unittest.TestCase):
    width = 5
    height = 4

    def file(self, *parts, **screen):
        return whole(*parts, **{"width": self.width, "height": self.height, "marks": 0x81, **screen})

    def canvas(self):
        return filled(self.width * self.height, 11)

    def saved(self):
        return filled(self.width * self.height, 160)

    def nothing(self):
        return EMPTY * (self.width * self.height)

    def over(self, canvas, places):
        return over(canvas, self.width, places)

    def drawn(self, k, file, canvas, saved=None, first=0):
        """What is expected of a call with the usual canvas and saved; saved is to stay unless it is given."""
        answer = draw(k, file, self.canvas(), self.saved())
        self.assertEqual(answer, [first] + canvas + (self.saved() if saved is None else saved))

    def one(self, codes, places, first=0, size=2, **kind):
        """A first picture of three times two places, and what it leaves on the screen."""
        file = self.file(shown(1, 1, 3, 2, codes, size=size, **kind), marks=0x87)
        self.drawn(0, file, self.over(self.nothing(), dict(zip(box(1, 1, 3, 2), places))), first=first)


class FirstPicture(Draw):
    def test_file_written_out(self):
        file = [0x47, 0x49, 0x46, 0x38, 0x39, 0x61, 3, 0, 2, 0, 0x80, 0, 0, 10, 20, 30, 40, 50, 60]
        # Clear, 1, 0, 6 in codes of three bits, then 6 and end in four; 6 stands for 1, 0.
        file += [0x2C, 0, 0, 0, 0, 3, 0, 2, 0, 0, 2, 3, 0x0C, 0x6C, 0x05, 0, 0x3B]
        dark, light = [10, 20, 30, 255], [40, 50, 60, 255]
        canvas = light + dark + light + dark + light + dark
        self.assertEqual(draw(0, file, [9] * 24, [8] * 24), [0] + canvas + [8] * 24)

    def test_canvas_is_four_zeros_first(self):
        file = self.file(plain(1, 2, 3, 1))
        expected = [0] + self.over(self.nothing(), {place: shade(1) for place in box(1, 2, 3, 1)}) + self.saved()
        for canvas in (self.nothing(), self.canvas(), self.saved(), [255] * 80, [1] * 80):
            self.assertEqual(draw(0, file, canvas, self.saved()), expected)

    def test_saved_stays_unless_the_picture_says_3(self):
        canvas = self.over(self.nothing(), {(2, 3): shade(1)})
        for after in (0, 1, 2, 4, 5, 6, 7):
            self.drawn(0, self.file(says(after), plain(2, 3, 1, 1)), canvas)
        self.drawn(0, self.file(plain(2, 3, 1, 1)), canvas)

    def test_saved_is_the_empty_canvas_where_the_picture_says_3(self):
        canvas = self.over(self.nothing(), {(2, 3): shade(1)})
        self.drawn(0, self.file(says(3), plain(2, 3, 1, 1)), canvas, self.nothing())

    def test_pictures_behind_it_do_nothing(self):
        canvas = self.over(self.nothing(), {(2, 3): shade(1)})
        for after in range(8):
            self.drawn(0, self.file(plain(2, 3, 1, 1), says(after), plain(0, 0, 5, 4, 2)), canvas)

    def test_smallest_screen(self):
        file = whole(plain(0, 0, 1, 1), width=1, height=1, marks=0x81)
        self.assertEqual(draw(0, file, [1, 2, 3, 255], [4, 5, 6, 255]), [0] + shade(1) + [4, 5, 6, 255])


class LaterPictures(Draw):
    def pictures(self, ahead, after):
        """The one ahead tells one number of the six that it has places for, so five are not drawn."""
        short = shown(1, 1, 3, 2, [4, 2, 5])
        return self.file(plain(0, 0, 5, 4), says(ahead), short, says(after), plain(0, 0, 2, 2))

    def paint(self, canvas):
        return self.over(canvas, {place: shade(1) for place in box(0, 0, 2, 2)})

    def test_what_the_picture_ahead_says(self):
        cleared = self.over(self.canvas(), {place: EMPTY for place in box(1, 1, 3, 2)})
        for ahead in range(8):
            canvas = {2: cleared, 3: self.saved()}.get(ahead, self.canvas())
            for after in range(8):
                saved = canvas if after == 3 else self.saved()
                self.drawn(2, self.pictures(ahead, after), self.paint(canvas), saved)

    def test_every_other_bit_of_p(self):
        for p in range(256):
            file = self.file(picture_note(p, 7, 9), plain(3, 3, 1, 1), plain(0, 0, 2, 2))
            ahead = int(f"{p:08b}"[3:6], 2)
            cleared = self.over(self.canvas(), {(3, 3): EMPTY})
            self.drawn(1, file, self.paint({2: cleared, 3: self.saved()}.get(ahead, self.canvas())))

    def test_cleared_and_then_saved(self):
        file = self.file(says(2), plain(3, 0, 2, 4), says(3), plain(4, 3, 1, 1))
        canvas = self.over(self.canvas(), {place: EMPTY for place in box(3, 0, 2, 4)})
        self.drawn(1, file, self.over(canvas, {(4, 3): shade(1)}), canvas)

    def test_brought_back_and_then_saved(self):
        file = self.file(says(3), plain(3, 0, 2, 4), says(3), plain(4, 3, 1, 1))
        self.drawn(1, file, self.over(self.saved(), {(4, 3): shade(1)}), self.saved())

    def test_transparent_places_of_the_picture_ahead_are_cleared_too(self):
        file = self.file(picture_note(9, 0, 1), plain(1, 0, 4, 2), plain(0, 3, 1, 1))
        cleared = self.over(self.canvas(), {place: EMPTY for place in box(1, 0, 4, 2)})
        self.drawn(1, file, self.over(cleared, {(0, 3): shade(1)}))

    def test_picture_ahead_with_wrong_codes_is_cleared_too(self):
        for codes in ([4, 7], [7], [5], [4, 1, 7]):
            file = self.file(says(2), shown(1, 0, 4, 2, codes), plain(0, 3, 1, 1))
            cleared = self.over(self.canvas(), {place: EMPTY for place in box(1, 0, 4, 2)})
            self.drawn(1, file, self.over(cleared, {(0, 3): shade(1)}))

    def test_the_picture_right_ahead_counts_alone(self):
        canvas = self.over(self.canvas(), {(0, 3): shade(1)})
        for after in range(8):
            parts = says(after), plain(0, 0, 5, 4), plain(1, 1, 1, 1), plain(0, 3, 1, 1), says(after), plain(4, 3, 1, 1)
            self.drawn(2, self.file(*parts), canvas)

    def test_the_picture_ahead_is_not_drawn_again(self):
        self.drawn(1, self.file(plain(1, 1, 3, 2), plain(0, 0, 2, 2)), self.paint(self.canvas()))

    def test_empty_places_of_saved_come_back(self):
        file = self.file(says(3), plain(0, 0, 5, 4), plain(0, 0, 1, 1))
        saved = self.over(self.nothing(), {(4, 3): [1, 2, 3, 255]})
        self.assertEqual(draw(1, file, self.canvas(), saved), [0] + self.over(saved, {(0, 0): shade(1)}) + saved)

    def test_one_after_another(self):
        file = self.file(
            plain(0, 0, 5, 4, 1), says(3), plain(1, 1, 3, 2, 2), says(2), plain(2, 0, 1, 4, 3), plain(4, 0, 1, 1, 0),
        )
        first = shade(1) * 20
        second = self.over(first, {place: shade(2) for place in box(1, 1, 3, 2)})
        third = self.over(first, {place: shade(3) for place in box(2, 0, 1, 4)})
        fourth = self.over(first, {place: EMPTY for place in box(2, 0, 1, 4)} | {(4, 0): shade(0)})
        canvas, saved = self.canvas(), self.nothing()
        for k, (expected, kept) in enumerate(((first, saved), (second, first), (third, first), (fourth, first))):
            answer = draw(k, file, canvas, saved)
            self.assertEqual(answer, [0] + expected + kept)
            canvas, saved = answer[1:81], answer[81:]


class Rows(Draw):
    """The rows of a picture in the order in which they come."""
    left = 2
    top = 3

    def rows(self, height, marks, order, across=3):
        """Each row has a number of its own, and its first place another one."""
        width, tall = across + 4, height + 5
        numbers, places = [], {}
        for step, row in enumerate(order):
            numbers += [100 + step] + [step] * (across - 1)
            places.update({place: shade(step) for place in box(self.left, self.top + row, across, 1)})
            places[(self.left, self.top + row)] = shade(100 + step)
        part = shown(self.left, self.top, across, height, spelled(7, numbers), marks=marks, size=7, first=0)
        file = whole(part, part, width=width, height=tall, marks=0x87)
        canvas = filled(width * tall, 3)
        self.assertEqual(draw(0, file, canvas, canvas), [0] + over(EMPTY * (width * tall), width, places) + canvas)
        self.assertEqual(draw(1, file, canvas, canvas), [0] + over(canvas, width, places) + canvas)

    def test_row_by_row(self):
        for height in range(1, 18):
            for across in (1, 2, 3):
                self.rows(height, 0, range(height), across)

    def test_four_passes(self):
        for height in range(1, 18):
            passes = {0: 0, 4: 1, 2: 2, 6: 2, 1: 3, 3: 3, 5: 3, 7: 3}
            order = sorted(range(height), key=lambda row: (passes[row % 8], row))
            for across in (1, 2, 3):
                self.rows(height, 0x40, order, across)

    def test_four_passes_written_out(self):
        self.rows(1, 0x40, [0])
        self.rows(2, 0x40, [0, 1])
        self.rows(3, 0x40, [0, 2, 1])
        self.rows(4, 0x40, [0, 2, 1, 3])
        self.rows(5, 0x40, [0, 4, 2, 1, 3])
        self.rows(7, 0x40, [0, 4, 2, 6, 1, 3, 5])
        self.rows(8, 0x40, [0, 4, 2, 6, 1, 3, 5, 7])
        self.rows(9, 0x40, [0, 8, 4, 2, 6, 1, 3, 5, 7])
        self.rows(13, 0x40, [0, 8, 4, 12, 2, 6, 10, 1, 3, 5, 7, 9, 11])
        self.rows(16, 0x40, [0, 8, 4, 12, 2, 6, 10, 14, 1, 3, 5, 7, 9, 11, 13, 15])
        self.rows(17, 0x40, [0, 8, 16, 4, 12, 2, 6, 10, 14, 1, 3, 5, 7, 9, 11, 13, 15])

    def test_every_q(self):
        orders = {"0": [0, 1, 2, 3, 4, 5], "1": [0, 4, 2, 1, 3, 5]}
        for marks in range(256):
            order = orders[f"{marks:08b}"[1]]
            # The picture's own table may have fewer colours than there are rows.
            colours = 256 if marks < 128 else 2 ** (1 + marks % 8)
            places = {(1, row): shade(step) for step, row in enumerate(order) if step < colours}
            part = shown(1, 0, 1, 6, spelled(3, range(6)), marks=marks, size=3, first=0)
            file = whole(part, width=2, height=6, marks=0x87)
            self.assertEqual(draw(0, file, [7] * 48, [9] * 48), [0] + over([0] * 48, 2, places) + [9] * 48)

    def test_wrong_code_in_the_midst_of_the_passes(self):
        # Rows 0, 4 and 2 are there, and the first place of row 1.
        codes = spelled(3, [1, 1, 2, 2, 3, 3, 4])
        file = whole(shown(1, 1, 2, 5, codes, marks=0x40, size=3), width=4, height=7, marks=0x87)
        places = {}
        for row, number in ((0, 1), (4, 2), (2, 3)):
            places.update({place: shade(number) for place in box(1, 1 + row, 2, 1)})
        places[(1, 2)] = shade(4)
        self.assertEqual(draw(0, file, [7] * 112, [9] * 112), [-3] + over([0] * 112, 4, places) + [9] * 112)

    def test_corners_of_the_screen(self):
        for left, top in ((0, 0), (4, 0), (0, 3), (4, 3)):
            corner = {(left, top): shade(1)}
            file = self.file(plain(left, top, 1, 1), plain(left, top, 1, 1))
            self.drawn(0, file, self.over(self.nothing(), corner))
            self.drawn(1, file, self.over(self.canvas(), corner))

    def test_edges_of_two_bytes(self):
        file = whole(plain(300, 2, 2, 1), width=303, height=4, marks=0x81)
        places = {(300, 2): shade(1), (301, 2): shade(1)}
        self.assertEqual(draw(0, file, [7] * 4848, [9] * 4848), [0] + over([0] * 4848, 303, places) + [9] * 4848)
        file = whole(plain(2, 300, 1, 2), width=4, height=303, marks=0x81)
        places = {(2, 300): shade(1), (2, 301): shade(1)}
        self.assertEqual(draw(0, file, [7] * 4848, [9] * 4848), [0] + over([0] * 4848, 4, places) + [9] * 4848)


class Colours(Draw):
    def every_number(self, expected, marks=0, of_file=0x87, p=0, colour=0):
        """A picture that has each number of eight bits once; expected gives four numbers for each, or None."""
        part = shown(0, 0, 16, 16, spelled(8, range(256)), marks=marks, size=8)
        file = whole(picture(marks=0x80), picture_note(p, 0, colour), part, width=16, height=16, marks=of_file)
        canvas = filled(256, 40)
        places = {(number % 16, number // 16): expected(number) for number in range(256) if expected(number)}
        self.assertEqual(draw(1, file, canvas, canvas), [0] + over(canvas, 16, places) + canvas)

    def test_table_of_the_file(self):
        for power in range(8):
            many = 2 ** (1 + power)
            self.every_number(lambda number: shade(number) if number < many else None, of_file=0x80 + power)

    def test_own_table(self):
        for power in range(8):
            many = 2 ** (1 + power)
            for of_file in (0, 0x7F, 0x80, 0x87):
                self.every_number(
                    lambda number: shade(number, OWN) if number < many else None, marks=0x80 + power, of_file=of_file,
                )

    def test_own_table_is_for_its_picture_alone(self):
        own = shown(0, 0, 1, 1, [4, 1, 5], marks=0x80)
        shared = shown(1, 0, 1, 1, [4, 1, 5])
        file = self.file(own, shared, own)
        self.drawn(0, file, self.over(self.nothing(), {(0, 0): shade(1, OWN)}))
        self.drawn(1, file, self.over(self.canvas(), {(1, 0): shade(1)}))
        self.drawn(2, file, self.over(self.canvas(), {(0, 0): shade(1, OWN)}))

    def test_transparent_number(self):
        for colour in (0, 1, 127, 128, 254, 255):
            self.every_number(lambda number: None if number == colour else shade(number), p=1, colour=colour)
            self.every_number(lambda number: None if number == colour else shade(number), p=0xE3, colour=colour)
            self.every_number(lambda number: shade(number), p=0, colour=colour)
            self.every_number(lambda number: shade(number), p=0xE2, colour=colour)

    def test_transparent_number_with_own_table(self):
        self.every_number(
            lambda number: shade(number, OWN) if number < 8 and number != 5 else None, marks=0x82, p=1, colour=5,
        )
        self.every_number(lambda number: shade(number, OWN) if number < 8 else None, marks=0x82, p=1, colour=8)

    def test_transparent_number_of_another_picture(self):
        clear_one = picture_note(1, 0, 1)
        file = self.file(clear_one, plain(0, 0, 1, 1), plain(1, 0, 1, 1), clear_one, plain(2, 0, 1, 1))
        self.drawn(0, file, self.nothing())
        self.drawn(1, file, self.over(self.canvas(), {(1, 0): shade(1)}))
        self.drawn(2, file, self.canvas())

    def test_last_of_several_notes(self):
        file = self.file(picture_note(13, 0, 1), picture_note(1, 0, 2), shown(0, 0, 2, 1, [4, 1, 2, 5]))
        self.drawn(0, file, self.over(self.nothing(), {(0, 0): shade(1)}))

    def test_black_is_a_colour(self):
        file = self.file(plain(0, 0, 1, 1, 0))
        file = file[:13] + [0, 0, 0] + file[16:]
        self.drawn(0, file, self.over(self.nothing(), {(0, 0): [0, 0, 0, 255]}))

    def test_every_size(self):
        for size in range(2, 9):
            numbers = [0, 1, 2, 3, 2 ** size - 1, 2 ** size - 2]
            self.one(spelled(size, numbers), [shade(number) for number in numbers], size=size)


class Codes(Draw):
    ONES = [shade(1)] * 6

    def test_end_behind_the_last_number(self):
        self.one([4, 1, 6, 7, 5], self.ONES)

    def test_without_end(self):
        self.one([4, 1, 6, 7], self.ONES)

    def test_without_clear_at_first(self):
        self.one([1, 6, 7, 5], self.ONES)

    def test_end_comes_early(self):
        numbers = [3, 2, 1, 0, 1, 2]
        for many in range(6):
            places = [shade(number) for number in numbers[:many]]
            self.one(spelled(2, numbers[:many]), places, first=-3)
            self.one(spelled(2, numbers[:many]) + [4, 1, 1, 1, 1, 1, 1], places, first=-3)
        self.one([5], [], first=-3)

    def test_bits_end_early(self):
        numbers = [3, 2, 1, 0, 1, 2]
        whole_data = data(7, spelled(7, numbers))
        for length in range(len(whole_data) + 1):
            # Clear and a number are two bytes together: codes have eight bits here.
            many = min(length // 2, 6)
            file = self.file(picture(1, 1, 3, 2, size=7, rows=cut(whole_data[:length])), marks=0x87)
            places = dict(zip(box(1, 1, 3, 2), [shade(number) for number in numbers[:many]]))
            self.drawn(0, file, self.over(self.nothing(), places), first=0 if many == 6 else -3)

    def test_bits_end_within_a_code(self):
        # Codes of five bits: three bytes hold four codes and four bits of a fifth one.
        row = data(4, [16, 1, 2, 3, 4, 5, 6])[:3]
        file = self.file(picture(1, 1, 3, 2, size=4, rows=[row]), marks=0x87)
        places = dict(zip(box(1, 1, 3, 2), [shade(1), shade(2), shade(3)]))
        self.drawn(0, file, self.over(self.nothing(), places), first=-3)

    def test_empty_data(self):
        file = self.file(says(3), picture(1, 1, 3, 2, rows=()), picture(rows=()))
        self.drawn(0, file, self.nothing(), self.nothing(), first=-3)
        self.drawn(1, file, self.saved(), first=-3)

    def test_wrong_codes(self):
        self.one([7], [], first=-3)
        self.one([6], [], first=-3)
        self.one([4, 6], [], first=-3)
        self.one([4, 1, 7], self.ONES[:1], first=-3)
        self.one([4, 1, 6, 4, 6], self.ONES[:3], first=-3)
        self.one([4, 3, 2, 1, 15], [shade(3), shade(2), shade(1)], first=-3)
        self.one([4, 1, 6, 1, 1, 15], self.ONES[:5], first=-3)

    def test_saved_is_answered_behind_a_wrong_code(self):
        # The last has clear, 1, and two bits that are no code.
        for row in (data(2, [4, 1, 7]), data(2, [4, 1, 5]), [0x0C]):
            file = self.file(says(2), plain(0, 0, 5, 1), says(3), picture(1, 1, 4, 3, rows=[row]))
            cleared = self.over(self.canvas(), {place: EMPTY for place in box(0, 0, 5, 1)})
            self.drawn(1, file, self.over(cleared, {(1, 1): shade(1)}), cleared, first=-3)

    def test_transparent_numbers_count_as_there(self):
        file = self.file(picture_note(1, 0, 1), plain(1, 1, 3, 2))
        self.drawn(0, file, self.nothing())
        self.drawn(0, self.file(plain(1, 1, 3, 2, 3), marks=0x80), self.nothing())

    def test_what_is_behind_the_last_number(self):
        for behind in ([1], [4], [5], [7], [15], [4, 7], [1, 2, 3, 2, 1], [4, 15, 15]):
            self.one([4, 1, 6, 7] + behind, self.ONES)

    def test_bytes_behind_the_last_number(self):
        row = data(2, [4, 1, 6, 7])
        for behind in ([], [255], [255] * 700, [0] * 700):
            file = self.file(picture(1, 1, 3, 2, rows=cut(row + behind)))
            self.drawn(0, file, self.over(self.nothing(), dict(zip(box(1, 1, 3, 2), self.ONES))))

    def test_row_of_numbers_beyond_the_last_place(self):
        # 1, then 2, then row 6, which is 1, 2, then row 8, which is 1, 2, 1: its last is beyond.
        self.one([4, 1, 2, 6, 8, 5], [shade(number) for number in (1, 2, 1, 2, 1, 2)])
        self.one([4, 1, 6, 7, 8, 5], self.ONES)
        file = self.file(shown(4, 3, 1, 1, [4, 1, 6, 7, 8]), shown(0, 0, 2, 1, [4, 1, 6, 7, 8]))
        self.drawn(0, file, self.over(self.nothing(), {(4, 3): shade(1)}))
        self.drawn(1, file, self.over(self.canvas(), {(0, 0): shade(1), (1, 0): shade(1)}))

    def test_data_in_blocks_of_any_length(self):
        row = data(2, spelled(2, [3, 2, 1, 0, 1, 2]))
        places = dict(zip(box(1, 1, 3, 2), [shade(number) for number in (3, 2, 1, 0, 1, 2)]))
        for length in range(1, len(row) + 1):
            file = self.file(picture(1, 1, 3, 2, rows=cut(row, length)))
            self.drawn(0, file, self.over(self.nothing(), places))

    def test_picture_known_from_elsewhere(self):
        row = [0x8C, 0x2D, 0x99, 0x87, 0x2A, 0x1C, 0xDC, 0x33, 0xA0, 0x02, 0x75]
        row += [0xEC, 0x95, 0xFA, 0xA8, 0xDE, 0x60, 0x8C, 0x04, 0x91, 0x4C, 0x01]
        lines = ["1111122222"] * 3 + ["1110000222"] * 2 + ["2220000111"] * 2 + ["2222211111"] * 3
        expected = []
        for number in "".join(lines):
            expected += shade(int(number))
        file = whole(picture(0, 0, 10, 10, rows=[row]), width=10, height=10, marks=0x91)
        self.assertEqual(draw(0, file, [7] * 400, [9] * 400), [0] + expected + [9] * 400)


class Refusals(Draw):
    def test_numbers_that_no_picture_has(self):
        one = self.file(plain(0, 0, 1, 1))
        three = self.file(plain(0, 0, 1, 1), says(3), plain(1, 1, 1, 1), plain(2, 2, 1, 1))
        for file, pictures in ((one, 1), (three, 3)):
            for k in (pictures, pictures + 1, -1, -2, -pictures, -pictures - 1, 4095, 4096, LOWEST, HIGHEST):
                self.assertEqual(draw(k, file, self.canvas(), self.saved()), [-1])
            for k in range(pictures):
                self.assertEqual(draw(k, file, self.canvas(), self.saved())[0], 0)

    def test_last_of_most_pictures(self):
        file = whole(*[picture(rows=())] * 4095, picture(1, rows=[[0x0C, 0]]), width=2, height=1)
        self.assertEqual(draw(4095, file, filled(2, 5), filled(2, 6)), [0] + filled(1, 5) + shade(1) + filled(2, 6))
        self.assertEqual(draw(4096, file, filled(2, 5), filled(2, 6)), [-1])

    def test_no_file(self):
        good = self.file(says(3), plain(0, 0, 1, 1), says(2), plain(1, 1, 1, 1))
        wrong = [[], LAST, whole(), whole(picture_note()), whole(picture(size=9)), whole(picture(), marks=0)]
        wrong += [whole(picture(), letters="GIF88a"), whole(picture(), width=0), whole(picture(10)), head() + picture()]
        wrong += [whole(note(0xF9, [[0] * 5]), picture()), whole(picture(), [0]), whole(*[picture(rows=())] * 4097)]
        wrong += [good[:length] for length in range(len(good))]
        for file in wrong:
            for k in (0, 1, 2, -1, LOWEST, HIGHEST):
                self.assertEqual(draw(k, file, [], []), [-1])

    def test_wrong_picture_behind_the_one_that_is_drawn(self):
        for part in (picture(size=1), picture(left=5), picture(top=4), picture(width=0), [0], note(0xF9, [])):
            self.assertEqual(draw(0, self.file(plain(0, 0, 1, 1), part), [], []), [-1])

    def test_longest_and_longer_list(self):
        file = self.file(plain(0, 0, 5, 4))
        self.drawn(0, file + [0] * (1048576 - len(file)), shade(1) * 20)
        self.assertEqual(draw(0, file + [0] * (1048577 - len(file)), [], []), [-2])
        self.assertEqual(draw(-1, [0] * 1048577, [], []), [-2])


class LargeScreens(Draw):
    def fill(self, width, height, marks, order):
        """Every number but the transparent one is told once in turn, in codes whose bits grow to twelve."""
        numbers = [(7 * place + place // 250) % 256 for place in range(25000)]
        part = picture_note(13, 0, 77) + shown(0, 0, width, height, [256] + numbers + [257], marks=marks, size=8)
        file = whole(part, part, width=width, height=height, marks=0x87)
        self.assertLessEqual(len(file), 100000)
        canvas, saved = filled(25000, 1), filled(25000, 2)
        rows = [numbers[start:start + width] for start in range(0, 25000, width)]
        for k, before in ((0, [0] * 100000), (1, saved)):
            expected = list(before)
            for row, line in zip(order, rows):
                for column, number in enumerate(line):
                    if number != 77:
                        start = 4 * (row * width + column)
                        expected[start:start + 4] = shade(number)
            answer = draw(k, file, canvas, saved)
            self.assertTrue(answer == [0] + expected + before)

    def test_row_by_row(self):
        self.fill(250, 100, 0, range(100))
        self.fill(25000, 1, 0, range(1))
        self.fill(1, 25000, 0, range(25000))

    def test_in_four_passes(self):
        def order(height):
            return [*range(0, height, 8), *range(4, height, 8), *range(2, height, 4), *range(1, height, 2)]

        self.fill(250, 100, 0x40, order(100))
        self.fill(1, 25000, 0x40, order(25000))

    def test_long_rows(self):
        # Each code stands for a row that is one longer than the one before.
        codes = [4, 1] + list(range(6, 300))
        file = whole(shown(0, 0, 250, 100, codes), says(2), plain(0, 0, 1, 1), width=250, height=100, marks=0x81)
        self.assertTrue(draw(0, file, [7] * 100000, [9] * 100000) == [0] + shade(1) * 25000 + [9] * 100000)

    def test_clearing_all_of_it(self):
        file = whole(says(2), picture(0, 0, 250, 100, rows=()), plain(249, 99, 1, 1), width=250, height=100, marks=0x81)
        answer = draw(1, file, filled(25000, 1), filled(25000, 2))
        self.assertTrue(answer == [0] + EMPTY * 24999 + shade(1) + filled(25000, 2))


class AnyFiles(Draw):
    """Many moving pictures, drawn from first to last, beside what the words ask of each."""

    def made(self, chance):
        width, height = chance.randint(1, 9), chance.randint(1, 19)
        pictures = [self.made_picture(chance, width, height) for k in range(chance.randint(1, 6))]
        parts = [picture_note(4 * one["after"] + one["odd"], 0, one["colour"]) + one["part"] for one in pictures]
        return width, height, pictures, whole(*parts, width=width, height=height, marks=0x81)

    def made_picture(self, chance, width, height):
        left, top = chance.randrange(width), chance.randrange(height)
        across, down = chance.randint(1, width - left), chance.randint(1, height - top)
        marks = chance.choice((0, 0x40, 0x80, 0xC2))
        size = chance.randint(2, 4)
        told = across * down + chance.choice((0, 0, 0, 3, -1, -5))
        numbers = [chance.randrange(2 ** size) for step in range(max(0, told))]
        return {
            "area": (left, top, across, down), "marks": marks, "numbers": numbers, "after": chance.randrange(8) // 2,
            "odd": chance.randrange(2), "colour": chance.randrange(4), "colours": {0x80: 2, 0xC2: 8}.get(marks, 4),
            "part": shown(left, top, across, down, spelled(size, numbers), marks=marks, size=size),
        }

    def expect(self, k, width, pictures, canvas, saved):
        canvas = list(canvas) if k > 0 else [0] * len(canvas)
        if k > 0 and pictures[k - 1]["after"] == 3:
            canvas = list(saved)
        if k > 0 and pictures[k - 1]["after"] == 2:
            canvas = over(canvas, width, {place: EMPTY for place in box(*pictures[k - 1]["area"])})
        one = pictures[k]
        saved = list(canvas) if one["after"] == 3 else list(saved)
        left, top, across, down = one["area"]
        places = box(left, top, across, down)
        if one["marks"] & 64:
            passes = (0, 3, 2, 3, 1, 3, 2, 3)
            places = sorted(places, key=lambda place: (passes[(place[1] - top) % 8], place[1], place[0]))
        first = OWN if one["marks"] & 128 else 0
        for place, number in zip(places, one["numbers"]):
            if number < one["colours"] and not (one["odd"] and number == one["colour"]):
                canvas = over(canvas, width, {place: shade(number, first)})
        return [0 if len(one["numbers"]) >= across * down else -3] + canvas + saved

    def test_many(self):
        chance = random.Random(4)
        for step in range(150):
            width, height, pictures, file = self.made(chance)
            canvas, saved = filled(width * height, step), filled(width * height, 2 * step + 9)
            for k in range(len(pictures)):
                answer = draw(k, file, canvas, saved)
                self.assertEqual(answer, self.expect(k, width, pictures, canvas, saved))
                canvas, saved = answer[1:1 + len(canvas)], answer[1 + len(canvas):]


class EveryCall(Draw):
    def samples(self):
        good = self.file(
            says(3), plain(1, 1, 3, 2), says(2), shown(0, 0, 5, 4, [4, 1, 7], marks=0xC1), says(3), plain(2, 2, 1, 1),
        )
        calls = [(k, good, self.canvas(), self.saved()) for k in (0, 1, 2, 3, -1)]
        return calls + [(k, good[:-1], [], []) for k in (0, 3)]

    def test_what_is_handed_in_stays(self):
        for k, file, canvas, saved in self.samples():
            before = list(file), list(canvas), list(saved)
            draw(k, file, canvas, saved)
            self.assertEqual((file, canvas, saved), before)

    def test_what_is_handed_in_is_not_changed_for_a_while(self):
        for k, file, canvas, saved in self.samples():
            answer = draw(k, Untouchable(file), Untouchable(canvas), Untouchable(saved))
            self.assertEqual(answer, draw(k, file, canvas, saved))

    def test_same_list_as_canvas_and_saved(self):
        for k, file, canvas, saved in self.samples():
            one = Untouchable(canvas)
            self.assertEqual(draw(k, file, one, one), draw(k, file, list(canvas), list(canvas)))
            self.assertEqual(one, canvas)

    def test_same_list_as_file_canvas_and_saved(self):
        file = whole(plain(0, 0, 1, 1), width=5, height=2, marks=0x80)
        self.assertLessEqual(len(file), 40)
        one = Untouchable(file + [0] * (40 - len(file)))
        before = list(one)
        self.assertEqual(draw(0, one, one, one), [0] + shade(1) + [0] * 36 + before)
        self.assertEqual(one, before)

    def test_second_call_answers_as_the_first(self):
        first = [draw(*given) for given in self.samples()]
        self.assertEqual([draw(*given) for given in self.samples()], first)
        self.assertEqual([draw(*given) for given in reversed(self.samples())], first[::-1])

    def test_calls_of_the_others_between_change_nothing(self):
        for k, file, canvas, saved in self.samples():
            before = look(file), tell(k, file), draw(k, file, canvas, saved)
            self.assertEqual((look(file), tell(k, file), draw(k, file, canvas, saved)), before)

    def test_changing_an_answer_changes_no_other(self):
        for k, file, canvas, saved in self.samples():
            answer = draw(k, file, canvas, saved)
            before = list(answer)
            for place in range(len(answer)):
                answer[place] = 7
            self.assertEqual(draw(k, file, canvas, saved), before)

    def test_answers_are_lists_of_whole_numbers(self):
        for given in self.samples():
            answer = draw(*given)
            self.assertIs(type(answer), list)
            self.assertEqual({type(number) for number in answer}, {int})


if __name__ == "__main__":
    unittest.main()
