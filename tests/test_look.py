"""Point 1 of the promises, and the rows on -2 and -1 above it, for look."""

import unittest

from making import LAST, Untouchable, head, note, pair, picture, picture_note, whole
from tintfile.pictures import look

NO_FILE = [-1]


def varied_file():
    return whole(
        note(0xFE, [[1, 2, 3], [0x3B], [0x2C] * 255]),
        note(0xFF, []),
        picture_note(5, 300, 2),
        picture(1, 2, 3, 4, rows=([1, 2], [3], [4, 5, 6])),
        picture_note(),
        picture_note(9, 65535, 255),
        picture(0, 0, 10, 8, marks=0xC1, size=8, rows=()),
        note(0x01, [[0] * 12]),
        picture(9, 7, 1, 1, marks=0x40),
        picture_note(),
        marks=0xF2,
    )


class Look(unittest.TestCase):
    def told(self, file, width, height, pictures):
        """What is looked at is the whole file, and ends where it does."""
        self.assertEqual(look(file), [0, width, height, pictures, len(file)])

    def refused(self, file):
        self.assertEqual(look(file), NO_FILE)


class OrdinaryFiles(Look):
    def test_file_written_out(self):
        file = [0x47, 0x49, 0x46, 0x38, 0x37, 0x61, 3, 0, 2, 0, 0x80, 0, 0, 0, 0, 0, 255, 255, 255]
        file += [0x2C, 0, 0, 0, 0, 3, 0, 2, 0, 0, 2, 2, 0x84, 0x51, 0, 0x3B]
        self.assertEqual(look(file), [0, 3, 2, 1, 35])

    def test_both_heads(self):
        for letters in ("GIF87a", "GIF89a"):
            self.told(whole(picture(), letters=letters), 10, 8, 1)
            self.told(whole(picture_note(), picture(), letters=letters), 10, 8, 1)

    def test_lower_byte_comes_first(self):
        self.told(whole(picture(), width=0x0102, height=0x0304), 0x0102, 0x0304, 1)
        self.told(whole(picture(256, 512, 1, 2), width=257, height=514), 257, 514, 1)

    def test_tables_of_the_file(self):
        for marks in range(128, 256):
            self.told(whole(picture(), marks=marks), 10, 8, 1)

    def test_without_table_of_the_file(self):
        for marks in range(128):
            self.told(whole(picture(marks=0x80), marks=marks), 10, 8, 1)

    def test_tables_of_a_picture(self):
        for marks in range(256):
            self.told(whole(picture(marks=marks), picture()), 10, 8, 2)

    def test_any_colour_and_byte_behind_it(self):
        for number in range(256):
            self.told(whole(picture(), colour=number, behind=255 - number), 10, 8, 1)

    def test_notes_of_every_kind(self):
        for kind in range(256):
            self.told(whole(note(kind, [[1, 2, 3, 4]]), picture()), 10, 8, 1)

    def test_notes_with_several_blocks_and_with_none(self):
        for kind in range(256):
            if kind != 0xF9:
                self.told(whole(note(kind, []), picture()), 10, 8, 1)
                self.told(whole(note(kind, [[1], [2] * 255, [3] * 4]), picture()), 10, 8, 1)

    def test_notes_are_no_pictures(self):
        self.told(whole(*[picture_note()] * 5, picture(), *[note(0xFE, [[0x2C]])] * 5), 10, 8, 1)

    def test_picture_note_with_any_bytes(self):
        for number in range(256):
            self.told(whole(picture_note(number, 257 * number, 255 - number), picture()), 10, 8, 1)

    def test_picture_notes_anywhere(self):
        several = [picture_note(), picture_note(1, 2, 3), note(0xFE, []), picture_note()]
        self.told(whole(*several, picture(), picture()), 10, 8, 2)
        self.told(whole(picture(), picture_note()), 10, 8, 1)

    def test_several_pictures(self):
        self.told(whole(picture(), picture(2, 3, 4, 5), picture(marks=0x87)), 10, 8, 3)
        self.told(varied_file(), 10, 8, 3)

    def test_data_with_several_blocks_and_with_none(self):
        self.told(whole(picture(rows=())), 10, 8, 1)
        self.told(whole(picture(rows=([0x3B] * 255, [0x2C], [0x21] * 254))), 10, 8, 1)

    def test_data_is_not_judged(self):
        self.told(whole(picture(width=10, height=8, rows=([255, 255],))), 10, 8, 1)

    def test_bytes_behind_the_end(self):
        file = varied_file()
        for behind in ([0], [0x3B], [0x3B] * 300, [0x2C, 0], head(), picture(), varied_file()):
            self.assertEqual(look(file + behind), [0, 10, 8, 3, len(file)])

    def test_long_files(self):
        self.told(whole(note(0xFE, [[7]] * 40000), picture()), 10, 8, 1)
        self.told(whole(picture(rows=([7],) * 40000)), 10, 8, 1)
        self.told(whole(*[note(0xFE, [])] * 30000, picture()), 10, 8, 1)


class Edges(Look):
    def test_screen_of_no_width_or_height(self):
        for width, height in ((0, 0), (0, 1), (1, 0), (0, 65535), (65535, 0)):
            self.refused(whole(picture(), width=width, height=height))
            self.refused(whole(picture(width=0, height=0), width=width, height=height))

    def test_smallest_screen(self):
        self.told(whole(picture(), width=1, height=1), 1, 1, 1)

    def test_widest_and_highest_screen(self):
        self.told(whole(picture(), width=65535, height=1), 65535, 1, 1)
        self.told(whole(picture(), width=1, height=65535), 1, 65535, 1)

    def test_most_places_of_a_screen(self):
        for width, height in ((1024, 1024), (32, 32768), (32768, 32), (65535, 16), (1023, 1025)):
            self.told(whole(picture(), width=width, height=height), width, height, 1)

    def test_too_many_places_of_a_screen(self):
        # 1048577 is 17 times 61681: as near above as two numbers of two bytes come.
        for width, height in ((17, 61681), (61681, 17), (1024, 1025), (1025, 1024), (65535, 65535)):
            self.refused(whole(picture(), width=width, height=height))

    def test_picture_that_just_fits(self):
        for left, top, width, height in ((0, 0, 10, 8), (9, 7, 1, 1), (4, 3, 6, 5), (0, 7, 10, 1), (9, 0, 1, 8)):
            self.told(whole(picture(left, top, width, height)), 10, 8, 1)

    def test_picture_beyond_the_right(self):
        for left, width in ((0, 11), (9, 2), (10, 1), (4, 7), (65535, 1), (1, 65535), (65535, 65535)):
            self.refused(whole(picture(left=left, width=width)))

    def test_picture_beyond_below(self):
        for top, height in ((0, 9), (7, 2), (8, 1), (3, 6), (65535, 1), (1, 65535), (65535, 65535)):
            self.refused(whole(picture(top=top, height=height)))

    def test_width_and_height_have_bounds_of_their_own(self):
        self.told(whole(picture(width=20, height=5), width=20, height=5), 20, 5, 1)
        self.refused(whole(picture(width=5, height=20), width=20, height=5))
        self.told(whole(picture(19, 4), width=20, height=5), 20, 5, 1)
        self.refused(whole(picture(4, 19), width=20, height=5))

    def test_picture_of_no_width_or_height(self):
        for left, top in ((0, 0), (5, 5), (10, 8)):
            self.refused(whole(picture(left, top, 0, 1)))
            self.refused(whole(picture(left, top, 1, 0)))
            self.refused(whole(picture(left, top, 0, 0)))

    def test_size_of_codes(self):
        for size in range(256):
            file = whole(picture(size=size))
            if 2 <= size <= 8:
                self.told(file, 10, 8, 1)
            else:
                self.refused(file)

    def test_where_the_table_of_the_file_begins(self):
        self.told(whole(picture(marks=0x80), marks=127), 10, 8, 1)
        self.told(whole(picture(), marks=128), 10, 8, 1)
        without = head(marks=0)
        for marks in (127, 128):
            bare = without[:10] + [marks] + without[11:]
            file = bare + picture(marks=0x80) + LAST
            self.assertEqual(look(file), [0, 10, 8, 1, len(file)] if marks == 127 else NO_FILE)

    def test_where_the_table_of_a_picture_begins(self):
        self.told(whole(picture(marks=127)), 10, 8, 1)
        self.told(whole(picture(marks=128)), 10, 8, 1)
        self.told(whole(picture(marks=128), marks=127), 10, 8, 1)

    def test_picture_without_any_table(self):
        for marks in (0, 7, 64, 127):
            self.refused(whole(picture(marks=marks), marks=marks))
        self.refused(whole(picture(marks=0x80), picture(), marks=0))
        self.refused(whole(picture(), picture(marks=0x80), marks=0))

    def test_picture_note_without_block(self):
        self.refused(whole(note(0xF9, []), picture()))

    def test_picture_note_of_two_blocks(self):
        for first, second in ((4, 4), (4, 1), (1, 4), (2, 2), (3, 1), (1, 3)):
            self.refused(whole(note(0xF9, [[0] * first, [0] * second]), picture()))

    def test_picture_note_of_another_length(self):
        for length in range(1, 256):
            if length != 4:
                self.refused(whole(note(0xF9, [[0] * length]), picture()))

    def test_picture_note_is_judged_wherever_it_stands(self):
        self.refused(whole(note(0xF9, []), picture_note(), picture()))
        self.refused(whole(picture(), note(0xF9, [[0] * 5])))

    def test_how_many_pictures(self):
        self.refused(whole())
        self.refused(whole(note(0xFE, [[1]]), picture_note()))
        for many in (1, 2, 4095, 4096):
            self.told(whole(*[picture(rows=())] * many), 10, 8, many)
        for many in (4097, 4098, 8192):
            self.refused(whole(*[picture(rows=())] * many))


class NoFiles(Look):
    def test_nothing(self):
        self.refused([])

    def test_end_alone(self):
        self.refused(LAST)

    def test_wrong_heads(self):
        for letters in ("GIF88a", "GIF89b", "GIF87A", "gif89a", "GIF97a", "JIF89a", "GOF89a", "GIG89a", "a98FIG"):
            self.refused(whole(picture(), letters=letters))

    def test_every_letter_of_the_head(self):
        file = whole(picture())
        for place in range(6):
            for other in range(256):
                changed = file[:place] + [other] + file[place + 1:]
                letters = "".join(chr(letter) for letter in changed[:6])
                self.assertEqual(look(changed) == NO_FILE, letters not in ("GIF87a", "GIF89a"))

    def test_parts_that_begin_with_another_byte(self):
        for begin in range(256):
            if begin not in (0x21, 0x2C, 0x3B):
                self.refused(whole([begin], picture()))
                self.refused(whole(picture(), [begin]))
                self.refused(whole(picture(), [begin, 0]))
                self.refused(whole([begin] + picture()[1:]))
                self.refused(whole([begin] + note(0xFE, [[1]])[1:], picture()))

    def test_bytes_that_end_too_early(self):
        for file in (varied_file(), whole(picture()), whole(picture(marks=0x87), marks=0x00)):
            for length in range(len(file)):
                self.refused(file[:length])

    def test_without_the_last_byte(self):
        self.refused(head() + picture())
        self.refused(head() + picture() + [0] + LAST)

    def test_last_byte_within_a_part(self):
        self.refused(head() + [0x2C] + pair(0) + LAST)
        self.refused(head() + picture() + [0x21] + LAST)


class Lengths(Look):
    def test_longest_list(self):
        file = whole(picture())
        self.assertEqual(look(file + [0] * (1048576 - len(file))), [0, 10, 8, 1, len(file)])
        self.refused([0] * 1048576)

    def test_longer_list(self):
        file = whole(picture())
        self.assertEqual(look(file + [0] * (1048577 - len(file))), [-2])
        self.assertEqual(look([0] * 1048577), [-2])


class EveryCall(Look):
    def samples(self):
        good = varied_file()
        return [good, good + [1, 2, 3], good[:-1], [], whole(), whole(picture(size=9))]

    def test_what_is_handed_in_stays(self):
        for file in self.samples():
            before = list(file)
            look(file)
            self.assertEqual(file, before)

    def test_what_is_handed_in_is_not_changed_for_a_while(self):
        for file in self.samples():
            self.assertEqual(look(Untouchable(file)), look(file))

    def test_second_call_answers_as_the_first(self):
        first = [look(file) for file in self.samples()]
        self.assertEqual([look(file) for file in self.samples()], first)
        file = varied_file()
        self.assertEqual([look(file) for call in range(3)], [[0, 10, 8, 3, len(file)]] * 3)

    def test_changing_an_answer_changes_no_other(self):
        for file in self.samples():
            answer = look(file)
            before = list(answer)
            answer.append(7)
            self.assertEqual(look(file), before)

    def test_answers_are_lists_of_whole_numbers(self):
        for file in self.samples():
            answer = look(file)
            self.assertIs(type(answer), list)
            self.assertEqual({type(number) for number in answer}, {int})


if __name__ == "__main__":
    unittest.main()
