"""Point 2 of the promises, and the rows on -2 and -1 above it, for tell."""

import unittest

from making import LAST, Untouchable, head, note, pair, picture, picture_note, whole
from tintfile.pictures import look, tell

REFUSED = [-1]
LOWEST = -2147483648
HIGHEST = 2147483647


def three_pictures():
    return whole(
        note(0xFE, [[1, 2, 3], [0x3B], [0x2C] * 255]),
        picture_note(0x09, 300, 2),
        picture(1, 2, 3, 4, rows=([1, 2], [3], [4, 5, 6])),
        picture_note(0xFF, 1, 1),
        picture_note(0x0C, 65535, 255),
        note(0x01, [[0] * 12]),
        picture(0, 0, 10, 8, marks=0xC1, size=8, rows=()),
        picture(9, 7, 1, 1, marks=0x40),
        picture_note(0xFF, 7, 7),
        marks=0xF2,
    )


THREE_ANSWERS = [
    [0, 1, 2, 3, 4, 300, 2, 2],
    [0, 0, 0, 10, 8, 65535, 3, -1],
    [0, 9, 7, 1, 1, 0, 0, -1],
]


class Tell(unittest.TestCase):
    def told(self, k, file, *numbers):
        self.assertEqual(tell(k, file), [0, *numbers])

    def refused(self, k, file):
        self.assertEqual(tell(k, file), REFUSED)


class EveryNumber(Tell):
    def test_file_written_out(self):
        file = [0x47, 0x49, 0x46, 0x38, 0x39, 0x61, 0x05, 0x01, 0x04, 0x02, 0x80, 0, 0, 0, 0, 0, 255, 255, 255]
        file += [0x21, 0xF9, 4, 0x0D, 0x34, 0x12, 0x07, 0]
        file += [0x2C, 0x02, 0x01, 0x01, 0x02, 3, 0, 2, 0, 0, 2, 2, 0x84, 0x51, 0, 0x3B]
        self.assertEqual(tell(0, file), [0, 0x0102, 0x0201, 3, 2, 0x1234, 3, 7])

    def test_left_edge(self):
        for left in (0, 1, 255, 256, 257, 0x0403, 0x0304, 65534):
            self.told(0, whole(picture(left=left), width=65535), left, 0, 1, 1, 0, 0, -1)

    def test_upper_edge(self):
        for top in (0, 1, 255, 256, 257, 0x0403, 0x0304, 65534):
            self.told(0, whole(picture(top=top), width=1, height=65535), 0, top, 1, 1, 0, 0, -1)

    def test_width(self):
        for width in (1, 2, 255, 256, 257, 0x0403, 0x0304, 65535):
            self.told(0, whole(picture(width=width), width=65535), 0, 0, width, 1, 0, 0, -1)

    def test_height(self):
        for height in (1, 2, 255, 256, 257, 0x0403, 0x0304, 65535):
            self.told(0, whole(picture(height=height), width=1, height=65535), 0, 0, 1, height, 0, 0, -1)

    def test_all_four_with_both_bytes(self):
        file = whole(picture(0x0102, 0x0104, 0x0203, 0x0105), width=0x0306, height=0x0219)
        self.told(0, file, 0x0102, 0x0104, 0x0203, 0x0105, 0, 0, -1)

    def test_time(self):
        for time in (0, 1, 255, 256, 257, 0x0403, 0x0304, 65535):
            self.told(0, whole(picture_note(time=time), picture()), 0, 0, 1, 1, time, 0, -1)

    def test_what_is_done_behind(self):
        for p in range(256):
            answer = tell(0, whole(picture_note(p, 10, 20), picture()))
            # The third to the fifth bit from below, read off a written number.
            self.assertEqual(answer[6], int(f"{p:08b}"[3:6], 2), p)
            self.assertEqual(answer[:6], [0, 0, 0, 1, 1, 10])

    def test_transparent_colour_for_every_p(self):
        for p in range(256):
            for colour in (0, 1, 20, 255):
                answer = tell(0, whole(picture_note(p, 10, colour), picture()))
                self.assertEqual(answer[7], colour if p in range(1, 256, 2) else -1, p)

    def test_every_transparent_colour(self):
        for colour in range(256):
            self.told(0, whole(picture_note(1, 0, colour), picture()), 0, 0, 1, 1, 0, 0, colour)
            self.told(0, whole(picture_note(0, 0, colour), picture()), 0, 0, 1, 1, 0, 0, -1)

    def test_tables_and_data_change_nothing(self):
        for marks in range(256):
            one = picture(2, 3, 4, 5, marks=marks, size=2 + marks % 7, rows=([9] * marks,) if marks else ())
            self.told(0, whole(picture_note(5, 6, 7), one), 2, 3, 4, 5, 6, 1, 7)


class NotesAndPictures(Tell):
    def test_picture_without_note(self):
        self.told(0, whole(picture(1, 2, 3, 4)), 1, 2, 3, 4, 0, 0, -1)
        for letters in ("GIF87a", "GIF89a"):
            self.told(0, whole(picture(1, 2, 3, 4), letters=letters), 1, 2, 3, 4, 0, 0, -1)
            self.told(0, whole(picture_note(13, 8, 9), picture(), letters=letters), 0, 0, 1, 1, 8, 3, 9)

    def test_last_of_several_notes(self):
        self.told(0, whole(picture_note(13, 8, 9), picture_note(4, 5, 6), picture()), 0, 0, 1, 1, 5, 1, -1)
        self.told(0, whole(picture_note(4, 5, 6), picture_note(13, 8, 9), picture()), 0, 0, 1, 1, 8, 3, 9)
        self.told(0, whole(picture_note(13, 8, 9), picture_note(0, 0, 0), picture()), 0, 0, 1, 1, 0, 0, -1)
        three = [picture_note(13, 8, 9), picture_note(4, 5, 6), picture_note(11, 2, 3)]
        self.told(0, whole(*three, picture()), 0, 0, 1, 1, 2, 2, 3)

    def test_note_speaks_of_the_next_picture_alone(self):
        file = whole(picture_note(13, 8, 9), picture(), picture(), picture())
        self.told(0, file, 0, 0, 1, 1, 8, 3, 9)
        self.told(1, file, 0, 0, 1, 1, 0, 0, -1)
        self.told(2, file, 0, 0, 1, 1, 0, 0, -1)

    def test_note_says_nothing_of_the_picture_ahead(self):
        file = whole(picture(), picture_note(13, 8, 9), picture(1))
        self.told(0, file, 0, 0, 1, 1, 0, 0, -1)
        self.told(1, file, 1, 0, 1, 1, 8, 3, 9)

    def test_note_behind_the_last_picture(self):
        file = whole(picture(), picture_note(4, 5, 6), picture(1), picture_note(13, 8, 9))
        self.told(0, file, 0, 0, 1, 1, 0, 0, -1)
        self.told(1, file, 1, 0, 1, 1, 5, 1, -1)

    def test_every_other_kind_between_note_and_picture(self):
        for kind in range(256):
            if kind != 0xF9:
                for rows in ([], [[13, 1, 1, 1]], [[1], [2] * 255]):
                    file = whole(picture_note(13, 8, 9), note(kind, rows), picture())
                    self.told(0, file, 0, 0, 1, 1, 8, 3, 9)

    def test_every_other_kind_says_nothing(self):
        for kind in range(256):
            if kind != 0xF9:
                self.told(0, whole(note(kind, [[13, 1, 1, 1]]), picture()), 0, 0, 1, 1, 0, 0, -1)

    def test_other_notes_between_two_notes(self):
        file = whole(picture_note(13, 8, 9), note(0xFE, [[5]]), picture_note(4, 5, 6), note(0xFF, []), picture())
        self.told(0, file, 0, 0, 1, 1, 5, 1, -1)

    def test_several_pictures(self):
        for k, answer in enumerate(THREE_ANSWERS):
            self.assertEqual(tell(k, three_pictures()), answer)


class NumbersOfPictures(Tell):
    def outside(self, file, pictures):
        for k in (pictures, pictures + 1, -1, -2, -pictures, -pictures - 1, LOWEST, HIGHEST):
            self.refused(k, file)

    def test_one_picture(self):
        file = whole(picture_note(13, 8, 9), picture(1, 2, 3, 4))
        self.told(0, file, 1, 2, 3, 4, 8, 3, 9)
        self.outside(file, 1)

    def test_three_pictures(self):
        self.outside(three_pictures(), 3)

    def test_most_pictures(self):
        parts = [picture_note(1, k, k % 256) + picture(k % 10, k % 8, rows=()) for k in range(4096)]
        file = whole(*parts)
        self.assertLessEqual(len(file), 100000)
        for k in (0, 1, 255, 256, 4094, 4095):
            self.told(k, file, k % 10, k % 8, 1, 1, k, 0, k % 256)
        self.outside(file, 4096)


class NoFiles(Tell):
    def every_k(self, file):
        for k in (0, 1, 2, 3, 4095, 4096, -1, LOWEST, HIGHEST):
            self.refused(k, file)

    def test_nothing(self):
        self.every_k([])
        self.every_k(LAST)

    def test_bytes_that_end_too_early(self):
        file = three_pictures()
        for length in range(len(file)):
            for k in range(3):
                self.refused(k, file[:length])

    def test_every_k_of_bytes_that_end_too_early(self):
        file = whole(picture_note(), picture(), picture(marks=0x80))
        for length in range(len(file)):
            self.every_k(file[:length])

    def test_wrong_parts_behind_the_picture(self):
        for begin in range(256):
            if begin not in (0x21, 0x2C, 0x3B):
                self.every_k(whole(picture(), [begin]))
                self.every_k(whole(picture(), picture(), [begin] + picture()))

    def test_wrong_pictures_behind_the_picture(self):
        wrong = (picture(size=1), picture(size=9), picture(width=0), picture(height=0), picture(10), picture(top=8))
        for part in wrong:
            self.every_k(whole(picture(), part))
            self.every_k(whole(part, picture()))
        self.every_k(whole(picture(marks=0x80), picture(), marks=0))

    def test_wrong_notes(self):
        for rows in ([], [[0] * 3], [[0] * 5], [[0] * 4, [0] * 4], [[0] * 4, [0]], [[0], [0] * 4]):
            self.every_k(whole(picture(), note(0xF9, rows)))
            self.every_k(whole(note(0xF9, rows), picture()))
            self.every_k(whole(note(0xF9, rows), picture_note(), picture()))

    def test_wrong_heads_and_screens(self):
        self.every_k(whole(picture(), letters="GIF88a"))
        self.every_k(whole(picture(), width=0))
        self.every_k(whole(picture(), height=0))
        self.every_k(whole(picture(), width=1024, height=1025))

    def test_too_few_and_too_many_pictures(self):
        self.every_k(whole())
        self.every_k(whole(picture_note()))
        self.every_k(whole(*[picture(rows=())] * 4097))

    def test_last_byte_is_wanted(self):
        self.every_k(head() + picture())
        self.every_k(head() + picture() + [0x2C] + pair(0) + LAST)


class Lengths(Tell):
    def test_longest_list(self):
        file = three_pictures()
        for k, answer in enumerate(THREE_ANSWERS):
            self.assertEqual(tell(k, file + [0] * (1048576 - len(file))), answer)

    def test_longer_list(self):
        file = three_pictures()
        for k in (0, 3, -1):
            self.assertEqual(tell(k, file + [0] * (1048577 - len(file))), [-2])


class EveryCall(Tell):
    def samples(self):
        good = three_pictures()
        files = [good, good + [1, 2, 3], good[:-1], [], whole(), whole(picture(size=9))]
        return [(k, file) for k in (0, 1, 2, 3, -1) for file in files]

    def test_bytes_behind_the_end(self):
        file = three_pictures()
        for behind in ([0], [0x3B], [0x2C, 0], head(), picture(), picture_note(13, 8, 9), three_pictures()):
            for k, answer in enumerate(THREE_ANSWERS):
                self.assertEqual(tell(k, file + behind), answer)
            self.refused(3, file + behind)

    def test_what_is_handed_in_stays(self):
        for k, file in self.samples():
            before = list(file)
            tell(k, file)
            self.assertEqual(file, before)

    def test_what_is_handed_in_is_not_changed_for_a_while(self):
        for k, file in self.samples():
            self.assertEqual(tell(k, Untouchable(file)), tell(k, file))

    def test_second_call_answers_as_the_first(self):
        first = [tell(k, file) for k, file in self.samples()]
        self.assertEqual([tell(k, file) for k, file in self.samples()], first)
        self.assertEqual([tell(k, file) for k, file in reversed(self.samples())], first[::-1])

    def test_calls_of_look_between_change_nothing(self):
        for k, file in self.samples():
            before = look(file), tell(k, file)
            self.assertEqual((look(file), tell(k, file)), before)

    def test_changing_an_answer_changes_no_other(self):
        for k, file in self.samples():
            answer = tell(k, file)
            before = list(answer)
            answer.append(7)
            self.assertEqual(tell(k, file), before)

    def test_answers_are_lists_of_whole_numbers(self):
        for k, file in self.samples():
            answer = tell(k, file)
            self.assertIs(type(answer), list)
            self.assertEqual({type(number) for number in answer}, {int})


if __name__ == "__main__":
    unittest.main()
