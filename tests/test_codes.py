"""Point 3 of the promises, and the row on -2 above it, for codes."""

import random
import unittest

from making import Untouchable, cut, data, pack, picture, whole, widen
from tintfile.pictures import codes, draw, look, tell

LOWEST = -2147483648
HIGHEST = 2147483647
MOST = 1048576
SIZES = range(2, 9)


def told_by(size, most, given):
    """What the words ask for, told bit by bit with all rows written out; slow, and made for short data."""
    bits = "".join(f"{byte:08b}"[::-1] for byte in given)
    rows, many, before, numbers = {}, size + 1, None, []
    while len(numbers) < most:
        if len(bits) < many:
            return [-1] + numbers
        code, bits = int(bits[:many][::-1], 2), bits[many:]
        if code == 2 ** size + 1:
            break
        if code == 2 ** size:
            rows, many, before = {}, size + 1, None
            continue
        upcoming = 2 ** size + 2 + len(rows)
        if code < 2 ** size:
            row = (code,)
        elif code in rows:
            row = rows[code]
        elif before is not None and code == upcoming:
            row = before + before[:1]
        else:
            return [-1] + numbers
        if before is not None and upcoming < 4096:
            rows[upcoming] = before + row[:1]
            if upcoming + 1 == 2 ** many and many < 12:
                many += 1
        before = row
        numbers += list(row)[:most - len(numbers)]
    return [len(numbers)] + numbers


def bits_of(size, step):
    """How many bits the code has ahead of which stand clear and so many codes other than clear."""
    places = 2 ** size + 2 + max(0, step - 1)
    for many in range(size + 1, 13):
        if places < 2 ** many:
            return many
    return 12


class Codes(unittest.TestCase):
    def told(self, size, given, numbers, most=MOST):
        self.assertEqual(codes(size, most, given), [len(numbers)] + list(numbers))

    def wrong(self, size, given, numbers, most=MOST):
        self.assertEqual(codes(size, most, given), [-1] + list(numbers))

    def same(self, size, given, numbers, first=None):
        """For long lists, which would take too long to be shown."""
        answer = codes(size, MOST, given)
        self.assertEqual(answer[0], len(numbers) if first is None else first)
        self.assertEqual(len(answer), 1 + len(numbers))
        self.assertTrue(answer[1:] == list(numbers))


class OrdinaryData(Codes):
    def test_data_written_out(self):
        # Clear, 1, 0, 6 in codes of three bits, then 6 and end in four; 6 stands for 1, 0.
        self.assertEqual(codes(2, 100, [0x0C, 0x6C, 0x05]), [6, 1, 0, 1, 0, 1, 0])

    def test_data_known_from_elsewhere(self):
        given = [0x8C, 0x2D, 0x99, 0x87, 0x2A, 0x1C, 0xDC, 0x33, 0xA0, 0x02, 0x75]
        given += [0xEC, 0x95, 0xFA, 0xA8, 0xDE, 0x60, 0x8C, 0x04, 0x91, 0x4C, 0x01]
        rows = ["1111122222"] * 3 + ["1110000222"] * 2 + ["2220000111"] * 2 + ["2222211111"] * 3
        self.told(2, given, [int(number) for number in "".join(rows)])

    def test_every_number_of_every_size(self):
        for size in SIZES:
            numbers = list(range(2 ** size))
            self.told(size, data(size, [2 ** size] + numbers + [2 ** size + 1]), numbers)
            self.told(size, data(size, [2 ** size] + numbers[::-1] + [2 ** size + 1]), numbers[::-1])

    def test_lowest_bit_comes_first(self):
        # Codes of five bits, written from the last bit to the first: 17 5 16, with a bit ahead that is not used.
        self.told(4, [0b10110000, 0b01000100], [5])
        # Codes of nine bits: 257 128 256, and five bits ahead.
        self.told(8, [0b00000000, 0b00000001, 0b00000101, 0b00000100], [128])

    def test_rows_of_several_numbers(self):
        for size in SIZES:
            clear, end, new = 2 ** size, 2 ** size + 1, 2 ** size + 2
            given = [clear, 1, 2, new, 3, new + 1, new + 2, end]
            self.told(size, data(size, given), [1, 2, 1, 2, 3, 2, 1, 1, 2, 3])

    def test_first_number_of_what_came_is_added(self):
        # Behind 1, 2 (row 6: 1, 2) comes row 6, so that row 7 is 2, 1 and row 8 is 1, 2, 3.
        self.told(2, data(2, [4, 1, 2, 6, 3, 7, 8, 5]), [1, 2, 1, 2, 3, 2, 1, 1, 2, 3])

    def test_nothing_is_added_behind_the_first_code(self):
        for size in SIZES:
            clear, new = 2 ** size, 2 ** size + 2
            self.told(size, data(size, [clear, 3, new, clear + 1]), [3, 3, 3])
            self.wrong(size, pack([(clear, size + 1), (3, size + 1), (new + 1, size + 1)]), [3])


class Ranges(Codes):
    def test_sizes_out_of_range(self):
        for size in (1, 9, 0, -1, -2, -8, 10, 12, LOWEST, HIGHEST):
            for most in (0, 1, MOST, MOST + 1, -1, LOWEST, HIGHEST):
                self.assertEqual(codes(size, most, []), [-2])

    def test_most_out_of_range(self):
        for most in (MOST + 1, -1, -2, LOWEST, HIGHEST):
            for size in range(1, 10):
                self.assertEqual(codes(size, most, []), [-2])

    def test_within_their_ranges(self):
        for size in SIZES:
            for most in (1, 2, MOST - 1, MOST):
                self.wrong(size, [], [], most)
                self.told(size, data(size, [2 ** size, 3, 2 ** size + 1]), [3], most)

    def test_longest_and_longer_data(self):
        given = data(2, [4, 1, 5])
        self.told(2, given + [0] * (1048576 - len(given)), [1])
        self.assertEqual(codes(2, 1, given + [0] * (1048577 - len(given))), [-2])
        self.assertEqual(codes(2, 0, [0] * 1048577), [-2])


class Most(Codes):
    def test_none(self):
        for size in SIZES:
            clear = 2 ** size
            right = data(size, [clear, 1, clear + 2, clear + 1])
            for given in ([], [0], right, right[:1], data(size, [clear + 2]), [255] * 9, data(size, [clear + 1])):
                self.assertEqual(codes(size, 0, given), [0])

    def test_one(self):
        for size in SIZES:
            clear = 2 ** size
            for behind in ([], [clear + 1], [1], [clear + 2], [clear + 3], [clear], [clear, clear + 2]):
                self.told(size, data(size, [clear, 3] + behind), [3], 1)

    def test_every_most(self):
        numbers = [1, 2, 1, 2, 3, 2, 1, 1, 2, 3]
        given = data(2, [4, 1, 2, 6, 3, 7, 8, 5])
        for most in range(15):
            self.told(2, given, numbers[:most], most)

    def test_reached_within_a_row(self):
        given = data(3, [8, 5] + list(range(10, 30)))
        # Rows of one number, of two, of three and so on, and no end.
        for most in range(1, 21 * 22 // 2 + 1):
            self.told(3, given, [5] * most, most)

    def test_wrong_code_behind(self):
        for behind in ([9], [6], [15], [4, 6], [15, 15, 15]):
            given = data(2, [4, 1, 6, 7] + behind)
            self.told(2, given, [1] * 6, 6)
            self.told(2, given, [1] * 5, 5)
        self.wrong(2, data(2, [4, 1, 6, 7, 15]), [1] * 6, 7)
        self.wrong(2, data(2, [4, 1, 6, 7, 4, 6]), [1] * 6, 7)

    def test_no_more_bits_behind(self):
        # Codes of eight bits: a byte each.
        for many in range(1, 20):
            numbers = [3 * step for step in range(many)]
            self.told(7, [128] + numbers, numbers, many)
            self.wrong(7, [128] + numbers, numbers, many + 1)

    def test_end_behind_and_ahead(self):
        given = data(2, [4, 1, 2, 3, 5])
        self.told(2, given, [1, 2, 3], 3)
        self.told(2, given, [1, 2, 3], 4)
        self.told(2, given, [1, 2, 3], MOST)
        self.told(2, given, [1, 2], 2)


class Ends(Codes):
    def test_no_data(self):
        for size in SIZES:
            self.wrong(size, [], [])

    def test_bits_that_end_ahead_of_a_code_and_within_one(self):
        for size in SIZES:
            numbers = [(3 * step) % 2 ** size for step in range(90)]
            spelled = [(2 ** size, size + 1)] + [(number, bits_of(size, step)) for step, number in enumerate(numbers)]
            given = pack(spelled)
            reached, whole_codes = 0, []
            for code, many in spelled:
                reached += many
                whole_codes.append(reached)
            for length in range(len(given)):
                there = len([place for place in whole_codes if place <= 8 * length])
                self.wrong(size, given[:length], numbers[:max(0, there - 1)])

    def test_one_bit_too_few(self):
        # Codes of three bits, then of four: 4 1 6 7 are twelve bits, 8 and the first half of 5 fill the third byte.
        given = data(2, [4, 1, 6, 7, 8, 5])
        self.assertEqual(len(given), 3)
        self.wrong(2, given[:2], [1] * 10)
        self.told(2, given, [1] * 10)

    def test_clear_alone(self):
        # With smaller sizes what is left of the byte is a code.
        for size in range(4, 9):
            self.wrong(size, data(size, [2 ** size]), [])
        self.wrong(7, [128] * 50, [])

    def test_end(self):
        for size in SIZES:
            clear, end = 2 ** size, 2 ** size + 1
            self.told(size, data(size, [end]), [])
            self.told(size, data(size, [clear, end]), [])
            self.told(size, data(size, [clear, clear, end]), [])
            self.told(size, data(size, [1, clear, end]), [1])
            self.told(size, data(size, [clear, 3, 2, end]), [3, 2])

    def test_what_is_behind_end(self):
        for size in SIZES:
            clear, end = 2 ** size, 2 ** size + 1
            for behind in ([clear, 1], [end], [0, 1, 2], [clear, clear + 2], [clear + 3]):
                self.told(size, data(size, [clear, 3, end] + behind), [3])
            for behind in ([0], [255], [255] * 500, [0] * 500, data(size, [clear, 1, end])):
                self.told(size, data(size, [clear, 3, end]) + behind, [3])


class Clear(Codes):
    def test_data_that_begins_without_clear(self):
        for size in SIZES:
            clear, end, new = 2 ** size, 2 ** size + 1, 2 ** size + 2
            self.told(size, data(size, [3, end]), [3])
            self.told(size, data(size, [3, 2, new, new + 2, end]), [3, 2, 3, 2, 3, 2, 3])
            self.wrong(size, data(size, [new]), [])
            self.wrong(size, data(size, [2 * clear - 1]), [])
            self.wrong(size, pack([(3, size + 1), (new + 1, size + 1)]), [3])

    def test_clear_twice(self):
        for size in SIZES:
            clear, end, new = 2 ** size, 2 ** size + 1, 2 ** size + 2
            for many in (2, 3, 50):
                self.told(size, data(size, [clear] * many + [3, new, end]), [3, 3, 3])
                self.told(size, data(size, [1] + [clear] * many + [3, new, end]), [1, 3, 3, 3])
                self.wrong(size, data(size, [1] + [clear] * many + [new]), [1])

    def test_clear_in_the_midst(self):
        for size in SIZES:
            clear, end, new = 2 ** size, 2 ** size + 1, 2 ** size + 2
            ahead = [clear, 1, 2, 3, 1, 2, 3, new, clear]
            numbers = [1, 2, 3, 1, 2, 3, 1, 2]
            self.told(size, data(size, ahead + [3, 1, new, end]), numbers + [3, 1, 3, 1])
            self.told(size, data(size, ahead + [3, new, end]), numbers + [3, 3, 3])

    def test_forgotten_codes_are_wrong(self):
        for size in SIZES:
            clear, new = 2 ** size, 2 ** size + 2
            ahead = [clear, 1, 2, 3, 1, clear]
            self.wrong(size, data(size, ahead + [new]), [1, 2, 3, 1])
            self.wrong(size, data(size, ahead + [3, new + 1]), [1, 2, 3, 1, 3])
            if size > 2:
                self.wrong(size, data(size, ahead + [new + 1]), [1, 2, 3, 1])
                self.wrong(size, data(size, ahead + [3, 1, new + 2]), [1, 2, 3, 1, 3, 1])

    def test_first_code_behind_clear(self):
        for size in SIZES:
            clear = 2 ** size
            for code in range(2 * clear):
                given = pack([(clear, size + 1), (code, size + 1), (clear, size + 1), (clear + 1, size + 1)])
                if code < clear:
                    self.told(size, given, [code])
                elif code < clear + 2:
                    self.told(size, given, [])
                else:
                    self.wrong(size, given, [])

    def test_no_code_before_is_kept_over_clear(self):
        # Were 1 still the code before, row 6 would be 1, 2 and the code behind it wrong or another.
        self.told(2, data(2, [4, 1, 4, 2, 6, 5]), [1, 2, 2, 2])
        self.told(2, data(2, [4, 1, 4, 2, 3, 6, 5]), [1, 2, 3, 2, 3])

    def test_bits_of_codes_behind_clear(self):
        for size in SIZES:
            clear = 2 ** size
            for many in (2, 5, 30, 300, 2000):
                ahead = [(clear, size + 1)] + [(1, bits_of(size, step)) for step in range(many)]
                behind = [(clear, bits_of(size, many)), (3, size + 1), (2, size + 1), (clear + 1, bits_of(size, 2))]
                self.told(size, pack(ahead + behind), [1] * many + [3, 2])


class Upcoming(Codes):
    """The code that is next to be added, and those above it."""

    def test_next_one(self):
        for size in SIZES:
            clear, end, new = 2 ** size, 2 ** size + 1, 2 ** size + 2
            self.told(size, data(size, [clear, 2, new, end]), [2, 2, 2])
            self.told(size, data(size, [clear, 1, 2, new + 1, end]), [1, 2, 2, 2])
            # The code before is of two numbers, 1 and 2.
            self.told(size, data(size, [clear, 1, 2, new, new + 2, end]), [1, 2, 1, 2, 1, 2, 1])
            # Once it came it is in the table.
            given = [clear, 1, 2, new, new + 2, new + 2, 3, new + 2, end]
            self.told(size, data(size, given), [1, 2, 1, 2, 1, 2, 1, 1, 2, 1, 3, 1, 2, 1])

    def test_the_one_above_it(self):
        for size in SIZES:
            clear, new = 2 ** size, 2 ** size + 2
            self.wrong(size, data(size, [clear, 2, new + 1]), [2])
            if size > 2:
                self.wrong(size, data(size, [clear, 1, 2, new + 2]), [1, 2])
            self.wrong(size, data(size, [clear, 1, 2, new, new + 3]), [1, 2, 1, 2])

    def test_every_code_behind_a_few(self):
        for size in SIZES:
            clear = 2 ** size
            for ahead in ([1], [1, 2], [1, 2, 3], [1, 2, 3, 1, 2], [3] * 20):
                spelled = widen(size, [clear] + ahead + [0])[:-1]
                many = bits_of(size, len(ahead))
                upcoming = clear + 2 + len(ahead) - 1
                for code in range(2 ** many):
                    answer = codes(size, len(ahead) + 1, pack(spelled + [(code, many)] + [(0, 1)] * 7))
                    if code > upcoming:
                        self.assertEqual(answer, [-1] + ahead)
                    elif code < clear:
                        self.assertEqual(answer, [len(ahead) + 1] + ahead + [code])
                    elif code > clear + 1:
                        step = code - clear - 2
                        self.assertEqual(answer, [len(ahead) + 1] + ahead + [ahead[step]])

    def test_long_row_of_next_ones(self):
        for size in SIZES:
            clear = 2 ** size
            for many in (2, 3, 10, 100):
                given = [clear, 3] + list(range(clear + 2, clear + 1 + many)) + [clear + 1]
                self.told(size, data(size, given), [3] * (many * (many + 1) // 2))


class Bits(Codes):
    def test_at_every_step(self):
        for size in SIZES:
            clear = 2 ** size
            numbers = [(5 * step + step // 9) % clear for step in range(4300)]
            spelled = [(clear, size + 1)] + [(number, bits_of(size, step)) for step, number in enumerate(numbers)]
            self.assertEqual({many for code, many in spelled}, set(range(size + 1, 13)))
            self.same(size, pack(spelled + [(clear + 1, 12)]), numbers)

    def test_each_step_by_itself(self):
        for size in SIZES:
            clear = 2 ** size
            for many in range(size + 1, 12):
                # Behind so many codes the table has all places that codes of so many bits can tell.
                ahead = 2 ** many - clear - 1
                spelled = [(clear, size + 1)] + [(1, bits_of(size, step)) for step in range(ahead)]
                self.assertEqual((spelled[-1][1], bits_of(size, ahead)), (many, many + 1))
                spelled += [(code, many + 1) for code in (2, 3, clear + 1)]
                self.same(size, pack(spelled), [1] * ahead + [2, 3])

    def test_highest_code_of_each_number_of_bits(self):
        for size in SIZES:
            clear = 2 ** size
            for many in range(size + 1, 13):
                # The highest code of so many bits is the next to be added; the one before it is 1.
                ahead = 2 ** many - clear - 2
                spelled = [(clear, size + 1)] + [(1, bits_of(size, step)) for step in range(ahead)]
                self.assertEqual(bits_of(size, ahead), many)
                more = min(12, many + 1)
                spelled += [(2 ** many - 1, many), (2 ** many - 1, more), (clear + 1, more)]
                self.same(size, pack(spelled), [1] * (ahead + 4))

    def test_codes_ahead_of_clear_have_more_bits_too(self):
        # Two rows are added behind 1, 1, 1, so that clear and end have four bits.
        spelled = [(4, 3), (1, 3), (1, 3), (1, 3), (4, 4), (2, 3), (2, 3), (2, 3), (5, 4)]
        self.told(2, pack(spelled), [1, 1, 1, 2, 2, 2])


class FullTable(Codes):
    def full(self, size):
        """Codes, each with its bits, behind which the table has 4096 places: of 1 and 2 in turn, and then 3."""
        many = 4096 - 2 ** size - 2 + 1
        numbers = [1 + step % 2 for step in range(many - 1)] + [3]
        spelled = [(2 ** size, size + 1)] + [(number, bits_of(size, step)) for step, number in enumerate(numbers)]
        return spelled, numbers

    def test_codes_stay_at_twelve_bits(self):
        for size in SIZES:
            spelled, numbers = self.full(size)
            behind = [step % 2 ** size for step in range(5000)]
            spelled += [(number, 12) for number in behind] + [(2 ** size + 1, 12)]
            self.same(size, pack(spelled), numbers + behind)

    def test_last_place(self):
        for size in SIZES:
            spelled, numbers = self.full(size)
            before_last = numbers[-2]
            self.same(size, pack(spelled + [(4095, 12), (2 ** size + 1, 12)]), numbers + [before_last, 3])
            # One code less, and 4095 is the next one to be added; two less, and it is wrong.
            numbers = numbers[:-1]
            given = pack(spelled[:-1] + [(4095, 12), (4095, 12), (2 ** size + 1, 12)])
            self.same(size, given, numbers + [numbers[-1]] * 4)
            self.same(size, pack(spelled[:-2] + [(4095, 12)]), numbers[:-1], first=-1)

    def test_nothing_is_added_any_more(self):
        for size in SIZES:
            clear, end = 2 ** size, 2 ** size + 1
            spelled, numbers = self.full(size)
            # Every added row is asked for behind others: each is as it was when the table became full.
            rows = [numbers[step:step + 2] for step in range(len(numbers) - 1)]
            asked = [(clear + 2 + step, 12) for step in range(len(rows))]
            expected = numbers + [3, 3, 0]
            for row in rows:
                expected = expected + row
            self.same(size, pack(spelled + [(3, 12), (3, 12), (0, 12)] + asked + [(end, 12)]), expected)

    def test_clear_begins_anew(self):
        for size in SIZES:
            clear, end, new = 2 ** size, 2 ** size + 1, 2 ** size + 2
            spelled, numbers = self.full(size)
            anew = [(clear, 12)] + widen(size, [3, 2, new, new + 2, end])
            self.same(size, pack(spelled + anew), numbers + [3, 2, 3, 2, 3, 2, 3])
            self.same(size, pack(spelled + [(1, 12)] * 9 + anew), numbers + [1] * 9 + [3, 2, 3, 2, 3, 2, 3])
            self.same(size, pack(spelled + [(clear, 12), (new, size + 1)]), numbers, first=-1)
            self.same(size, pack(spelled + [(clear, 12), (3, size + 1), (new + 1, size + 1)]), numbers + [3], first=-1)

    def test_full_twice(self):
        for size in (2, 8):
            spelled, numbers = self.full(size)
            given = pack(spelled + [(1, 12), (2 ** size, 12)] + spelled[1:] + [(4095, 12), (2 ** size + 1, 12)])
            self.same(size, given, numbers + [1] + numbers + [numbers[-2], 3])

    def test_bits_that_end_within_twelve(self):
        spelled, numbers = self.full(8)
        given = pack(spelled + [(7, 12)] * 9)
        reached = sum(many for code, many in spelled)
        for length in range(len(given) - 12, len(given) - 2):
            there = (8 * length - reached) // 12
            self.same(8, given[:length], numbers + [7] * there, first=-1)


class LongData(Codes):
    def test_zeros(self):
        for size in SIZES:
            bits, many = 800000, 0
            while bits >= bits_of(size, many):
                bits -= bits_of(size, many)
                many += 1
            self.same(size, [0] * 100000, [0] * many, first=-1)

    def test_clear_again_and_again(self):
        self.same(7, [128] * 100000, [], first=-1)
        self.same(7, [128, 5] * 50000, [5] * 50000, first=-1)
        self.same(7, [128, 5] * 49999 + [128, 129], [5] * 49999)
        # Codes of three bits: 4 and 4 and 4 and so on.
        self.same(2, [0b00100100, 0b01001001, 0b10010010] * 33333, [], first=-1)

    def test_long_rows(self):
        # Each code stands for a row that is one longer than the one before, until there are most numbers.
        for size in SIZES:
            clear = 2 ** size
            given = data(size, [clear, 1] + list(range(clear + 2, 4096)))
            self.same(size, given, [1] * MOST)
            self.same(size, given + [255] * (100000 - len(given)), [1] * MOST)

    def test_long_rows_below_most(self):
        for size in (2, 8):
            clear = 2 ** size
            many = 1447
            given = [clear, 3] + list(range(clear + 2, clear + 1 + many)) + [clear + 1]
            self.assertLess(many * (many + 1) // 2, MOST)
            self.same(size, data(size, given), [3] * (many * (many + 1) // 2))

    def test_most_is_just_reached(self):
        # Rows of 1 to 1447 numbers are 1047628; a row of 948 is left.
        given = [4, 3] + list(range(6, 5 + 1447)) + [6 + 946]
        self.assertEqual(1447 * 1448 // 2 + 948, MOST)
        self.same(2, data(2, given + [5]), [3] * MOST)
        self.same(2, data(2, given + [4, 7]), [3] * MOST)
        self.assertEqual(codes(2, MOST - 1, data(2, given))[0], MOST - 1)
        self.same(2, data(2, [4, 3] + list(range(6, 5 + 1447)) + [6 + 945, 5]), [3] * (MOST - 1))

    def test_long_data_with_long_rows(self):
        given = data(8, [256, 9] + list(range(258, 298)) + [297, 0] * 25000)
        expected = [9] * (41 * 42 // 2) + ([9] * 41 + [0]) * 25000
        self.same(8, given[:100000], expected[:MOST])

    def test_long_data_that_is_all_read(self):
        numbers = [(7 * step + step // 100) % 256 for step in range(66000)]
        given = data(8, [256] + numbers + [257])
        self.assertLessEqual(len(given), 100000)
        self.assertGreater(len(given), 98000)
        self.same(8, given, numbers)


class AnyData(Codes):
    """Much data, beside what the words ask of it."""

    def test_bytes_by_chance(self):
        chance = random.Random(7)
        for step in range(4000):
            size = chance.randint(2, 8)
            given = [chance.randrange(256) for place in range(chance.randint(0, 30))]
            most = chance.choice((0, 1, 2, 5, 20, 100, MOST))
            self.assertEqual(codes(size, most, given), told_by(size, most, given))

    def test_codes_by_chance(self):
        chance = random.Random(8)
        for step in range(1500):
            size = chance.randint(2, 8)
            given = data(size, self.made(chance, size, chance.randint(1, 120)))
            most = chance.choice((3, 10, 50, 200, MOST))
            self.assertEqual(codes(size, most, given), told_by(size, most, given))

    def test_much_data_by_chance(self):
        chance = random.Random(9)
        for size in SIZES:
            given = data(size, self.made(chance, size, 5000, clears=0))
            self.assertTrue(codes(size, 100000, given) == told_by(size, 100000, given))

    def made(self, chance, size, many, clears=2):
        """Right codes for the most part: some clear, and one of three hundred that is wrong."""
        clear = 2 ** size
        made, upcoming, before = [clear], clear + 2, False
        for step in range(many):
            pick = chance.randrange(100)
            code = chance.randrange(clear)
            if before and pick < 60:
                code = chance.randint(clear + 2, min(upcoming, 4095))
            if before and pick < 10:
                code = min(upcoming, 4095)
            if clears and pick >= 100 - clears:
                code = clear
            # Only where its bits can tell it: one above them would shift all codes behind it.
            if clears and chance.randrange(300) == 0 and upcoming.bit_length() == (upcoming + 1).bit_length():
                code = upcoming + 1
            made.append(code)
            if code == clear:
                upcoming, before = clear + 2, False
            else:
                upcoming += 1 if before and upcoming < 4096 else 0
                before = True
        return made + [clear + 1]


class BesideDraw(Codes):
    def test_draw_has_the_same_numbers(self):
        chance = random.Random(10)
        for step in range(300):
            size = chance.randint(2, 8)
            given = [chance.randrange(256) for place in range(chance.randint(0, 20))]
            file = whole(picture(0, 0, 6, 2, size=size, rows=cut(given)), width=6, height=2, marks=0x87)
            answer = codes(size, 12, given)
            places = []
            for number in answer[1:]:
                places += [(7 * (3 * number + step)) % 256 for step in range(3)] + [255]
            places += [0] * (48 - len(places))
            self.assertEqual(draw(0, file, [7] * 48, [9] * 48), [0 if len(answer) == 13 else -3] + places + [9] * 48)


class EveryCall(Codes):
    def samples(self):
        right = data(2, [4, 1, 2, 6, 3, 7, 8, 5])
        calls = [(2, most, given) for most in (0, 1, 4, MOST) for given in (right, right[:-1], right + [9], [], [255])]
        return calls + [(1, 5, []), (9, 5, []), (2, -1, []), (2, MOST + 1, [])]

    def test_what_is_handed_in_stays(self):
        for size, most, given in self.samples():
            before = list(given)
            codes(size, most, given)
            self.assertEqual(given, before)

    def test_what_is_handed_in_is_not_changed_for_a_while(self):
        for size, most, given in self.samples():
            self.assertEqual(codes(size, most, Untouchable(given)), codes(size, most, given))

    def test_second_call_answers_as_the_first(self):
        first = [codes(*given) for given in self.samples()]
        self.assertEqual([codes(*given) for given in self.samples()], first)
        self.assertEqual([codes(*given) for given in reversed(self.samples())], first[::-1])

    def test_calls_of_the_others_between_change_nothing(self):
        file = whole(picture(0, 0, 2, 2, rows=[data(2, [4, 1, 2, 6, 5])]), width=2, height=2)
        for size, most, given in self.samples():
            others = look(file), tell(0, file), draw(0, file, [1] * 16, [2] * 16)
            before = codes(size, most, given)
            self.assertEqual((look(file), tell(0, file), draw(0, file, [1] * 16, [2] * 16)), others)
            self.assertEqual(codes(size, most, given), before)

    def test_changing_an_answer_changes_no_other(self):
        for size, most, given in self.samples():
            answer = codes(size, most, given)
            before = list(answer)
            answer.append(7)
            answer[0] = 9
            self.assertEqual(codes(size, most, given), before)

    def test_answers_are_lists_of_whole_numbers(self):
        for given in self.samples():
            answer = codes(*given)
            self.assertIs(type(answer), list)
            self.assertEqual({type(number) for number in answer}, {int})


if __name__ == "__main__":
    unittest.main()
