"""The numbers that codes tell, by a table of rows that grows from code to code."""

MOST_BITS = 12
MOST_ROWS = 4096


# Raised where a code can't be told, or where the bits end ahead of it or within it.
class WrongCode(Exception):
    pass


# Hands out the data's bits, from each byte's lowest on.
class Bits:
    def __init__(self, data):
        self.data = data
        self.place = 0
        self.held = 0
        self.held_bits = 0

    def take_code(self, many):
        while self.held_bits < many:
            self.hold_byte()
        code = self.held % (1 << many)
        self.held >>= many
        self.held_bits -= many
        return code

    def hold_byte(self):
        if self.place == len(self.data):
            raise WrongCode()
        self.held += self.data[self.place] << self.held_bits
        self.held_bits += 8
        self.place += 1


# The rows that codes stand for; only those that were added are kept, since the others say themselves.
class Table:
    def __init__(self, size):
        self.size = size
        self.clear_code = 1 << size
        self.end_code = self.clear_code + 1
        self.forget()

    def forget(self):
        self.added = []
        self.code_bits = self.size + 1
        self.row_before = []

    def count_rows(self):
        return self.end_code + 1 + len(self.added)

    def take_row(self, code):
        row = self.find_row(code)
        if len(self.row_before) > 0 and self.count_rows() < MOST_ROWS:
            self.add_row(self.row_before + row[:1])
        self.row_before = row
        return row

    def find_row(self, code):
        if code < self.clear_code:
            return [code]
        if code < self.count_rows():
            return self.added[code - self.end_code - 1]
        if len(self.row_before) > 0 and code == self.count_rows():
            return self.row_before + self.row_before[:1]
        raise WrongCode()

    def add_row(self, row):
        self.added.append(row)
        if self.count_rows() == 1 << self.code_bits and self.code_bits < MOST_BITS:
            self.code_bits += 1


# The numbers that were told, and whether a wrong code came before all that were wanted.
class Unpacked:
    def __init__(self, numbers, is_wrong):
        self.numbers = numbers
        self.is_wrong = is_wrong


def unpack(size, most, data):
    numbers = []
    try:
        collect_numbers(numbers, most, Bits(data), Table(size))
    except WrongCode:
        return Unpacked(numbers, True)
    return Unpacked(numbers, False)


# Fills the list that it is given, so that what came before a wrong code is there all the same.
def collect_numbers(numbers, most, bits, table):
    while len(numbers) < most:
        code = bits.take_code(table.code_bits)
        if code == table.end_code:
            return
        if code == table.clear_code:
            table.forget()
        else:
            row = table.take_row(code)
            numbers.extend(row[:most - len(numbers)])
