"""What the tests share: calls as lists of numbers, and a slow table of bit texts to compare with."""

from longestroute.table import answers

TOP_HALF = 2 ** 64 - 1
TOP_ADDRESS = 2 ** 128 - 1
TOP_PLACE = 2 ** 32 - 1
MOST_BEGINNINGS = 16384

EDGE_ADDRESSES = (0, 1, 2 ** 63, 2 ** 64 - 1, 2 ** 64, 2 ** 64 + 1, 2 ** 127 - 1, 2 ** 127, 2 ** 128 - 2, 2 ** 128 - 1)
EDGE_LENGTHS = (0, 1, 63, 64, 65, 127, 128)
WRONG_LENGTHS = (-1, 129, -2147483648, 2147483647)

OPEN = [1]


def halves(address):
    return [address >> 64, address & TOP_HALF]


def put(length, to, address):
    return [2, length, to] + halves(address)


def drop(length, address):
    return [3, length] + halves(address)


def find(address):
    return [4] + halves(address)


def joined(calls):
    return [number for call in calls for number in call]


def ask(*calls):
    """The answers to open and then these calls, one list for each of these calls."""
    numbers = answers(joined((OPEN,) + calls))
    split = []
    at = 0
    while at < len(numbers):
        size = numbers[at]
        split.append(numbers[at + 1:at + 1 + size])
        at += 1 + size
    if split[0] != [0]:
        raise AssertionError("open answered " + repr(split[0]))
    return split[1:]


def bit_text(length, address):
    return "{:0128b}".format(address)[:length]


class SlowTable:
    """The document's words on texts of 0 and 1, with none of the program's arithmetic."""

    def __init__(self):
        self.rows = []

    def answer(self, call):
        name = {1: self.open, 2: self.put, 3: self.drop, 4: self.find}[call[0]]
        return name(*call[1:])

    def open(self):
        self.rows = []
        return [0]

    def put(self, length, to, high, low):
        if length not in range(0, 129):
            return [-2]
        bits = bit_text(length, high * 2 ** 64 + low)
        others = [row for row in self.rows if row[0] != bits]
        known = len(others) != len(self.rows)
        if not known and len(self.rows) == MOST_BEGINNINGS:
            return [-1]
        self.rows = others + [(bits, to)]
        return [1 if known else 0]

    def drop(self, length, high, low):
        if length not in range(0, 129):
            return [-2]
        bits = bit_text(length, high * 2 ** 64 + low)
        others = [row for row in self.rows if row[0] != bits]
        known = len(others) != len(self.rows)
        self.rows = others
        return [1 if known else 0]

    def find(self, high, low):
        whole = bit_text(128, high * 2 ** 64 + low)
        had = [(len(bits), to) for bits, to in self.rows if whole.startswith(bits)]
        return list(max(had)) if had else [-1]


def slow_answers(calls):
    """What answers must give for these calls, which are handed over as one list each."""
    table = SlowTable()
    numbers = []
    for call in calls:
        answer = table.answer(call)
        numbers += [len(answer)] + answer
    return numbers
