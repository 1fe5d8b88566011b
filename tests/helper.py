"""What the tests share: calls as lists of numbers, and a slow table of bit texts to compare with."""

from longestroute.table import answers

TOP_HALF = 2 ** 64 - 1
TOP_ADDRESS = 2 ** 128 - 1
TOP_PLACE = 2 ** 32 - 1
MOST_BEGINNINGS = 16384

EDGE_ADDRESSES = (0, 1, 2 ** 63, 2 ** 64 - 1, 2 ** 64, 2 ** 64 + 1, 2 ** 127 - 1, 2 ** 127, 2 ** 128 - 2, 2 ** 128 - 1)
EDGE_LENGTHS = (0, 1, 63, 64, 65, 127, 128)
WRONG_LENGTHS = (-1, 129, -2147483648, 2147483647)

OPEN = [1]


def halves(address):
    return [address >> 64, address & TOP_HALF]


def put(length, to, address):
    return [2, length, to] + halves(address)


def drop(length, address):
    return [3, length] + halves(address)


def find(address):
    return [4] + halves(address)


def stretch(address):
    return [5] + halves(address)


def range_to(to, first, last):
    return [6, to] + halves(first) + halves(last)


def kth(k):
    return [7, k]


def joined(calls):
    return [number for call in calls for number in call]


def ask(*calls):
    """The answers to open and then these calls, one list for each of these calls."""
    handed = joined((OPEN,) + calls)
    if len(calls) > 399 or len(handed) > 16000:
        raise AssertionError("more than the document lets be handed in")
    numbers = answers(handed)
    split = []
    at = 0
    while at < len(numbers):
        size = numbers[at]
        split.append(numbers[at + 1:at + 1 + size])
        at += 1 + size
    if split[0] != [0]:
        raise AssertionError("open answered " + repr(split[0]))
    return split[1:]


def listed(*calls):
    """All beginnings of the table after these calls, as list tells them: bits, length, place."""
    count = ask(*calls, kth(0))[-1][0]
    if count == -1:
        return []
    told = ask(*calls, *[kth(k) for k in range(count)])[len(calls):]
    if {answer[0] for answer in told} != {count}:
        raise AssertionError("list tells several counts")
    return [tuple(answer[1:]) for answer in told]


def bit_text(length, address):
    return "{:0128b}".format(address)[:length]


def first_of(bits):
    return int(bits.ljust(128, "0"), 2)


def last_of(bits):
    return int(bits.ljust(128, "1"), 2)


def cover_texts(first, last, bits=""):
    """The fewest bit texts that the addresses from first to last begin with, and no others."""
    if last_of(bits) < first or last < first_of(bits):
        return []
    if first <= first_of(bits) and last_of(bits) <= last:
        return [bits]
    return cover_texts(first, last, bits + "0") + cover_texts(first, last, bits + "1")


def block_range(number, free_bits):
    """All addresses but the first and last one of a block that begins with the 8 bits of the number."""
    base = number << 120
    return base + 1, base + 2 ** free_bits - 2


# 68 times 238 beginnings and once 200: these ranges fill the table, each one leads elsewhere.
FULL_RANGES = [(100 + number,) + block_range(number, 120) for number in range(68)] + [(168,) + block_range(68, 101)]
FULL = [range_to(*row) for row in FULL_RANGES]
FULL_ANSWERED = [[238]] * 68 + [[200]]


def full_listed():
    """What list tells of a table that FULL has filled, without its count."""
    rows = [(bits, to) for to, first, last in FULL_RANGES for bits in cover_texts(first, last)]
    rows.sort(key=list_order)
    return [[first_of(bits), len(bits), to] for bits, to in rows]


def list_order(row):
    return row[0].ljust(128, "0"), len(row[0])


class SlowTable:
    """The document's words on texts of 0 and 1, with none of the program's arithmetic."""

    def __init__(self):
        self.rows = []

    def answer(self, call):
        names = (self.open, self.put, self.drop, self.find, self.stretch, self.range, self.list)
        return names[call[0] - 1](*call[1:])

    def open(self):
        self.rows = []
        return [0]

    def put(self, length, to, high, low):
        if length not in range(0, 129):
            return [-2]
        bits = bit_text(length, high * 2 ** 64 + low)
        others = [row for row in self.rows if row[0] != bits]
        known = len(others) != len(self.rows)
        if not known and len(self.rows) == MOST_BEGINNINGS:
            return [-1]
        self.rows = others + [(bits, to)]
        return [1 if known else 0]

    def drop(self, length, high, low):
        if length not in range(0, 129):
            return [-2]
        bits = bit_text(length, high * 2 ** 64 + low)
        others = [row for row in self.rows if row[0] != bits]
        known = len(others) != len(self.rows)
        self.rows = others
        return [1 if known else 0]

    def find(self, high, low):
        return self.led(high * 2 ** 64 + low)

    def led(self, address):
        whole = bit_text(128, address)
        had = [(len(bits), to) for bits, to in self.rows if whole.startswith(bits)]
        return list(max(had)) if had else [-1]

    def stretch(self, high, low):
        address = high * 2 ** 64 + low
        place = self.led(address)[1:]
        edges = {first_of(bits) for bits, to in self.rows} | {last_of(bits) + 1 for bits, to in self.rows}
        for edge in sorted(edges):
            if address < edge <= TOP_ADDRESS and self.led(edge)[1:] != place:
                return [len(place), edge - 1] + place
        return [len(place), TOP_ADDRESS] + place

    def range(self, to, first_high, first_low, last_high, last_low):
        first = first_high * 2 ** 64 + first_low
        last = last_high * 2 ** 64 + last_low
        if last < first:
            return [-2]
        texts = cover_texts(first, last)
        others = [row for row in self.rows if not row[0].startswith(tuple(texts))]
        if len(others) + len(texts) > MOST_BEGINNINGS:
            return [-1]
        self.rows = others + [(bits, to) for bits in texts]
        return [len(texts)]

    def list(self, k):
        if k not in range(len(self.rows)):
            return [-1]
        bits, to = sorted(self.rows, key=list_order)[k]
        return [len(self.rows), first_of(bits), len(bits), to]


def slow_answers(calls):
    """What answers must give for these calls, which are handed over as one list each."""
    table = SlowTable()
    numbers = []
    for call in calls:
        answer = table.answer(call)
        numbers += [len(answer)] + answer
    return numbers
