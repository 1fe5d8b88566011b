"""A table of the beginnings of addresses and where each leads, and the calls on it."""

ADDRESS_BITS = 128
HALF_BITS = 64
MOST_BEGINNINGS = 16384

OPEN = 1
PUT = 2
DROP = 3

# By a call's number: how many numbers the call has, that one among them.
CALL_SIZES = {1: 1, 2: 5, 3: 4, 4: 3}

WRONG_LENGTH = -2
TABLE_FULL = -1
LEADS_NOWHERE = -1


def join_halves(high, low):
    return (high << HALF_BITS) | low


def is_length(length):
    return 0 <= length <= ADDRESS_BITS


def make_beginning(length, address):
    # The bits behind the length are made zeros, so that one beginning is always one key.
    # The length stays beside the bits: the same bits with another length are another beginning.
    behind = ADDRESS_BITS - length
    return ((address >> behind) << behind, length)


class Table:
    def __init__(self):
        self.places = {}

    def empty(self):
        self.places = {}
        return [0]

    def put(self, length, to, address):
        if not is_length(length):
            return [WRONG_LENGTH]
        beginning = make_beginning(length, address)
        if beginning in self.places:
            self.places[beginning] = to
            return [1]
        if len(self.places) >= MOST_BEGINNINGS:
            return [TABLE_FULL]
        self.places[beginning] = to
        return [0]

    def drop(self, length, address):
        if not is_length(length):
            return [WRONG_LENGTH]
        beginning = make_beginning(length, address)
        if beginning not in self.places:
            return [0]
        self.places.pop(beginning)
        return [1]

    def find(self, address):
        # An address has one beginning of each length, so the first one met from the longest down counts.
        for length in range(ADDRESS_BITS, -1, -1):
            beginning = make_beginning(length, address)
            if beginning in self.places:
                return [length, self.places[beginning]]
        return [LEADS_NOWHERE]


def answer_call(table, call):
    number = call[0]
    if number == OPEN:
        return table.empty()
    if number == PUT:
        return table.put(call[1], call[2], join_halves(call[3], call[4]))
    if number == DROP:
        return table.drop(call[1], join_halves(call[2], call[3]))
    # CALL_SIZES has no other number but find's by now.
    return table.find(join_halves(call[1], call[2]))


def answers(calls):
    table = Table()
    answered = []
    start = 0
    while start < len(calls):
        end = start + CALL_SIZES[calls[start]]
        answer = answer_call(table, calls[start:end])
        answered.append(len(answer))
        answered.extend(answer)
        start = end
    return answered
