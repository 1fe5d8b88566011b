"""A table of the beginnings of addresses and where each leads, and the calls on it."""

ADDRESS_BITS = 128
HALF_BITS = 64
LAST_ADDRESS = 0xFFFFFFFFFFFFFFFFFFFFFFFFFFFFFFFF
MOST_BEGINNINGS = 16384

OPEN = 1
PUT = 2
DROP = 3
FIND = 4
STRETCH = 5
RANGE = 6

# By a call's number: how many numbers the call has, that one among them.
CALL_SIZES = {1: 1, 2: 5, 3: 4, 4: 3, 5: 3, 6: 6, 7: 2}

WRONG_LENGTH = -2
LAST_BEFORE_FIRST = -2
TABLE_FULL = -1
LEADS_NOWHERE = -1
NOT_IN_TABLE = -1

# Stands where a place would stand; no place is below 0.
NOWHERE = -1


def join_halves(high, low):
    return (high << HALF_BITS) | low


def is_length(length):
    return 0 <= length <= ADDRESS_BITS


def make_beginning(length, address):
    # The bits behind the length are made zeros, so that one beginning is always one key.
    # The length stays beside the bits: the same bits with another length are another beginning.
    # The bits come first, so that beginnings are ordered as list tells them.
    behind = ADDRESS_BITS - length
    return ((address >> behind) << behind, length)


def last_address(beginning):
    return beginning[0] + (1 << (ADDRESS_BITS - beginning[1])) - 1


def count_below(rows, row):
    # The rows are in order, so each look at the middle one settles half of them.
    low = 0
    high = len(rows)
    while low < high:
        middle = (low + high) // 2
        if rows[middle] < row:
            low = middle + 1
        else:
            high = middle
    return low


def widest_beginning(first, last):
    # The row of addresses must not reach past last, and first must have zeros only behind the length.
    behind = (last - first + 1).bit_length() - 1
    if first > 0:
        lowest_one_on = first ^ (first - 1)
        behind = min(behind, lowest_one_on.bit_length() - 1)
    return (first, ADDRESS_BITS - behind)


def cover_range(first, last):
    # One that has first can't begin ahead of it, so the widest that begins there leaves the fewest to come.
    beginnings = []
    while first <= last:
        beginning = widest_beginning(first, last)
        beginnings.append(beginning)
        first = last_address(beginning) + 1
    return beginnings


def add_step(steps, first, to):
    # Of several steps at one address only the newest counts.
    if steps[-1][0] == first:
        steps.pop()
    # No step where the addresses ahead lead to the same place: neighbours are one stretch.
    if len(steps) == 0 or steps[-1][1] != to:
        steps.append((first, to))


def end_before(steps, around, address):
    # Behind the end of a beginning the one around it counts again.
    while len(around) > 0 and around[-1][0] < address:
        ended = around.pop()
        to = around[-1][1] if len(around) > 0 else NOWHERE
        add_step(steps, ended[0] + 1, to)


def make_steps(order, places):
    # A step is an address and the place where addresses lead from there up to the next step.
    steps = [(0, NOWHERE)]
    # The beginnings that have the address which is gone through now, the longest last: last address and place.
    around = []
    for beginning in order:
        first = beginning[0]
        to = places[beginning]
        end_before(steps, around, first)
        around.append((last_address(beginning), to))
        add_step(steps, first, to)
    end_before(steps, around, LAST_ADDRESS)
    return steps


class Table:
    def __init__(self):
        # By its beginning: where it leads.
        self.places = {}
        # The same beginnings in list's order.
        self.order = []
        # What make_steps tells of them; None from a change on until a stretch is asked for.
        self.steps = None

    def empty(self):
        self.places = {}
        self.order = []
        self.steps = None
        return [0]

    def put(self, length, to, address):
        if not is_length(length):
            return [WRONG_LENGTH]
        beginning = make_beginning(length, address)
        known = beginning in self.places
        if not known and len(self.order) >= MOST_BEGINNINGS:
            return [TABLE_FULL]
        if not known:
            self.order.insert(count_below(self.order, beginning), beginning)
        self.places[beginning] = to
        self.steps = None
        return [1 if known else 0]

    def drop(self, length, address):
        if not is_length(length):
            return [WRONG_LENGTH]
        beginning = make_beginning(length, address)
        if beginning not in self.places:
            return [0]
        self.order.pop(count_below(self.order, beginning))
        self.places.pop(beginning)
        self.steps = None
        return [1]

    def find(self, address):
        # An address has one beginning of each length, so the first one met from the longest down counts.
        for length in range(ADDRESS_BITS, -1, -1):
            beginning = make_beginning(length, address)
            if beginning in self.places:
                return [length, self.places[beginning]]
        return [LEADS_NOWHERE]

    def stretch(self, address):
        if self.steps is None:
            self.steps = make_steps(self.order, self.places)
        # The first step is at 0, so at least one is not behind the address.
        behind = count_below(self.steps, (address + 1, NOWHERE))
        to = self.steps[behind - 1][1]
        last = self.steps[behind][0] - 1 if behind < len(self.steps) else LAST_ADDRESS
        if to == NOWHERE:
            return [0, last]
        return [1, last, to]

    def put_range(self, to, first, last):
        if last < first:
            return [LAST_BEFORE_FIRST]
        new = cover_range(first, last)
        start = count_below(self.order, (first, 0))
        end = count_below(self.order, (last + 1, 0))
        # One that begins within the range has one of the new ones, or is one, if it ends within it too.
        begun = self.order[start:end]
        gone = [beginning for beginning in begun if last_address(beginning) <= last]
        if len(self.order) - len(gone) + len(new) > MOST_BEGINNINGS:
            return [TABLE_FULL]
        kept = [beginning for beginning in begun if last_address(beginning) > last]
        self.order = self.order[:start] + sorted(kept + new) + self.order[end:]
        for beginning in gone:
            self.places.pop(beginning)
        for beginning in new:
            self.places[beginning] = to
        self.steps = None
        return [len(new)]

    def tell_beginning(self, k):
        count = len(self.order)
        if k < 0 or k >= count:
            return [NOT_IN_TABLE]
        beginning = self.order[k]
        return [count, beginning[0], beginning[1], self.places[beginning]]


def answer_call(table, call):
    number = call[0]
    if number == OPEN:
        return table.empty()
    if number == PUT:
        return table.put(call[1], call[2], join_halves(call[3], call[4]))
    if number == DROP:
        return table.drop(call[1], join_halves(call[2], call[3]))
    if number == FIND:
        return table.find(join_halves(call[1], call[2]))
    if number == STRETCH:
        return table.stretch(join_halves(call[1], call[2]))
    if number == RANGE:
        return table.put_range(call[1], join_halves(call[2], call[3]), join_halves(call[4], call[5]))
    # CALL_SIZES has no other number but list's by now.
    return table.tell_beginning(call[1])


def answers(calls):
    table = Table()
    answered = []
    start = 0
    while start < len(calls):
        end = start + CALL_SIZES[calls[start]]
        answer = answer_call(table, calls[start:end])
        answered.append(len(answer))
        answered.extend(answer)
        start = end
    return answered
