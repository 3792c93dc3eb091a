"""What the tests share: packets made and read in another way than the program does, and lists of calls.

The field, the sum and the parity are written here bit by bit and coefficient by coefficient, straight from
the document's words, so that a slip in the program's quicker ways shows; rows are mended by solving equations.
"""

from sureline import codes
from sureline.ends import answers

BEGIN, PUT, FINISH, TICK, CAME, TAKE, TELL = range(1, 8)
ANSWER, BYTES, END, QUESTION = range(4)
TOLD_OF = ("unanswered", "pieces", "ready", "told", "complete", "dropped", "mended")

# The end of no bytes at all, under the name 0, to the last byte.
KNOWN_END = [0, 0, 0, 0, 2, 0, 0, 0, 0, 0, 0, 0, 0, 0, 0, 0, 0, 0, 0, 0, 0, 0, 16,
             181, 145, 199, 32,
             82, 236, 227, 117, 105, 221, 220, 205, 60, 183, 228, 17, 21, 163, 114, 230]


class Draw:
    """Numbers that look like any others, and are the same at each run: there's no random source behind them."""

    def __init__(self, seed):
        self.state = seed
        self.below(1)

    def below(self, bound):
        self.state = (self.state * 6364136223846793005 + 1442695040888963407) % 2 ** 64
        return (self.state >> 32) % bound

    def between(self, low, high):
        return low + self.below(high - low + 1)

    def chance(self, percent):
        return self.below(100) < percent

    def one_of(self, choices):
        return choices[self.below(len(choices))]

    def some_of(self, choices, count):
        left = list(choices)
        return [left.pop(self.below(len(left))) for _ in range(count)]


class Fixed(list):
    """A list that can't be changed, not for a while either."""

    def refuse(self, *args, **kwargs):
        raise AssertionError("what was handed in is changed")

    append = extend = insert = pop = remove = clear = sort = reverse = refuse
    __setitem__ = __delitem__ = __iadd__ = __imul__ = refuse


def product(a, b):
    result = 0
    while b:
        if b & 1:
            result ^= a
        b >>= 1
        a <<= 1
        if a & 0x100:
            a ^= 0x11B
    return result


PRODUCTS = [[product(a, b) for b in range(256)] for a in range(256)]
INVERSES = [products.index(1) if 1 in products else 0 for products in PRODUCTS]


def powers(octet, count):
    """The first so many, from the power 0 on."""
    found = [1]
    while len(found) < count:
        found.append(PRODUCTS[found[-1]][octet])
    return found


THREES = powers(3, 255)
POINTS = THREES[:16]


def generator():
    coefficients = [1]
    for point in POINTS:
        longer = coefficients + [0]
        for i, c in enumerate(coefficients):
            longer[i + 1] ^= PRODUCTS[c][point]
        coefficients = longer
    return coefficients


GENERATOR = generator()


def parity(octets):
    row = list(octets) + [0] * 16
    for i in range(len(octets)):
        lead = PRODUCTS[row[i]]
        for j, c in enumerate(GENERATOR):
            row[i + j] ^= lead[c]
    return row[-16:]


def value_at(row, point):
    value = 0
    for octet in row:
        value = PRODUCTS[value][point] ^ octet
    return value


def is_right(row):
    """0 at the powers 0 to 15 of 3."""
    return 16 <= len(row) <= 255 and not any(value_at(row, point) for point in POINTS)


def right_row(size, seed=1):
    octets = pattern(size - 16, seed)
    return octets + parity(octets)


def distance(row, other):
    assert len(row) == len(other), "rows of two lengths"
    return sum(1 for octet, beside in zip(row, other) if octet != beside)


def without(column, lead, equation):
    by = PRODUCTS[equation[column]]
    return [x ^ by[y] for x, y in zip(equation, lead)]


def solved(equations, count):
    """So many unknown bytes from linear equations, each its factors and then its sum; None if they don't agree."""
    left = [list(equation) for equation in equations]
    found = {}
    for column in range(count):
        leads = [equation for equation in left if equation[column]]
        if not leads:
            continue
        by = PRODUCTS[INVERSES[leads[0][column]]]
        lead = [by[factor] for factor in leads[0]]
        left.remove(leads[0])
        left = [without(column, lead, equation) for equation in left]
        found = {at: without(column, lead, equation) for at, equation in found.items()}
        found[column] = lead
    if any(equation[-1] for equation in left):
        return None
    return [found[column][-1] if column in found else 0 for column in range(count)]


def nearest(row):
    """At how many places the row is wrong, eight at most, and the right row; None if there's none as near.

    Wrong bytes at v places, eight at most, make values at the sixteen powers of which each follows from the v
    ahead of it, by factors that tell the places, and there are no fewer from which it would.
    """
    values = [value_at(row, point) for point in POINTS]
    for count in range(9):
        factors = solved([values[at:at + count] + [values[at + count]] for at in range(16 - count)], count)
        if factors is not None:
            break
    else:
        return None
    locator = [1] + factors[::-1]
    places = [at for at in range(len(row)) if value_at(locator, THREES[len(row) - 1 - at]) == 0]
    if len(places) != count:
        return None
    columns = [powers(THREES[len(row) - 1 - at], 16) for at in places]
    amounts = solved([[column[i] for column in columns] + [values[i]] for i in range(16)], count)
    right = list(row)
    for at, amount in zip(places, amounts):
        right[at] ^= amount
    assert is_right(right) and distance(row, right) == count, "the test's own mending is wrong"
    return count, right


def crc(octets):
    c = 2 ** 32 - 1
    for octet in octets:
        c ^= octet
        for _ in range(8):
            c = (c >> 1) ^ 0x82F63B78 if c & 1 else c >> 1
    return c ^ (2 ** 32 - 1)


def packet(kind, number=0, wanted=0, room=4096, octets=(), name=0, off=0):
    """The row that a packet is sent as; off is added to its sum, to make a wrong one."""
    body = list(name.to_bytes(4, "little")) + [kind]
    body += list(number.to_bytes(8, "little")) + list(wanted.to_bytes(8, "little"))
    body += list(room.to_bytes(2, "little")) + list(octets)
    body += list(((crc(body) + off) % 2 ** 32).to_bytes(4, "little"))
    return body + parity(body)


def read(row):
    """A packet's name, kind, number, wanted number, room and bytes; its sum and parity are to be right."""
    assert is_right(row), "not a right row"
    body = row[:-20]
    assert int.from_bytes(bytes(row[-20:-16]), "little") == crc(body), "not the right sum"
    return (int.from_bytes(bytes(body[0:4]), "little"), body[4], int.from_bytes(bytes(body[5:13]), "little"),
            int.from_bytes(bytes(body[13:21]), "little"), int.from_bytes(bytes(body[21:23]), "little"), body[23:])


def changed(row, places, how=0xFF):
    return [octet ^ how if place in places else octet for place, octet in enumerate(row)]


def altered(row, places, draw):
    """The row with the bytes at these places changed, each by another amount."""
    bad = list(row)
    for place in places:
        bad[place] ^= draw.between(1, 255)
    return bad


def spoilt(row, draw, most):
    """The row with up to so many bytes changed, anywhere."""
    return altered(row, draw.some_of(range(len(row)), draw.below(min(most, len(row)) + 1)), draw)


def pattern(size, seed=1):
    draw = Draw(seed)
    return [draw.below(256) for _ in range(size)]


def begin(end, name):
    return [BEGIN, end, name]


def put(end, octets):
    return [PUT, end, len(octets)] + list(octets)


def finish(end):
    return [FINISH, end]


def tick(end):
    return [TICK, end]


def came(end, octets):
    return [CAME, end, len(octets)] + list(octets)


def take(end, most):
    return [TAKE, end, most]


def tell(end):
    return [TELL, end]


def flat(calls):
    return [number for call in calls for number in call]


def parted(given):
    """Rows that lie one behind another, each with its count before it: so do the answers, one a call."""
    parts = []
    at = 0
    while at < len(given):
        size = given[at]
        parts.append(given[at + 1:at + 1 + size])
        assert len(parts[-1]) == size, "an answer is cut short"
        at += 1 + size
    return parts


def behind_other_calls(function, *handed):
    """What the same call gives before and behind calls of all kinds."""
    first = function(*handed)
    codes.times(7, 255)
    codes.times(256, 0)
    rows = [changed(KNOWN_END, range(count)) for count in (0, 8, 9)]
    for octets in rows + [[9] * 16, [], pattern(239), [5] * 300]:
        codes.parity(octets)
        codes.mend(octets)
        codes.sum_of(octets)
        codes.open_of(octets)
    codes.sum_of([0] * 65537)
    codes.wire(1, 1, 2, 3, 4, pattern(190))
    codes.wire(2 ** 32, 1, 2, 3, 4, pattern(191))
    answers(flat([put(0, pattern(300)), finish(0), tick(0), tick(1), came(1, changed(KNOWN_END, [4, 5]))]))
    return first, function(*handed)


def run(*calls):
    parts = parted(answers(flat(calls)))
    assert len(parts) == len(calls), "not an answer to each call"
    return parts


def last(*calls):
    return run(*calls)[-1]


def rows_of(answer):
    """The rows that a tick answered, which lie as answers do."""
    rows = parted(answer[1:])
    assert len(rows) == answer[0], "a tick's rows don't fit its count"
    return rows


def sent(*calls):
    """The packets that the last of the calls, a tick, sends, read."""
    return [read(row) for row in rows_of(last(*calls))]


def told(*calls, end=0):
    """What's told of an end behind these calls."""
    answer = last(*calls, tell(end))
    assert answer[:2] == [0, 7] and len(answer) == 9, answer
    return dict(zip(TOLD_OF, answer[2:]))
