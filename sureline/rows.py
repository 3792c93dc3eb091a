"""The code: the parity that makes a row of bytes right, and how a changed row is mended."""

from sureline.field import Field

LONGEST_ROW = 255
PARITY = 16
PLACES = 8


def added(a, b):
    return [x ^ y for x, y in zip(a, b)]


def padded(row, size):
    return row + [0] * (size - len(row))


# The product of x + 3^0 to x + 3^15, highest first, without its leading 1: right rows are its multiples.
def divisor_of(field):
    divisor = [1]
    for exponent in range(PARITY):
        divisor = added(divisor + [0], [0] + field.scaled(divisor, field.power(exponent)))
    return divisor[1:]


# By how much the recurrence that the locator tells misses the syndrome at this place.
def lack_at(field, locator, syndromes, at):
    lack = 0
    for i in range(len(locator)):
        lack = lack ^ field.product(locator[i], syndromes[at - i])
    return lack


# Berlekamp and Massey's way to the shortest recurrence that makes the syndromes: its length, and its
# polynomial, lowest first, whose roots tell the wrong places.
def locator_of(field, syndromes):
    locator = [1]
    length = 0
    earlier = [1]
    earlier_lack = 1
    gap = 1
    for at in range(len(syndromes)):
        lack = lack_at(field, locator, syndromes, at)
        if lack > 0:
            change = [0] * gap + field.scaled(earlier, field.quotient(lack, earlier_lack))
            size = max(len(locator), len(change))
            better = added(padded(locator, size), padded(change, size))
            if 2 * length <= at:
                length = at + 1 - length
                earlier = locator
                earlier_lack = lack
                gap = 0
            locator = better
        gap += 1
    return (length, locator)


# The places, counted from the row's last byte, at which the locator says that the row is wrong.
def places_of(field, locator, size):
    highest_first = list(reversed(locator))
    return [place for place in range(size) if field.value_at(highest_first, field.power(-place)) == 0]


# Forney's way: with X = 3^place, the error there is X * evaluator(1 / X) / derivative(1 / X).
def errors_of(field, locator, syndromes, places):
    evaluator = [lack_at(field, locator[:at + 1], syndromes, at) for at in range(len(locator) - 1)]
    derivative = [locator[i] if i % 2 == 1 else 0 for i in range(1, len(locator))]
    evaluator = list(reversed(evaluator))
    derivative = list(reversed(derivative))
    errors = []
    for place in places:
        point = field.power(-place)
        ratio = field.quotient(field.value_at(evaluator, point), field.value_at(derivative, point))
        errors.append(field.product(field.power(place), ratio))
    return errors


class Code:
    def __init__(self):
        self.field = Field()
        self.divisor = divisor_of(self.field)

    # The row times x^16 is divided; what's left over makes it a multiple of the divisor.
    def parity_of(self, row):
        rest = [0] * PARITY
        for octet in row:
            rest = added(rest[1:] + [0], self.field.scaled(self.divisor, octet ^ rest[0]))
        return rest

    # The row at the powers 0 to 15 of 3. Its difference from the right row that has the same bytes
    # ahead of the parity has the same values there, and is shorter.
    def syndromes_of(self, row):
        front = len(row) - PARITY
        difference = added(self.parity_of(row[:front]), row[front:])
        return [self.field.value_at(difference, self.field.power(exponent)) for exponent in range(PARITY)]

    # At how many places the row was wrong, and the right row; None if it can't be mended. Where the
    # locator has as many roots within the row as the recurrence is long, and these are eight at most,
    # the syndromes are those of errors at just these places; else they are of no eight places.
    def mend_row(self, row):
        syndromes = self.syndromes_of(row)
        found = locator_of(self.field, syndromes)
        length = found[0]
        locator = found[1]
        if length > PLACES:
            return None
        places = places_of(self.field, locator, len(row))
        if len(places) != length:
            return None
        right = list(row)
        errors = errors_of(self.field, locator, syndromes, places)
        for place, error in zip(places, errors):
            right[len(row) - 1 - place] = right[len(row) - 1 - place] ^ error
        return (length, right)
