"""The field of bytes: a sum is exclusive or, a product that of polynomials modulo x^8 + x^4 + x^3 + x + 1."""

MODULUS = 0x11B
ORDER = 255


def doubled(octet):
    twice = octet * 2
    if twice > 255:
        return twice ^ MODULUS
    return twice


# Bit by bit, as the field is told: for one product alone the tables below aren't worth making.
def product_of(a, b):
    total = 0
    shifted = a
    rest = b
    while rest > 0:
        if rest % 2 == 1:
            total = total ^ shifted
        shifted = doubled(shifted)
        rest = rest // 2
    return total


# Each byte but 0 is a power of 3, so a product is a sum of exponents: much faster than bit by bit.
class Field:
    def __init__(self):
        self.powers = []
        self.logs = [0] * 256
        octet = 1
        for exponent in range(ORDER):
            self.powers.append(octet)
            self.logs[octet] = exponent
            octet = product_of(octet, 3)

    def power(self, exponent):
        return self.powers[exponent % ORDER]

    def product(self, a, b):
        if a == 0 or b == 0:
            return 0
        return self.powers[(self.logs[a] + self.logs[b]) % ORDER]

    # Neither is ever 0 where this is called.
    def quotient(self, a, b):
        return self.powers[(self.logs[a] - self.logs[b]) % ORDER]

    # Written out instead of product by product: the parity of a packet is made of thousands of them.
    def scaled(self, row, factor):
        if factor == 0:
            return [0] * len(row)
        exponent = self.logs[factor]
        return [self.powers[(exponent + self.logs[octet]) % ORDER] if octet > 0 else 0 for octet in row]

    # The row is a polynomial, its first byte the highest coefficient.
    def value_at(self, row, point):
        value = 0
        for octet in row:
            value = self.product(value, point) ^ octet
        return value
