"""What stands by itself, without an end: a product in the field of bytes, and the parity behind a row."""

from sureline.field import product_of
from sureline.rows import PARITY, Code

HIGHEST_BYTE = 255
LONGEST_FRONT = 239


def times(a, b):
    if a > HIGHEST_BYTE or b > HIGHEST_BYTE:
        return [-1]
    return [product_of(a, b)]


def parity(octets):
    if len(octets) > LONGEST_FRONT:
        return [-1]
    return [0, PARITY] + Code().parity_of(octets)
