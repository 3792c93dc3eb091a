"""What stands by itself, without an end: products, rows of bytes made right, mended and summed, and packets."""

from sureline.field import product_of
from sureline.packets import Packet, packet_of, row_of, within_bounds
from sureline.rows import LONGEST_ROW, PARITY, Code
from sureline.sums import crc_of

HIGHEST_BYTE = 255
LONGEST_SUMMED = 65536


def times(a, b):
    if a > HIGHEST_BYTE or b > HIGHEST_BYTE:
        return [-1]
    return [product_of(a, b)]


def parity(octets):
    if len(octets) > LONGEST_ROW - PARITY:
        return [-1]
    return [0, PARITY] + Code().parity_of(octets)


def mend(octets):
    if len(octets) < PARITY or len(octets) > LONGEST_ROW:
        return [-1]
    mended = Code().mend_row(octets)
    if mended is None:
        return [-6]
    right = mended[1]
    return [mended[0], len(right)] + right


def sum_of(octets):
    if len(octets) > LONGEST_SUMMED:
        return [-1]
    return [crc_of(octets)]


def wire(name, kind, number, wanted, room, octets):
    packet = Packet(name, kind, number, wanted, room, octets)
    if not within_bounds(packet):
        return [-1]
    row = row_of(Code(), packet)
    return [0, len(row)] + row


def open_of(octets):
    if len(octets) > LONGEST_ROW:
        return [-1]
    found = packet_of(Code(), octets)
    if found is None:
        return [-6]
    packet = found[1]
    numbers = [packet.name, packet.kind, packet.number, packet.wanted, packet.room]
    return [found[0], len(numbers)] + numbers + [len(packet.octets)] + packet.octets
