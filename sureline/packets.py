"""Packets, and the rows of bytes that they are sent as."""

from sureline.rows import PARITY
from sureline.sums import crc_of

ANSWER = 0
BYTES = 1
END = 2
QUESTION = 3

NAMES = 4294967296
KINDS = 256
NUMBERS = 18446744073709551616
ROOMS = 65536
PIECE = 190
HEAD = 23
SUM = 4
SHORTEST = 43
LONGEST = 233


class Packet:
    def __init__(self, name, kind, number, wanted, room, octets):
        self.name = name
        self.kind = kind
        self.number = number
        self.wanted = wanted
        self.room = room
        self.octets = octets


# Kinds that there aren't, and bytes that a kind hasn't, are within the bounds: only what comes is asked for these.
def within_bounds(packet):
    if packet.name >= NAMES or packet.kind >= KINDS or packet.room >= ROOMS:
        return False
    return packet.number < NUMBERS and packet.wanted < NUMBERS and len(packet.octets) <= PIECE


def lowest_first(value, size):
    octets = []
    rest = value
    for place in range(size):
        octets.append(rest % 256)
        rest = rest // 256
    return octets


def value_of(octets):
    value = 0
    for octet in reversed(octets):
        value = value * 256 + octet
    return value


def row_of(code, packet):
    row = lowest_first(packet.name, 4) + [packet.kind]
    row = row + lowest_first(packet.number, 8) + lowest_first(packet.wanted, 8)
    row = row + lowest_first(packet.room, 2) + packet.octets
    row = row + lowest_first(crc_of(row), SUM)
    return row + code.parity_of(row)


# What the bytes ahead of the sum tell, whatever the kind.
def parted(body):
    return Packet(value_of(body[0:4]), body[4], value_of(body[5:13]), value_of(body[13:21]),
                  value_of(body[21:HEAD]), body[HEAD:])


def kind_fits(packet):
    if packet.kind == BYTES:
        return len(packet.octets) > 0
    return packet.kind <= QUESTION and len(packet.octets) == 0


# How many bytes were mended, and the packet; None if the row is no packet.
def packet_of(code, row):
    if len(row) < SHORTEST or len(row) > LONGEST:
        return None
    mended = code.mend_row(row)
    if mended is None:
        return None
    front = mended[1][:len(row) - PARITY]
    body = front[:len(front) - SUM]
    packet = parted(body)
    if value_of(front[len(body):]) != crc_of(body) or not kind_fits(packet):
        return None
    return (mended[0], packet)
