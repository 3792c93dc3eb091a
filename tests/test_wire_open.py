"""Points 12 and 13: wire and open_of, which stand by themselves."""

import itertools
import unittest

import sureline.codes
from sureline.codes import open_of, wire
from tests.helper import (ANSWER, BYTES, END, KNOWN_END, QUESTION, Draw, Fixed, altered, behind_other_calls, changed,
                          crc, is_right, last, packet, parity, pattern, put, right_row, tick)

NAME, NUMBER, ROOM = 2 ** 32 - 1, 2 ** 64 - 1, 2 ** 16 - 1
BYTE_COUNTS = (0, 1, 2, 100, 189, 190)

# A packet of each kind, and of kind 1 with the fewest and the most bytes that it may have.
PACKETS = [
    (0x04030201, ANSWER, 5, 6, 7, []),
    (0, BYTES, 0, 0, 4096, [9]),
    (NAME, BYTES, NUMBER, NUMBER, ROOM, [255] * 190),
    (3, BYTES, 2 ** 40, 2 ** 33, 300, pattern(77)),
    (2 ** 31, END, 2 ** 63, 1, 0, []),
    (0, END, 0, 0, 4096, []),
    (77, QUESTION, 0, 2 ** 64 - 1, 65535, []),
]


def wired(*parts):
    """The row of a packet as the test itself reckons it."""
    name, kind, number, wanted, room, octets = parts
    return packet(kind, number, wanted, room, octets, name)


def opened(mended, parts):
    return [mended, 5] + list(parts[:5]) + [len(parts[5])] + parts[5]


class Wire(unittest.TestCase):
    def sends(self, *parts):
        row = wired(*parts)
        self.assertEqual(wire(*parts), [0, len(row)] + row)
        self.assertEqual(len(row), 43 + len(parts[5]))

    def test_packets_of_each_kind(self):
        for parts in PACKETS:
            self.sends(*parts)
            self.assertTrue(is_right(wire(*parts)[2:]))

    def test_every_kind_with_bytes_and_without(self):
        for kind in (0, 1, 2, 3, 4, 5, 128, 254, 255):
            for size in BYTE_COUNTS:
                self.sends(1, kind, 2, 3, 4, pattern(size, kind))

    def test_a_known_row(self):
        self.assertEqual(wire(0, END, 0, 0, 4096, []), [0, 43] + KNOWN_END)

    def test_part_by_part(self):
        octets = [0x31, 0x32, 0x33]
        given = wire(0x04030201, 1, 0x1C1B1A1918171615, 0x2C2B2A2928272625, 0x4241, octets)
        row = given[2:]
        self.assertEqual((given[0], given[1], len(row)), (0, 46, 46))
        self.assertEqual(row[0:4], [1, 2, 3, 4])
        self.assertEqual(row[4], 1)
        self.assertEqual(row[5:13], [0x15, 0x16, 0x17, 0x18, 0x19, 0x1A, 0x1B, 0x1C])
        self.assertEqual(row[13:21], [0x25, 0x26, 0x27, 0x28, 0x29, 0x2A, 0x2B, 0x2C])
        self.assertEqual(row[21:23], [0x41, 0x42])
        self.assertEqual(row[23:26], octets)
        self.assertEqual([part * 256 ** at for at, part in enumerate(row[26:30])],
                         [crc(row[:26]) & 255 << 8 * at for at in range(4)])
        self.assertEqual(row[30:], parity(row[:30]))
        self.assertTrue(is_right(row))

    def test_each_byte_of_each_number(self):
        for place, size in ((0, 4), (1, 1), (2, 8), (3, 8), (4, 2)):
            for at in range(size):
                for octet in (1, 200):
                    parts = [0, 0, 0, 0, 0, [7]]
                    parts[place] = octet * 256 ** at
                    self.sends(*parts)

    def test_each_number_at_its_highest(self):
        highest = (NAME, 255, NUMBER, NUMBER, ROOM, [255] * 190)
        self.sends(*highest)
        self.sends(0, 0, 0, 0, 0, [])
        for place in range(6):
            parts = [0, 0, 0, 0, 0, []]
            parts[place] = highest[place]
            self.sends(*parts)

    def test_every_count_of_bytes(self):
        for size in range(191):
            self.sends(size, 1, size, 2, 3, pattern(size, size))

    def test_one_beyond(self):
        for size in (0, 1, 190):
            octets = pattern(size)
            self.assertEqual(wire(NAME + 1, 1, 0, 0, 0, octets), [-1])
            self.assertEqual(wire(0, 256, 0, 0, 0, octets), [-1])
            self.assertEqual(wire(0, 1, 0, 0, ROOM + 1, octets), [-1])
        for size in (191, 192, 300):
            self.assertEqual(wire(0, 1, 0, 0, 0, pattern(size)), [-1])
            self.assertEqual(wire(0, 0, 0, 0, 0, [0] * size), [-1])
        self.assertEqual(wire(0, 1, NUMBER + 1, 0, 0, []), [-1])
        self.assertEqual(wire(0, 1, 0, NUMBER + 1, 0, []), [-1])

    def test_far_beyond(self):
        for place in (0, 1, 4):
            for much in (2 ** 33, 2 ** 40 + 1, 2 ** 63, 2 ** 64 - 1):
                parts = [1, 1, 1, 1, 1, [1]]
                parts[place] = much
                self.assertEqual(wire(*parts), [-1])

    def test_several_beyond_together(self):
        within = (NAME, 255, NUMBER, NUMBER, ROOM, [1] * 190)
        beyond = (NAME + 1, 256, NUMBER, NUMBER, ROOM + 1, [1] * 191)
        for choice in itertools.product((0, 1), repeat=6):
            parts = [(within, beyond)[which][at] for at, which in enumerate(choice)]
            if parts == list(within):
                self.sends(*parts)
            else:
                self.assertEqual(wire(*parts), [-1])

    def test_what_is_handed_in_stays_as_it_was(self):
        for size in (0, 1, 189, 190, 191, 300):
            octets = pattern(size)
            fixed = Fixed(octets)
            self.assertEqual(wire(1, 1, 2, 3, 4, fixed), wire(1, 1, 2, 3, 4, octets))
            self.assertEqual((list(fixed), octets), (pattern(size), pattern(size)))
            self.assertEqual(wire(2 ** 32, 1, 2, 3, 4, fixed), [-1])
            self.assertEqual(list(fixed), pattern(size))

    def test_the_same_behind_other_calls(self):
        for parts in PACKETS + [(0, 256, 0, 0, 0, []), (0, 9, 0, 0, 0, [1] * 9), (0, 1, 0, 0, 0, [1] * 191)]:
            first, again = behind_other_calls(wire, *parts)
            self.assertEqual(first, again)

    def test_what_is_given_back_is_new_each_time(self):
        for parts in PACKETS + [(0, 256, 0, 0, 0, [])]:
            given = wire(*parts)
            self.assertIs(type(given), list)
            self.assertEqual({type(number) for number in given}, {int})
            kept = list(given)
            given.clear()
            self.assertEqual(wire(*parts), kept)

    def test_the_parameters_are_called_as_told(self):
        self.assertEqual(sureline.codes.wire(octets=[9], room=4, wanted=3, number=2, kind=1, name=5),
                         wire(5, 1, 2, 3, 4, [9]))


class Opened(unittest.TestCase):
    def test_rows_that_wire_gave(self):
        for parts in PACKETS:
            self.assertEqual(open_of(wire(*parts)[2:]), opened(0, parts))

    def test_rows_that_the_test_made(self):
        for parts in PACKETS:
            self.assertEqual(open_of(wired(*parts)), opened(0, parts))
        self.assertEqual(open_of(KNOWN_END), [0, 5, 0, 2, 0, 0, 4096, 0])

    def test_every_count_of_bytes(self):
        for size in range(1, 191):
            parts = (size, BYTES, 256 * size, 3, 4, pattern(size, size))
            self.assertEqual(open_of(wire(*parts)[2:]), opened(0, parts))
            self.assertEqual(len(wire(*parts)[2:]), 43 + size)

    def test_the_five_numbers(self):
        for place, size in ((0, 4), (2, 8), (3, 8), (4, 2)):
            for at in range(size):
                for octet in (1, 255):
                    parts = [0, QUESTION, 0, 0, 0, []]
                    parts[place] = octet * 256 ** at
                    self.assertEqual(open_of(wire(*parts)[2:]), opened(0, parts))

    def test_up_to_eight_changed_places(self):
        draw = Draw(20)
        for parts in PACKETS:
            row = wired(*parts)
            for count in range(9):
                starts = [0, 20, len(row) - 20, len(row) - 16, len(row) - count]
                sets = [range(start, start + count) for start in starts]
                sets += [draw.some_of(range(len(row)), count) for turn in range(4)]
                for places in sets:
                    self.assertEqual(open_of(altered(row, places, draw)), opened(count, parts))

    def test_each_place(self):
        for parts in PACKETS[:4]:
            row = wired(*parts)
            for at in range(len(row)):
                self.assertEqual(open_of(changed(row, [at], 1 + at)), opened(1, parts))

    def test_nine_changed_places(self):
        draw = Draw(21)
        for parts in PACKETS:
            row = wired(*parts)
            for turn in range(8):
                self.assertEqual(open_of(altered(row, draw.some_of(range(len(row)), 9), draw)), [-6])
            for start in (0, 20, len(row) - 16, len(row) - 9):
                self.assertEqual(open_of(changed(row, range(start, start + 9))), [-6])

    def test_fewer_than_43_bytes_and_more_than_233(self):
        for size in (0, 1, 15, 16, 42, 234, 254, 255):
            self.assertEqual(open_of([0] * size), [-6])
            self.assertEqual(open_of(pattern(size)), [-6])
        short = [0] * 22 + list(crc([0] * 22).to_bytes(4, "little"))
        short += parity(short)
        self.assertTrue(len(short) == 42 and is_right(short))
        self.assertEqual(open_of(short), [-6])
        for size in (191, 192, 212):
            row = packet(BYTES, octets=[1] * size)
            self.assertTrue(is_right(row) and len(row) == 43 + size)
            self.assertEqual(open_of(row), [-6])

    def test_43_and_233_bytes(self):
        for kind in (ANSWER, END, QUESTION):
            self.assertEqual(len(packet(kind)), 43)
            self.assertEqual(open_of(packet(kind)), [0, 5, 0, kind, 0, 0, 4096, 0])
        octets = pattern(190)
        self.assertEqual(len(packet(BYTES, octets=octets)), 233)
        self.assertEqual(open_of(packet(BYTES, octets=octets)), [0, 5, 0, 1, 0, 0, 4096, 190] + octets)

    def test_more_than_255_bytes(self):
        for size in (256, 257, 300):
            self.assertEqual(open_of([0] * size), [-1])
            self.assertEqual(open_of(pattern(size)), [-1])
        self.assertEqual(open_of(KNOWN_END + [0] * (256 - 43)), [-1])

    def test_a_cut_row_and_one_with_more_behind_it(self):
        for parts in PACKETS:
            row = wired(*parts)
            for other in (row[:-1], row[1:], row + [0], [0] + row, row[:-16], row + row[:9]):
                self.assertEqual(open_of(other), [-6])

    def test_a_wrong_sum(self):
        for off in [256 ** at for at in range(4)] + [255, 2 ** 31, 2 ** 32 - 1]:
            for row in (packet(QUESTION, off=off), packet(BYTES, octets=[1, 2], off=off), packet(ANSWER, off=off)):
                self.assertTrue(is_right(row))
                self.assertEqual(open_of(row), [-6])
                self.assertEqual(open_of(changed(row, [4, 30])), [-6])

    def test_kinds_with_bytes_and_without(self):
        for kind in range(256):
            for size in (0, 1, 190):
                row = wire(1, kind, 2, 3, 4, [kind] * size)[2:]
                fits = size > 0 if kind == BYTES else kind <= 3 and size == 0
                self.assertEqual(open_of(row), opened(0, (1, kind, 2, 3, 4, [kind] * size)) if fits else [-6])

    def test_what_is_mended_may_yet_be_no_packet(self):
        for row in (packet(4), packet(255), packet(BYTES), packet(ANSWER, octets=[1]), packet(END, octets=[1] * 190),
                    packet(QUESTION, octets=[0]), right_row(43), right_row(233), [0] * 43):
            for count in range(9):
                self.assertEqual(open_of(changed(row, range(count))), [-6])

    def test_rows_of_any_bytes(self):
        for size in range(256):
            self.assertEqual(open_of(pattern(size, size)), [-6])

    def test_what_is_handed_in_stays_as_it_was(self):
        for row in [wired(*parts) for parts in PACKETS] + [[], [1] * 42, pattern(255), pattern(256), packet(9)]:
            for count in (0, 1, 8, 9):
                bad = altered(row, range(min(count, len(row))), Draw(22))
                fixed = Fixed(bad)
                kept = list(bad)
                self.assertEqual(open_of(fixed), open_of(bad))
                self.assertEqual((list(fixed), bad), (kept, kept))

    def test_the_same_behind_other_calls(self):
        for row in [changed(wired(*parts), [3, 40]) for parts in PACKETS] + [[], [0] * 256, packet(7)]:
            first, again = behind_other_calls(open_of, row)
            self.assertEqual(first, again)

    def test_what_is_given_back_is_new_each_time(self):
        for row in [wired(*parts) for parts in PACKETS] + [changed(KNOWN_END, [1]), [], [0] * 256]:
            given = open_of(row)
            self.assertIs(type(given), list)
            self.assertEqual({type(number) for number in given}, {int})
            kept = list(given)
            given.clear()
            self.assertEqual(open_of(row), kept)

    def test_the_parameter_is_called_as_told(self):
        self.assertEqual(sureline.codes.open_of(octets=KNOWN_END), [0, 5, 0, 2, 0, 0, 4096, 0])


class BesideTheEnds(unittest.TestCase):
    def test_no_end_sends_otherwise_behind_them(self):
        calls = [put(0, pattern(50)), tick(0)]
        alone = last(*calls)
        open_of(wire(*PACKETS[0])[2:])
        self.assertEqual(last(*calls), alone)
