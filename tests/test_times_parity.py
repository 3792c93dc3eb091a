"""Points 8 and 9: times and parity, which stand by themselves."""

import unittest

import sureline.codes
from sureline.codes import parity, times
from tests import helper
from tests.helper import KNOWN_END, Fixed, behind_other_calls, changed, is_right, last, pattern, put, tick


def reckoned(a, b):
    """The product of the two polynomials first, then what's left of it behind the division, bit by bit."""
    whole = 0
    for i in range(8):
        for j in range(8):
            whole ^= (a >> i & 1) * (b >> j & 1) << (i + j)
    for bit in range(14, 7, -1):
        if whole >> bit & 1:
            whole ^= 0b100011011 << (bit - 8)
    return whole


class Times(unittest.TestCase):
    def test_known_products(self):
        self.assertEqual(times(0x57, 0x83), [0xC1])
        self.assertEqual(times(0x57, 0x13), [0xFE])
        self.assertEqual(times(0x53, 0xCA), [1])
        self.assertEqual(times(0xE5, 3), [0x34])

    def test_by_0(self):
        for octet in range(256):
            self.assertEqual((times(octet, 0), times(0, octet)), ([0], [0]))

    def test_by_1(self):
        for octet in range(256):
            self.assertEqual((times(octet, 1), times(1, octet)), ([octet], [octet]))

    def test_by_2_with_and_without_a_carry(self):
        for octet in range(128):
            self.assertEqual((times(octet, 2), times(2, octet)), ([octet * 2],) * 2)
        for octet in range(128, 256):
            self.assertEqual((times(octet, 2), times(2, octet)), ([octet * 2 - 256 ^ 0x1B],) * 2)
        self.assertEqual((times(127, 2), times(128, 2), times(255, 2)), ([254], [0x1B], [0xE5]))

    def test_by_3_with_and_without_a_carry(self):
        self.assertEqual([times(octet, 3) for octet in (2, 3, 85, 127)], [[6], [5], [255], [129]])
        self.assertEqual([times(octet, 3) for octet in (128, 255)], [[0x9B], [0x1A]])
        for octet in range(256):
            self.assertEqual(times(octet, 3), [times(octet, 2)[0] ^ octet])
            self.assertEqual(times(3, octet), times(octet, 3))

    def test_by_255(self):
        self.assertEqual([times(255, octet) for octet in (0, 1, 2, 3, 255)], [[0], [255], [0xE5], [0x1A], [0x13]])
        for octet in range(256):
            self.assertEqual(times(255, octet), [reckoned(octet, 255)])
            self.assertEqual(times(octet, 255), times(255, octet))

    def test_no_carry_beyond_the_seventh_bit(self):
        self.assertEqual([times(15, 15), times(16, 8), times(5, 9), times(9, 5)], [[85], [128], [45], [45]])

    def test_carries_beyond_the_seventh_bit(self):
        self.assertEqual([times(16, 16), times(128, 128), times(64, 4)], [[0x1B], [0x9A], [0x1B]])

    def test_all_pairs_of_bytes(self):
        for a in range(256):
            for b in range(256):
                if times(a, b) != [reckoned(a, b)]:
                    self.fail("times(%d, %d)" % (a, b))

    def test_the_other_way_round(self):
        for a, b in zip(pattern(500, 1), pattern(500, 2)):
            self.assertEqual(times(a, b), times(b, a))

    def test_the_powers_of_3(self):
        powers = [1]
        while len(powers) < 255:
            powers += times(powers[-1], 3)
        self.assertEqual(sorted(powers), list(range(1, 256)))
        self.assertEqual(times(powers[-1], 3), [1])

    def test_what_is_no_byte(self):
        for over in (256, 257, 511, 512, 768, 1023):
            for octet in (0, 1, 2, 3, 255):
                self.assertEqual(times(over, octet), [-1])
                self.assertEqual(times(octet, over), [-1])
            self.assertEqual((times(over, 256), times(256, over), times(over, 1023)), ([-1],) * 3)

    def test_the_same_behind_other_calls(self):
        for a, b in ((0x57, 0x83), (0, 255), (255, 256), (1023, 1)):
            first, again = behind_other_calls(times, a, b)
            self.assertEqual(first, again)

    def test_the_kinds_of_what_is_given_back(self):
        for a, b in ((0, 0), (3, 255), (256, 1)):
            given = times(a, b)
            self.assertIs(type(given), list)
            self.assertEqual([type(number) for number in given], [int])
            given.append(1)
            self.assertEqual(len(times(a, b)), 1)

    def test_the_parameters_are_called_as_told(self):
        self.assertEqual(sureline.codes.times(a=2, b=3), [6])


class Parity(unittest.TestCase):
    SIZES = (0, 1, 2, 15, 16, 17, 100, 213, 217, 238, 239)

    def rightly_answered(self, octets):
        given = parity(octets)
        self.assertEqual((given[:2], len(given)), ([0, 16], 18))
        self.assertTrue(all(type(number) is int and 0 <= number <= 255 for number in given[2:]))
        self.assertTrue(is_right(octets + given[2:]))
        return given[2:]

    def test_the_empty_row(self):
        self.assertEqual(parity([]), [0, 16] + [0] * 16)

    def test_one_byte(self):
        known = [47, 11, 105, 214, 80, 186, 24, 15, 206, 84, 61, 157, 101, 33, 54, 47]
        self.assertEqual(parity([1]), [0, 16] + known)
        for octet in range(256):
            self.assertEqual(parity([octet])[2:], [reckoned(octet, each) for each in known])
            self.rightly_answered([octet])

    def test_zeros_alone(self):
        for size in self.SIZES:
            self.assertEqual(parity([0] * size), [0, 16] + [0] * 16)

    def test_a_known_row(self):
        self.assertEqual(parity(KNOWN_END[:-16]), [0, 16] + KNOWN_END[-16:])

    def test_rows_of_many_sizes(self):
        for size in self.SIZES:
            for octets in (pattern(size, size), [255] * size, list(range(size))):
                self.assertEqual(self.rightly_answered(octets), helper.parity(octets))

    def test_every_size(self):
        for size in range(240):
            self.rightly_answered(pattern(size, size + 1))

    def test_other_bytes_behind_the_row_are_not_right(self):
        row = pattern(100) + self.rightly_answered(pattern(100))
        for place in range(16):
            self.assertFalse(is_right(changed(row, [100 + place], 1)))

    def test_zeros_ahead_change_nothing(self):
        octets = pattern(30)
        for size in (1, 16, 209):
            self.assertEqual(parity([0] * size + octets), parity(octets))

    def test_more_than_239_bytes(self):
        for size in (240, 241, 254, 255, 256, 257, 300):
            self.assertEqual(parity([0] * size), [-1])
            self.assertEqual(parity(pattern(size)), [-1])

    def test_what_is_handed_in_stays_as_it_was(self):
        for size in (0, 1, 15, 16, 17, 239, 240, 300):
            octets = pattern(size)
            fixed = Fixed(octets)
            self.assertEqual(parity(fixed), parity(octets))
            self.assertEqual((list(fixed), octets), (pattern(size), pattern(size)))

    def test_the_same_behind_other_calls(self):
        for size in (0, 1, 17, 239, 240):
            first, again = behind_other_calls(parity, pattern(size))
            self.assertEqual(first, again)

    def test_what_is_given_back_is_new_each_time(self):
        for octets in ([], pattern(20), [1] * 240):
            given = parity(octets)
            self.assertIs(type(given), list)
            kept = list(given)
            given.clear()
            self.assertEqual(parity(octets), kept)

    def test_the_parameter_is_called_as_told(self):
        self.assertEqual(sureline.codes.parity(octets=[0]), [0, 16] + [0] * 16)


class BesideTheEnds(unittest.TestCase):
    def test_no_end_sends_otherwise_behind_them(self):
        calls = [put(0, pattern(50)), tick(0)]
        alone = last(*calls)
        times(3, 7)
        parity(pattern(50))
        self.assertEqual(last(*calls), alone)
