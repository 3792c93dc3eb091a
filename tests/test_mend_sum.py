"""Points 10 and 11: mend and sum_of, which stand by themselves."""

import unittest

import sureline.codes
from sureline.codes import mend, sum_of
from tests.helper import (GENERATOR, KNOWN_END, PRODUCTS, Draw, Fixed, altered, behind_other_calls, changed, crc,
                          distance, is_right, last, nearest, packet, pattern, put, right_row, tick)

SIZES = (16, 17, 43, 233, 254, 255)
NO_ROW_TO_MEND = (0, 1, 15, 256, 257, 300)


def spread(size, count):
    """So many places of a row, as far apart as they can be."""
    return [at * (size - 1) // max(count - 1, 1) for at in range(count)]


def sets_of_places(size, count, draw):
    """So many places of a row: at its beginning, at its end, beside one another, far apart, anywhere."""
    sets = [range(count), range(size - count, size), range(size - 16, size - 16 + count), spread(size, count),
            range((size - count) // 2, (size - count) // 2 + count),
            draw.some_of(range(size), count), draw.some_of(range(size - 16, size), count)]
    if size - 16 >= count:
        sets += [range(size - 16 - count, size - 16), draw.some_of(range(size - 16), count)]
    return [list(places) for places in sets]


class Mend(unittest.TestCase):
    def mended(self, row, right):
        self.assertEqual(mend(row), [distance(row, right), len(row)] + right)

    def as_reckoned(self, row):
        """What mend gives is what the test's own reckoning gives; it's told whether the row was mended."""
        given = mend(row)
        best = nearest(row)
        if best is None:
            self.assertEqual(given, [-6])
            return False
        self.assertEqual(given, [best[0], len(row)] + best[1])
        self.assertTrue(is_right(given[2:]))
        self.assertEqual(distance(row, given[2:]), given[0])
        self.assertLessEqual(given[0], 8)
        return True

    def test_a_right_row(self):
        for size in SIZES:
            for seed in range(3):
                row = right_row(size, seed)
                self.assertEqual(mend(row), [0, size] + row)
            self.assertEqual(mend([0] * size), [0, size] + [0] * size)

    def test_right_rows_of_every_size(self):
        for size in range(16, 256):
            row = right_row(size, size)
            self.assertEqual(mend(row), [0, size] + row)
            self.assertEqual(mend(changed(row, [0, size - 1])), [2, size] + row)

    def test_known_rows(self):
        self.assertEqual(mend(KNOWN_END), [0, 43] + KNOWN_END)
        self.assertEqual(mend(changed(KNOWN_END, [0, 5, 22, 23, 26, 27, 28, 42])), [8, 43] + KNOWN_END)
        row = [1, 47, 11, 105, 214, 80, 186, 24, 15, 206, 84, 61, 157, 101, 33, 54, 47]
        self.assertEqual(mend(row), [0, 17] + row)
        self.assertEqual(mend([1] + [0] * 16), [1, 17] + [0] * 17)

    def test_wrong_at_each_place(self):
        for size in SIZES:
            row = right_row(size)
            for at in range(size):
                self.assertEqual(mend(changed(row, [at], 1 + at)), [1, size] + row)

    def test_wrong_by_each_amount(self):
        row = right_row(43)
        for amount in range(1, 256):
            self.assertEqual(mend(changed(row, [amount % 43], amount)), [1, 43] + row)
            self.assertEqual(mend(changed(row, spread(43, 8), amount)), [8, 43] + row)

    def test_wrong_at_up_to_eight_places(self):
        draw = Draw(10)
        for size in SIZES:
            row = right_row(size, size)
            for count in range(1, 9):
                for places in sets_of_places(size, count, draw):
                    self.assertEqual(mend(changed(row, places, draw.between(1, 255))), [count, size] + row)
                    self.assertEqual(mend(altered(row, places, draw)), [count, size] + row)

    def test_wrong_at_eight_of_the_last_sixteen_places(self):
        draw = Draw(11)
        for size in SIZES:
            row = right_row(size, 3)
            for places in (range(size - 16, size - 8), range(size - 8, size), range(size - 16, size, 2)):
                self.assertEqual(mend(altered(row, places, draw)), [8, size] + row)

    def test_rows_of_16_bytes_of_which_some_are_0(self):
        draw = Draw(12)
        for count in range(17):
            for places in sets_of_places(16, count, draw):
                row = altered([0] * 16, places, draw)
                self.assertEqual(mend(row), [count, 16] + [0] * 16 if count <= 8 else [-6])

    def test_rows_of_17_bytes_beside_all_right_ones(self):
        right = [[PRODUCTS[octet][each] for each in GENERATOR] for octet in range(256)]
        draw = Draw(13)
        for count in range(18):
            for turn in range(4):
                row = altered(right[draw.below(256)], draw.some_of(range(17), count), draw)
                near = [other for other in right if distance(row, other) <= 8]
                self.assertLessEqual(len(near), 1)
                expected = [distance(row, near[0]), 17] + near[0] if near else [-6]
                self.assertEqual(mend(row), expected)

    def test_wrong_at_nine_places_and_more(self):
        draw = Draw(14)
        for size in SIZES[1:]:
            row = right_row(size, 5)
            for count in (9, 10, 11, 15, 16):
                for places in sets_of_places(size, count, draw):
                    self.as_reckoned(changed(row, places, 1))
                    bad = altered(row, places, draw)
                    if self.as_reckoned(bad):
                        self.assertNotEqual(mend(bad)[2:], row)

    def test_wrong_at_nine_places_within_eight_of_another_right_row(self):
        # The sixteen factors behind the first make one right row from another: where a row has nine of these
        # changes it's wrong at nine places, but at eight only when it's held against the other row.
        draw = Draw(15)
        for size in SIZES[1:]:
            row = right_row(size, 6)
            for turn in range(6):
                ahead = draw.below(size - 16)
                by = PRODUCTS[draw.between(1, 255)]
                change = [0] * ahead + [by[factor] for factor in GENERATOR] + [0] * (size - 17 - ahead)
                other = [octet ^ amount for octet, amount in zip(row, change)]
                self.assertTrue(is_right(other))
                for count in (9, 10, 16, 17):
                    places = [ahead + at for at in draw.some_of(range(17), count)]
                    bad = [octet ^ change[at] if at in places else octet for at, octet in enumerate(row)]
                    self.mended(bad, other)
                    self.assertEqual(mend(bad)[0], 17 - count)

    def test_nine_places_that_could_be_found(self):
        # These nine make a recurrence of the length nine with its roots at just these places, so that one
        # who mends wherever such places are found mends them; yet nine are more than are mended.
        places = [215, 214, 195, 188, 122, 121, 104, 31, 1]
        row = right_row(233)
        for place, amount in zip(places, [90, 28, 66, 125, 247, 241, 146, 162, 251]):
            row[place] ^= amount
        self.assertEqual((mend(row), self.as_reckoned(row)), ([-6], False))

    def test_places_ahead_of_the_row(self):
        # The end of a longer right row: its wrong places, if one counted them on, lie ahead of it.
        draw = Draw(16)
        for size in (17, 43, 233, 254):
            for count in range(1, 9):
                longer = altered([0] * 239, draw.some_of(range(255 - size), min(count, 255 - size)), draw)
                longer = longer[:255 - size] + pattern(size - 16, count)
                row = (longer + sureline.codes.parity(longer)[2:])[255 - size:]
                self.assertEqual((mend(row), self.as_reckoned(row)), ([-6], False))

    def test_rows_of_any_bytes(self):
        for size in SIZES:
            for seed in range(12):
                self.as_reckoned(pattern(size, seed))
        for size in range(16, 256, 7):
            self.as_reckoned(pattern(size, size))

    def test_one_byte_all_along(self):
        for size in SIZES:
            for octet in (1, 2, 128, 255):
                self.as_reckoned([octet] * size)
            self.as_reckoned(list(range(size)))
            self.as_reckoned(list(range(size, 0, -1)))

    def test_rows_with_few_bytes_that_are_not_0(self):
        for size in SIZES:
            for count in (7, 8, 9):
                row = [1] * count + [0] * (size - count)
                self.assertEqual(self.as_reckoned(row), count <= 8)
                self.assertEqual(self.as_reckoned(row[::-1]), count <= 8)

    def test_fewer_than_16_bytes_and_more_than_255(self):
        for size in NO_ROW_TO_MEND:
            self.assertEqual(mend([0] * size), [-1])
            self.assertEqual(mend(pattern(size)), [-1])
        self.assertEqual([len(mend([0] * size)) for size in (15, 16, 255, 256)], [1, 18, 257, 1])

    def test_it_is_no_packet_that_is_wanted(self):
        for row in (packet(9), packet(0, off=1), packet(1, octets=[1] * 212)):
            self.assertEqual(mend(changed(row, [3, 7])), [2, len(row)] + row)

    def test_what_is_handed_in_stays_as_it_was(self):
        for size in SIZES:
            for places in ([], [0], spread(size, 8), spread(size, 12)):
                row = changed(right_row(size), places)
                fixed = Fixed(row)
                self.assertEqual(mend(fixed), mend(row))
                self.assertEqual((list(fixed), row), (changed(right_row(size), places),) * 2)
        for size in NO_ROW_TO_MEND:
            row = pattern(size)
            self.assertEqual(mend(Fixed(row)), mend(row))
            self.assertEqual(row, pattern(size))

    def test_the_same_behind_other_calls(self):
        for row in (KNOWN_END, changed(KNOWN_END, spread(43, 8)), changed(KNOWN_END, range(9)), [0] * 256, [3] * 255):
            first, again = behind_other_calls(mend, row)
            self.assertEqual(first, again)

    def test_what_is_given_back_is_new_each_time(self):
        for row in (KNOWN_END, changed(KNOWN_END, [7]), [1] * 16, []):
            handed = list(row)
            given = mend(handed)
            self.assertIs(type(given), list)
            self.assertEqual({type(number) for number in given}, {int})
            kept = list(given)
            given.clear()
            self.assertEqual((mend(handed), handed), (kept, row))

    def test_the_parameter_is_called_as_told(self):
        self.assertEqual(sureline.codes.mend(octets=[0] * 16), [0, 16] + [0] * 16)


def turned(number, bits):
    """The same bits the other way round."""
    return sum((number >> i & 1) << (bits - 1 - i) for i in range(bits))


def divided(octets):
    """The sum as what's left of a division of polynomials, the first byte's lowest bit their highest coefficient."""
    whole = 0
    for octet in octets:
        whole = whole << 8 | turned(octet, 8)
    whole = whole << 32 ^ (2 ** 32 - 1) << 8 * len(octets)
    for bit in range(8 * len(octets) + 31, 31, -1):
        if whole >> bit & 1:
            whole ^= 0x11EDC6F41 << (bit - 32)
    return turned(whole, 32) ^ (2 ** 32 - 1)


class Sum(unittest.TestCase):
    def test_the_empty_row(self):
        self.assertEqual(sum_of([]), [0])

    def test_one_byte(self):
        self.assertEqual([sum_of([octet]) for octet in (0, 0x61, 255)], [[0x527D5351], [0xC1D04330], [0xFF000000]])
        for octet in range(256):
            self.assertEqual(sum_of([octet]), [divided([octet])])

    def test_known_sums(self):
        self.assertEqual(sum_of(list(b"123456789")), [0xE3069283])
        self.assertEqual(sum_of([0] * 32), [0x8A9136AA])
        self.assertEqual(sum_of([255] * 32), [0x62A8AB43])
        self.assertEqual(sum_of(list(range(32))), [0x46DD794E])
        self.assertEqual(sum_of(list(range(31, -1, -1))), [0x113FDB5C])

    def test_two_bytes(self):
        for a in range(0, 256, 17):
            for b in range(0, 256, 15):
                self.assertEqual(sum_of([a, b]), [divided([a, b])])

    def test_zeros_alone_and_255s_alone(self):
        for size in (1, 2, 3, 4, 5, 8, 16, 100, 255, 256):
            self.assertEqual(sum_of([0] * size), [divided([0] * size)])
            self.assertEqual(sum_of([255] * size), [divided([255] * size)])
        for size in (4096, 65536):
            self.assertEqual(sum_of([0] * size), [crc([0] * size)])
            self.assertEqual(sum_of([255] * size), [crc([255] * size)])
        self.assertEqual(sum_of([255] * 4), [0xFFFFFFFF])

    def test_rows_of_many_sizes(self):
        for size in list(range(3, 40)) + [190, 213, 255, 256, 257, 500]:
            octets = pattern(size, size)
            self.assertEqual(sum_of(octets), [divided(octets)])

    def test_long_rows(self):
        for size in (1000, 4096, 10000, 65535, 65536):
            octets = pattern(size, size)
            self.assertEqual(sum_of(octets), [crc(octets)])

    def test_each_byte_and_its_place_count(self):
        octets = pattern(300)
        whole = sum_of(octets)
        for at in range(300):
            self.assertNotEqual(sum_of(changed(octets, [at], 1 + at % 255)), whole)
        self.assertNotEqual(sum_of(octets[::-1]), whole)
        self.assertNotEqual(sum_of([0] + octets), whole)
        self.assertNotEqual(sum_of(octets + [0]), whole)

    def test_more_than_65536_bytes(self):
        for size in (65537, 65538, 66000):
            self.assertEqual(sum_of([0] * size), [-1])
            self.assertEqual(sum_of([255] * size), [-1])
        self.assertNotEqual(sum_of([0] * 65536), [-1])

    def test_what_is_handed_in_stays_as_it_was(self):
        for size in (0, 1, 9, 300, 65536, 65537, 66000):
            octets = pattern(size)
            fixed = Fixed(octets)
            self.assertEqual(sum_of(fixed), sum_of(octets))
            self.assertEqual((list(fixed), octets), (pattern(size), pattern(size)))

    def test_the_same_behind_other_calls(self):
        for octets in ([], [1], pattern(99), [0] * 65537):
            first, again = behind_other_calls(sum_of, octets)
            self.assertEqual(first, again)

    def test_what_is_given_back_is_new_each_time(self):
        for octets in ([], [5, 6], [0] * 65537):
            given = sum_of(octets)
            self.assertIs(type(given), list)
            self.assertEqual([type(number) for number in given], [int])
            given.append(4)
            self.assertEqual(len(sum_of(octets)), 1)

    def test_the_parameter_is_called_as_told(self):
        self.assertEqual(sureline.codes.sum_of(octets=[0]), [0x527D5351])


class BesideTheEnds(unittest.TestCase):
    def test_no_end_sends_otherwise_behind_them(self):
        calls = [put(0, pattern(50)), tick(0)]
        alone = last(*calls)
        mend(changed(KNOWN_END, [1]))
        sum_of(pattern(50))
        self.assertEqual(last(*calls), alone)
