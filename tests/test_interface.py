"""answers(calls): how calls and answers lie in one list, and what is left as it was."""

import time
import unittest

import sureline.ends
from tests.helper import (ANSWER, BYTES, END, QUESTION, Fixed, answers, begin, came, changed, finish, flat,
                          packet, parted, pattern, put, rows_of, run, take, tell, tick)


def every_call():
    rows = rows_of(run(put(0, pattern(400)), tick(0))[-1])
    return [begin(0, 0), begin(1, 2 ** 32), put(0, pattern(400)), tick(0), came(1, changed(rows[0], [3, 40])),
            came(1, rows[1][:50]), came(1, rows[2]), came(1, rows[1]), came(1, [7] * 256), tell(1), tick(1),
            take(1, 100), take(1, 0), take(1, 2 ** 64 - 1), finish(0), finish(0), put(0, [1]), tick(0), tell(0)]


class TheList(unittest.TestCase):
    def test_no_calls_no_answers(self):
        self.assertEqual(answers([]), [])

    def test_each_answer_has_its_count_before_it(self):
        calls = flat([begin(0, 5), begin(0, 2 ** 32), put(0, []), finish(1), finish(1), tick(0), take(0, 9),
                      tell(1), came(0, [1, 2])])
        self.assertEqual(answers(calls), [1, 0, 1, -1, 1, 0, 1, 0, 1, -6, 1, 0, 2, 0, 0,
                                          9, 0, 7, 0, 0, 0, 1, 0, 0, 0, 1, -6])

    def test_a_tick_tells_how_many_packets_and_of_each_how_many_bytes(self):
        given = answers(flat([put(0, pattern(200)), tick(0)]))
        first = packet(BYTES, 0, octets=pattern(200)[:190])
        second = packet(BYTES, 190, octets=pattern(200)[190:])
        self.assertEqual(given, [1, 0, 1 + 1 + 233 + 1 + 53, 2, 233] + first + [53] + second)

    def test_a_take_tells_how_many_bytes_twice(self):
        given = answers(flat([came(0, packet(BYTES, octets=[9, 8, 7])), take(0, 2), take(0, 5)]))
        self.assertEqual(given, [1, 0, 4, 2, 2, 9, 8, 3, 1, 1, 7])

    def test_without_begin_both_ends_have_the_name_0(self):
        for end in (0, 1):
            self.assertEqual(run(came(end, packet(QUESTION)), came(end, packet(QUESTION, name=1))), [[0], [-6]])

    def test_the_two_ends_are_apart(self):
        parts = run(begin(1, 6), put(0, [1, 2]), finish(1), came(1, [0]), tell(0), tell(1), tick(1), tick(0))
        self.assertEqual(parts[4:6], [[0, 7, 2, 0, 0, 0, 0, 0, 0], [0, 7, 0, 0, 0, 1, 0, 1, 0]])
        self.assertEqual(rows_of(parts[6]), [packet(END, name=6)])
        self.assertEqual(rows_of(parts[7]), [packet(BYTES, octets=[1, 2])])

    def test_whole_numbers_are_int_never_bool(self):
        given = answers(flat(every_call() + [came(0, packet(END)), tell(0)]))
        self.assertIs(type(given), list)
        self.assertEqual({type(number) for number in given}, {int})

    def test_what_is_handed_in_stays_as_it_was(self):
        calls = flat(every_call())
        fixed = Fixed(calls)
        self.assertEqual(answers(fixed), answers(calls))
        self.assertEqual(list(fixed), calls)
        self.assertEqual(calls, flat(every_call()))

    def test_what_is_given_back_is_new_each_time(self):
        calls = flat(every_call())
        given = answers(calls)
        kept = list(given)
        given.clear()
        self.assertEqual(answers(calls), kept)
        self.assertIsNot(answers([]), answers([]))

    def test_nothing_is_kept_from_one_time_to_the_next(self):
        calls = flat(every_call())
        alone = answers(calls)
        answers(flat([begin(0, 9), begin(1, 9), put(0, [1]), finish(1), tick(0), tick(1), came(0, [])]))
        self.assertEqual(answers(calls), alone)

    def test_the_parameter_is_called_as_told(self):
        self.assertEqual(sureline.ends.answers(calls=[7, 0]), [9, 0, 7, 0, 0, 0, 0, 0, 0, 0])


class LongLists(unittest.TestCase):
    """As long as the interface lets: 16000 numbers, 200 calls."""

    def timed(self, calls):
        numbers = flat(calls)
        self.assertLessEqual(len(numbers), 16000)
        self.assertLessEqual(len(calls), 200)
        start = time.perf_counter()
        parts = parted(answers(numbers))
        self.assertLess(time.perf_counter() - start, 5)
        self.assertEqual(len(parts), len(calls))
        return parts

    def test_one_long_put_and_ticks(self):
        octets = pattern(15000)
        calls = [put(0, octets)]
        for i in range(7):
            calls += [tick(0), came(0, packet(ANSWER, wanted=8 * 190 * (i + 1), room=65535))]
        parts = self.timed(calls + [tick(0)] * 185)
        gone = [octet for i in range(1, 15, 2) for row in rows_of(parts[i]) for octet in row[23:-20]]
        self.assertEqual(gone, octets[:len(gone)])
        self.assertEqual(len(gone), 7 * 8 * 190)

    def test_two_hundred_rows_to_be_mended(self):
        row = packet(BYTES, 1, octets=pattern(34))
        calls = [came(i % 2, changed(row, range(i % 60, i % 60 + 8))) for i in range(200)]
        self.assertEqual(len(flat(calls)), 16000)
        self.assertEqual(self.timed(calls), [[0]] * 200)

    def test_the_longest_rows_to_be_mended(self):
        calls = [came(0, changed(packet(BYTES, 190 * i, octets=pattern(190, i)), range(i, i + 8))) for i in range(21)]
        calls += [came(1, changed(packet(BYTES, 190 * i, octets=pattern(190, i)), range(i, i + 9))) for i in range(21)]
        calls += [came(1, pattern(255, i)) for i in range(20)]
        calls += [tell(0), take(0, 5000), tell(1), tick(0), tick(1)]
        parts = self.timed(calls)
        self.assertEqual(parts[:62], [[0]] * 21 + [[-6]] * 41)
        self.assertEqual(parts[62], [0, 7, 0, 0, 3990, 0, 0, 0, 168])
        self.assertEqual(parts[63][2:], [octet for i in range(21) for octet in pattern(190, i)])
        self.assertEqual(parts[64], [0, 7, 0, 0, 0, 0, 0, 41, 0])

    def test_bytes_that_are_no_packets(self):
        self.assertEqual(self.timed([came(0, pattern(77, i)) for i in range(200)]), [[-6]] * 200)

    def test_two_hundred_ticks(self):
        parts = self.timed([tick(i % 2) for i in range(200)])
        self.assertEqual(parts, [[0]] * 200)

    def test_a_put_and_a_tick_by_turns(self):
        calls = [put(0, pattern(153, i)) if i % 2 == 0 else tick(0) for i in range(200)]
        parts = self.timed(calls)
        self.assertEqual([answer[0] for answer in parts[1:20:2]], [1, 1, 1, 1, 2, 2, 2, 2, 1, 1])
