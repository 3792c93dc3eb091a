"""Points 1 to 3: begin, put, finish."""

import unittest

from tests.helper import (ANSWER, BYTES, END, QUESTION, begin, came, changed, finish, last, packet, pattern, put,
                          rows_of, run, sent, take, tell, tick, told)

FRESH = {"unanswered": 0, "pieces": 0, "ready": 0, "told": 0, "complete": 0, "dropped": 0, "mended": 0}


class Begin(unittest.TestCase):
    def test_the_name_goes_into_each_packet(self):
        for name in (0, 1, 255, 256, 0x01020304, 2 ** 32 - 1):
            calls = (begin(1, name), put(1, [5]))
            self.assertEqual(run(*calls), [[0], [0]])
            self.assertEqual(rows_of(last(*calls, tick(1))), [packet(BYTES, octets=[5], name=name)])

    def test_the_name_counts_for_what_comes(self):
        parts = run(begin(0, 2 ** 32 - 1), came(0, packet(QUESTION, name=2 ** 32 - 1)), came(0, packet(QUESTION)))
        self.assertEqual(parts, [[0], [0], [-6]])

    def test_a_name_of_2_to_the_32_is_refused(self):
        for name in (2 ** 32, 2 ** 32 + 7, 2 ** 64 - 1):
            self.assertEqual(last(begin(0, name)), [-1])

    def test_all_stays_where_begin_is_refused(self):
        before = [begin(0, 3), put(0, pattern(300)), tick(0), came(0, changed(packet(BYTES, octets=[4, 4], name=3), [1])),
                  came(0, []), finish(0)]
        after = [tell(0), tick(0), take(0, 1), tick(0), tick(0), tick(0), tell(0)]
        alone = run(*before, *after)[len(before):]
        refused = run(*before, begin(0, 2 ** 32), *after)[len(before):]
        self.assertEqual(refused, [[-1]] + alone)

    def test_an_end_to_which_nothing_has_happened(self):
        used = [put(0, pattern(300)), tick(0), came(0, changed(packet(BYTES, octets=[4, 4]), [1])), came(0, []),
                came(0, packet(BYTES, 9, octets=[3])), finish(0), came(0, packet(END, 2)), tell(0)]
        self.assertEqual(last(*used), [0, 7, 300, 2, 2, 1, 1, 1, 1])
        self.assertEqual(told(*used, begin(0, 0)), FRESH)
        after = [tick(0), put(0, [7, 8]), tick(0), take(0, 4), finish(0), tick(0), tick(0), tick(0), tick(0),
                 came(0, packet(BYTES, octets=[1])), tick(0), came(0, packet(BYTES, 1, octets=[1] * 9)), take(0, 99)]
        self.assertEqual(run(*used, begin(0, 0), *after)[len(used) + 1:], run(*after))

    def test_the_time_to_ask_begins_anew(self):
        asks = [put(0, pattern(4097))]
        for i in range(3):
            asks += [tick(0), came(0, packet(ANSWER, wanted=min(4096, 1520 * (i + 1)), room=0))]
        asks.append(tick(0))
        self.assertEqual([p[1] for p in sent(*asks)], [QUESTION])
        self.assertEqual([p[1] for p in sent(*asks, begin(0, 0), *asks)], [QUESTION])

    def test_the_other_end_stays(self):
        calls = [put(1, [1, 2, 3]), tick(1), begin(0, 8)]
        self.assertEqual(told(*calls, end=1), dict(FRESH, unanswered=3, pieces=1))


class Put(unittest.TestCase):
    def test_bytes_are_kept_until_they_are_answered_for(self):
        calls = [put(0, [1, 2, 3]), put(0, [4]), put(0, [])]
        self.assertEqual(run(*calls), [[0]] * 3)
        self.assertEqual(told(*calls), dict(FRESH, unanswered=4))
        self.assertEqual(told(*calls, tick(0)), dict(FRESH, unanswered=4, pieces=1))
        self.assertEqual(told(*calls, tick(0), came(0, packet(ANSWER, wanted=4))), FRESH)

    def test_bytes_go_out_in_their_order(self):
        self.assertEqual(sent(put(0, [1, 2]), put(0, [3]), put(1, [9]), put(0, [4, 5]), tick(0)),
                         [(0, BYTES, 0, 0, 4096, [1, 2, 3, 4, 5])])

    def test_65536_bytes_and_more(self):
        self.assertEqual(last(put(0, [1] * 65536)), [0])
        self.assertEqual(told(put(0, [1] * 65536)), dict(FRESH, unanswered=65536))
        self.assertEqual(last(put(0, [1] * 65537)), [-1])
        self.assertEqual(told(put(0, [1] * 65537)), FRESH)

    def test_no_more_than_65536_bytes_not_answered_for(self):
        full = [put(0, [1] * 60000), put(0, [2] * 5536)]
        self.assertEqual(run(*full, put(0, []), put(0, [3]), put(0, [3] * 65536)), [[0]] * 3 + [[-5]] * 2)
        self.assertEqual(told(*full, put(0, [3])), dict(FRESH, unanswered=65536))
        answered = full + [tick(0), came(0, packet(ANSWER, wanted=190))]
        self.assertEqual(last(*answered, put(0, [3] * 190)), [0])
        self.assertEqual(last(*answered, put(0, [3] * 191)), [-5])
        self.assertEqual(told(*answered, put(0, [3] * 191)), dict(FRESH, unanswered=65346, pieces=7))

    def test_a_refused_put_puts_nothing(self):
        calls = [put(0, [1] * 65535), put(0, [2, 3]), put(0, [4]), tick(0)]
        self.assertEqual([part[0] for part in run(*calls)], [0, -5, 0, 8])
        self.assertEqual(told(*calls[:3])["unanswered"], 65536)

    def test_no_bytes_behind_the_end(self):
        calls = [put(0, [1]), finish(0), put(0, [2]), put(0, [])]
        self.assertEqual(run(*calls), [[0], [0], [-6], [-6]])
        self.assertEqual(told(*calls), dict(FRESH, unanswered=1, told=1))
        self.assertEqual(sent(*calls, tick(0)), [(0, BYTES, 0, 0, 4096, [1]), (0, END, 1, 0, 4096, [])])

    def test_the_refusal_told_first_counts(self):
        self.assertEqual(last(finish(0), put(0, [1] * 65537)), [-1])
        self.assertEqual(last(put(0, [1] * 65536), put(0, [1] * 65537)), [-1])
        self.assertEqual(last(put(0, [1] * 65536), finish(0), put(0, [1])), [-6])


class Finish(unittest.TestCase):
    def test_the_end_is_told_once(self):
        self.assertEqual(run(finish(0), finish(0), finish(1), finish(0)), [[0], [-6], [0], [-6]])

    def test_it_is_told(self):
        self.assertEqual(told(finish(0)), dict(FRESH, told=1))
        self.assertEqual(told(finish(0), finish(0)), dict(FRESH, told=1))
        self.assertEqual(told(finish(0), end=1), FRESH)

    def test_the_end_has_the_number_behind_the_last(self):
        self.assertEqual(sent(finish(0), tick(0)), [(0, END, 0, 0, 4096, [])])
        self.assertEqual(sent(put(0, pattern(190)), finish(0), tick(0)),
                         [(0, BYTES, 0, 0, 4096, pattern(190)), (0, END, 190, 0, 4096, [])])

    def test_a_refused_finish_sends_no_second_end(self):
        calls = [finish(0), tick(0), finish(0), came(0, packet(ANSWER, wanted=1)), finish(0)]
        self.assertEqual(run(*calls, tick(0), tell(0))[2:], [[-6], [0], [-6], [0], [0, 7, 0, 0, 0, 1, 0, 0, 0]])
