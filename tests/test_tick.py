"""Point 4: a tick, and what goes out at it."""

import unittest

from tests.helper import (ANSWER, BYTES, END, KNOWN_END, QUESTION, answers, begin, came, finish, flat, last,
                          packet, parted, pattern, put, read, rows_of, run, sent, take, tick, told)


def answer(wanted, room=0):
    return came(0, packet(ANSWER, wanted=wanted, room=room))


def by_tick(calls):
    """What goes out at each of the ticks, as (kind, number, how many bytes)."""
    parts = parted(answers(flat(calls)))
    return [[(p[1], p[2], len(p[5])) for p in map(read, rows_of(part))]
            for call, part in zip(calls, parts) if call[0] == 4]


def all_sent_to_the_limit(size, wanted=4096, room=0):
    """Bytes put, and sent and answered for up to the limit 4096; three ticks."""
    return [put(0, pattern(size)), tick(0), answer(1520), tick(0), answer(3040), tick(0), answer(wanted, room)]


class Packets(unittest.TestCase):
    def test_nothing_goes_out_of_a_fresh_end(self):
        self.assertEqual(run(*[tick(0)] * 3), [[0]] * 3)

    def test_a_row_byte_by_byte(self):
        rows = rows_of(last(begin(0, 0x04030201), put(0, [0x31, 0x32]), tick(0)))
        body = [1, 2, 3, 4, 1, 0, 0, 0, 0, 0, 0, 0, 0, 0, 0, 0, 0, 0, 0, 0, 0, 0, 16, 0x31, 0x32]
        self.assertEqual([row[:25] for row in rows], [body])
        self.assertEqual(len(rows[0]), 45)
        self.assertEqual(rows, [packet(BYTES, octets=[0x31, 0x32], name=0x04030201)])

    def test_a_known_row(self):
        self.assertEqual(rows_of(last(finish(0), tick(0))), [KNOWN_END])

    def test_rows_are_right_and_bear_the_sum(self):
        for size in range(1, 191):
            octets = pattern(size, size)
            self.assertEqual(sent(put(0, octets), tick(0)), [(0, BYTES, 0, 0, 4096, octets)])

    def test_the_wanted_number_and_the_room_at_that_time(self):
        calls = [came(0, packet(BYTES, octets=pattern(100))), put(0, [1]), tick(0)]
        self.assertEqual(sent(*calls), [(0, BYTES, 0, 100, 3996, [1])])
        calls += [take(0, 30), came(0, packet(BYTES, 100, octets=[5])), tick(0), tick(0), tick(0)]
        self.assertEqual(sent(*calls, tick(0)), [(0, BYTES, 0, 101, 4025, [1])])


class Pieces(unittest.TestCase):
    def test_190_bytes_a_piece(self):
        self.assertEqual(by_tick([put(0, pattern(189)), tick(0)]), [[(BYTES, 0, 189)]])
        self.assertEqual(by_tick([put(0, pattern(190)), tick(0)]), [[(BYTES, 0, 190)]])
        self.assertEqual(by_tick([put(0, pattern(191)), tick(0)]), [[(BYTES, 0, 190), (BYTES, 190, 1)]])

    def test_each_piece_has_the_bytes_of_its_numbers(self):
        octets = pattern(500)
        self.assertEqual([p[5] for p in sent(put(0, octets), tick(0))], [octets[:190], octets[190:380], octets[380:]])

    def test_eight_pieces_on_their_way(self):
        calls = [put(0, pattern(1900)), tick(0), tick(0)]
        eight = [(BYTES, 190 * i, 190) for i in range(8)]
        self.assertEqual(by_tick(calls), [eight, []])
        self.assertEqual(told(*calls)["pieces"], 8)
        self.assertEqual(by_tick(calls + [answer(190), tick(0)])[2], [(BYTES, 1520, 190)])
        self.assertEqual(by_tick(calls + [answer(570), tick(0)])[2], [(BYTES, 1520, 190), (BYTES, 1710, 190)])

    def test_a_short_piece_is_not_filled_up(self):
        calls = [put(0, [1]), tick(0), put(0, [2, 3]), tick(0)]
        self.assertEqual(by_tick(calls), [[(BYTES, 0, 1)], [(BYTES, 1, 2)]])

    def test_the_limit_4096(self):
        calls = [put(0, pattern(5000)), tick(0), answer(1520), tick(0), answer(3040), tick(0), tick(0)]
        self.assertEqual(by_tick(calls)[2:], [[(BYTES, 3040 + 190 * i, 190) for i in range(5)] + [(BYTES, 3990, 106)], []])

    def test_the_limit_is_the_wanted_number_and_the_room(self):
        calls = all_sent_to_the_limit(5000, room=1)
        self.assertEqual(by_tick(calls + [tick(0)])[3], [(BYTES, 4096, 1)])
        calls = all_sent_to_the_limit(5000, room=200)
        self.assertEqual(by_tick(calls + [tick(0)])[3], [(BYTES, 4096, 190), (BYTES, 4286, 10)])
        calls = all_sent_to_the_limit(5000, wanted=3990, room=107)
        self.assertEqual(by_tick(calls + [tick(0)])[3], [(BYTES, 4096, 1)])

    def test_the_limit_is_never_less_than_it_was(self):
        calls = [put(0, pattern(400)), tick(0), answer(190, 0), put(0, pattern(190)), tick(0)]
        self.assertEqual(by_tick(calls)[1], [(BYTES, 400, 190)])

    def test_the_limit_told_again_for_the_same_number(self):
        calls = all_sent_to_the_limit(5000) + [answer(4096, 3), tick(0)]
        self.assertEqual(by_tick(calls)[3], [(BYTES, 4096, 3)])


class Again(unittest.TestCase):
    def test_when_a_piece_is_due_again(self):
        out = by_tick([put(0, [6, 7])] + [tick(0)] * 199)
        times = [time for time, packets in enumerate(out, 1) if packets]
        self.assertEqual(times, [1, 5, 13, 29, 61, 125, 189])
        self.assertEqual([out[time - 1] for time in times], [[(BYTES, 0, 2)]] * 7)

    def test_the_end_is_due_again_just_so(self):
        out = by_tick([finish(0)] + [tick(0)] * 199)
        self.assertEqual([time for time, packets in enumerate(out, 1) if packets], [1, 5, 13, 29, 61, 125, 189])
        self.assertEqual(out[188], [(END, 0, 0)])

    def test_the_same_bytes_again(self):
        calls = [put(0, pattern(300))] + [tick(0)] * 4 + [put(0, pattern(50)), tick(0)]
        self.assertEqual([p[2:3] + p[5:] for p in sent(*calls)],
                         [(0, pattern(300)[:190]), (190, pattern(300)[190:]), (300, pattern(50))])

    def test_in_the_order_in_which_they_were_sent_first(self):
        calls = [put(0, [1])] + [tick(0)] * 8 + [put(0, [2, 2]), tick(0)] + [tick(0)] * 3 + [put(0, [3, 3, 3]), tick(0)]
        out = by_tick(calls)
        self.assertEqual(out[4], [(BYTES, 0, 1)])
        self.assertEqual(out[8], [(BYTES, 1, 2)])
        self.assertEqual(out[12], [(BYTES, 0, 1), (BYTES, 1, 2), (BYTES, 3, 3)])

    def test_each_has_its_own_count(self):
        out = by_tick([put(0, [1]), tick(0), tick(0), put(0, [2, 2])] + [tick(0)] * 30)
        when = [[time for time, packets in enumerate(out, 1) if piece in packets]
                for piece in ((BYTES, 0, 1), (BYTES, 1, 2))]
        self.assertEqual(when, [[1, 5, 13, 29], [3, 7, 15, 31]])

    def test_a_piece_is_forgotten_once_all_its_numbers_are_answered_for(self):
        calls = [put(0, pattern(100)), tick(0)]
        self.assertEqual(told(*calls, answer(99))["pieces"], 1)
        self.assertEqual(told(*calls, answer(100))["pieces"], 0)
        self.assertEqual(by_tick(calls + [answer(100)] + [tick(0)] * 10)[1:], [[]] * 10)
        calls = [put(0, pattern(300)), tick(0), answer(190)] + [tick(0)] * 4
        self.assertEqual(by_tick(calls)[4], [(BYTES, 190, 110)])

    def test_a_piece_that_is_answered_for_in_part(self):
        octets = pattern(100)
        calls = [put(0, octets), tick(0), answer(40)] + [tick(0)] * 4
        self.assertEqual(sent(*calls), [(0, BYTES, 0, 0, 4096, octets[40:])])
        more = pattern(30, 2)
        calls = [put(0, octets), tick(0), put(0, more), answer(40)] + [tick(0)] * 4
        self.assertEqual(sent(*calls), [(0, BYTES, 0, 0, 4096, octets[40:] + more)])
        more = pattern(50, 2)
        calls = [put(0, octets), tick(0), put(0, more), answer(40)] + [tick(0)] * 4
        self.assertEqual(sent(*calls), [(0, BYTES, 0, 0, 4096, octets[40:] + more[:40])])

    def test_bytes_behind_another_answered_piece(self):
        octets = pattern(600)
        calls = [put(0, octets), tick(0), answer(200)] + [tick(0)] * 4
        self.assertEqual([p[2:3] + p[5:] for p in sent(*calls)],
                         [(190, octets[200:390]), (380, octets[380:570]), (570, octets[570:])])


class TheEnd(unittest.TestCase):
    def test_it_goes_out_alone_behind_all_bytes(self):
        calls = [put(0, pattern(191)), finish(0), tick(0)]
        self.assertEqual(by_tick(calls), [[(BYTES, 0, 190), (BYTES, 190, 1), (END, 191, 0)]])
        self.assertEqual(told(*calls)["pieces"], 3)

    def test_it_goes_out_once_told(self):
        calls = [put(0, [1]), tick(0), tick(0), finish(0), tick(0), tick(0), tick(0)]
        self.assertEqual(by_tick(calls), [[(BYTES, 0, 1)], [], [(END, 1, 0)], [], [(BYTES, 0, 1)]])

    def test_it_is_one_of_eight(self):
        calls = [put(0, pattern(1520)), finish(0), tick(0), tick(0), answer(190), tick(0)]
        self.assertEqual(by_tick(calls), [[(BYTES, 190 * i, 190) for i in range(8)], [], [(END, 1520, 0)]])

    def test_no_limit_holds_it_but_the_bytes_ahead_of_it(self):
        calls = all_sent_to_the_limit(4096, wanted=3040) + [finish(0), tick(0)]
        self.assertEqual(by_tick(calls)[3], [(END, 4096, 0)])
        calls = all_sent_to_the_limit(4097, wanted=3040) + [finish(0), tick(0)]
        self.assertEqual(by_tick(calls)[3], [])

    def test_it_is_sent_as_a_new_piece_once(self):
        calls = [put(0, [1]), finish(0), tick(0)]
        self.assertEqual(by_tick(calls + [answer(1)] + [tick(0)] * 4), [[(BYTES, 0, 1), (END, 1, 0)], [], [], [], [(END, 1, 0)]])
        self.assertEqual(by_tick(calls + [answer(2)] + [tick(0)] * 20)[1:], [[]] * 20)
        self.assertEqual(by_tick(calls + [answer(2), answer(1)] + [tick(0)] * 20)[1:], [[]] * 20)
        self.assertEqual(told(*calls, answer(2))["pieces"], 0)

    def test_a_number_beyond_it_says_nothing(self):
        calls = [put(0, [1]), finish(0), tick(0), answer(3)]
        self.assertEqual(told(*calls)["pieces"], 2)


class Questions(unittest.TestCase):
    def test_what_a_question_tells(self):
        calls = all_sent_to_the_limit(5000) + [came(0, packet(BYTES, wanted=4096, room=0, octets=[8] * 9)), tick(0)]
        self.assertEqual(sent(*calls), [(0, QUESTION, 4096, 9, 4087, [])])

    def test_sixteen_ticks_between_questions(self):
        out = by_tick(all_sent_to_the_limit(5000) + [tick(0)] * 60)
        self.assertEqual([time for time, packets in enumerate(out, 1) if packets == [(QUESTION, 4096, 0)]],
                         [4, 20, 36, 52])
        self.assertEqual(sum(len(packets) for packets in out[3:]), 4)

    def test_the_time_to_ask_stays_while_pieces_go_out(self):
        calls = all_sent_to_the_limit(5000) + [tick(0), answer(4096, 1), tick(0), answer(4097, 0)] + [tick(0)] * 20
        out = by_tick(calls)
        self.assertEqual(out[3:5], [[(QUESTION, 4096, 0)], [(BYTES, 4096, 1)]])
        self.assertEqual([time for time, packets in enumerate(out, 1) if packets == [(QUESTION, 4097, 0)]], [20])

    def test_none_while_a_piece_is_on_its_way(self):
        calls = all_sent_to_the_limit(5000, wanted=4095)
        self.assertEqual(by_tick(calls + [tick(0)])[3], [])
        self.assertEqual(by_tick(calls + [tick(0), answer(4096), tick(0)])[4], [(QUESTION, 4096, 0)])

    def test_none_where_no_bytes_wait(self):
        self.assertEqual(by_tick(all_sent_to_the_limit(4096) + [tick(0)])[3], [])

    def test_none_where_bytes_may_go_out(self):
        self.assertEqual(by_tick(all_sent_to_the_limit(5000, room=1) + [tick(0)])[3], [(BYTES, 4096, 1)])

    def test_a_told_end_does_not_go_ahead_of_bytes_that_wait(self):
        self.assertEqual(by_tick(all_sent_to_the_limit(5000) + [finish(0), tick(0)])[3], [(QUESTION, 4096, 0)])


class Answers(unittest.TestCase):
    def test_what_an_answer_tells(self):
        calls = [put(0, [1, 2]), tick(0), came(0, packet(BYTES, octets=[5] * 10, wanted=2)), take(0, 4), tick(0)]
        self.assertEqual(sent(*calls), [(0, ANSWER, 2, 10, 4090, [])])

    def test_the_number_of_an_answer_behind_the_end(self):
        calls = [finish(0), tick(0), came(0, packet(END, wanted=1)), tick(0)]
        self.assertEqual(sent(*calls), [(0, ANSWER, 1, 1, 4096, [])])

    def test_one_answer_for_several_packets(self):
        calls = [came(0, packet(QUESTION)), came(0, packet(QUESTION)), tick(0), tick(0)]
        self.assertEqual(by_tick(calls), [[(ANSWER, 0, 0)], []])

    def test_none_is_owed_once_anything_goes_out(self):
        calls = [came(0, packet(QUESTION)), put(0, [1]), tick(0), tick(0)]
        self.assertEqual(by_tick(calls), [[(BYTES, 0, 1)], []])
        calls = [put(0, [1])] + [tick(0)] * 4 + [came(0, packet(QUESTION)), tick(0), tick(0)]
        self.assertEqual(by_tick(calls)[4:], [[(BYTES, 0, 1)], []])
        calls = all_sent_to_the_limit(5000) + [came(0, packet(QUESTION, wanted=4096, room=0)), tick(0), tick(0)]
        self.assertEqual(by_tick(calls)[3:], [[(QUESTION, 4096, 0)], []])

    def test_pieces_on_their_way_keep_no_answer_back(self):
        calls = [put(0, [1]), tick(0), came(0, packet(QUESTION)), tick(0), tick(0)]
        self.assertEqual(by_tick(calls)[1:], [[(ANSWER, 1, 0)], []])
