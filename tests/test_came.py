"""Point 5: what comes, whether it's a packet, and what it does."""

import unittest

from tests.helper import (ANSWER, BYTES, END, QUESTION, Draw, altered, begin, came, changed, crc, finish, is_right,
                          last, packet, parity, pattern, put, run, sent, spoilt, take, tell, tick, told)


def piece(number, octets, **more):
    return came(0, packet(BYTES, number, octets=octets, **more))


def the_end(number):
    return came(0, packet(END, number))


def taken(*calls):
    return last(*calls, take(0, 5000))[2:]


def filled(size):
    """Packets that leave so many bytes to be taken."""
    return [piece(at, [at // 190] * min(190, size - at)) for at in range(0, size, 190)]


def state(*calls):
    """All that shows of an end: what's told of it, what it sends next, what it gives."""
    return run(*calls, tell(0), tick(0), take(0, 5000), tick(0), tick(0), tick(0), tick(0))[len(calls):]


class Rows(unittest.TestCase):
    def test_the_sum_of_known_bytes(self):
        self.assertEqual(crc(b"123456789"), 0xE3069283)
        self.assertTrue(is_right(packet(END)) and not is_right(changed(packet(END), [0])))

    def test_43_to_233_bytes(self):
        for size in range(1, 191):
            row = packet(BYTES, octets=pattern(size))
            self.assertEqual(len(row), 43 + size)
            self.assertEqual(run(came(0, row), take(0, 300)), [[0], [size, size] + pattern(size)])
        self.assertEqual(len(packet(QUESTION)), 43)
        self.assertEqual(last(came(0, packet(QUESTION))), [0])

    def test_fewer_than_43_bytes(self):
        short = [0] * 22 + list(crc([0] * 22).to_bytes(4, "little"))
        short = short + parity(short)
        self.assertTrue(len(short) == 42 and is_right(short))
        for row in ([], [0], [0] * 15, [0] * 16, [0] * 42, packet(QUESTION)[:42], short):
            self.assertEqual(last(came(0, row)), [-6])
            self.assertEqual(told(came(0, row))["dropped"], 1)
        for size in range(43):
            self.assertEqual(last(came(0, [0] * size)), [-6])

    def test_234_to_255_bytes(self):
        for size in range(191, 213):
            row = packet(BYTES, octets=[1] * size)
            self.assertTrue(is_right(row))
            self.assertEqual(run(came(0, row), tell(0), take(0, 300)), [[-6], [0, 7, 0, 0, 0, 0, 0, 1, 0], [0, 0]])
        self.assertEqual(len(packet(BYTES, octets=[1] * 191)), 234)
        self.assertEqual(len(packet(BYTES, octets=[1] * 212)), 255)

    def test_more_than_255_bytes_are_refused_and_not_counted(self):
        for size in (256, 257, 300):
            self.assertEqual(run(came(0, [0] * size), tell(0)), [[-1], [0, 7] + [0] * 7])
            self.assertEqual(state(came(0, [0] * size)), state())

    def test_kinds(self):
        for kind in range(256):
            alone = kind in (ANSWER, END, QUESTION)
            self.assertEqual(last(came(0, packet(kind))), [0 if alone else -6], kind)
            self.assertEqual(last(came(0, packet(kind, octets=[7]))), [0 if kind == BYTES else -6], kind)
            self.assertEqual(last(came(0, packet(kind, octets=[7] * 190))), [0 if kind == BYTES else -6], kind)

    def test_the_sum(self):
        for off in (1, 255, 256, 65536, 2 ** 24, 2 ** 31, 2 ** 32 - 1):
            self.assertEqual(last(came(0, packet(QUESTION, off=off))), [-6])
            self.assertEqual(last(piece(0, [1, 2, 3], off=off)), [-6])

    def test_the_name(self):
        for name in (1, 256, 65536, 2 ** 24, 2 ** 32 - 1):
            self.assertEqual(run(piece(0, [1], name=name), tell(0)), [[-6], [0, 7, 0, 0, 0, 0, 0, 1, 0]])
            self.assertEqual(run(begin(0, name), piece(0, [1], name=name), piece(0, [1]), tell(0)),
                             [[0], [0], [-6], [0, 7, 0, 0, 1, 0, 0, 1, 0]])

    def test_each_dropped_row_is_counted(self):
        calls = [came(0, []), came(0, [0] * 256), came(0, [1] * 99), piece(0, [5], name=2), piece(0, [5])]
        self.assertEqual(run(*calls), [[-6], [-1], [-6], [-6], [0]])
        self.assertEqual(told(*calls)["dropped"], 3)
        self.assertEqual(told(*calls, end=1)["dropped"], 0)

    def test_nothing_but_the_count_changes_where_a_row_is_dropped(self):
        before = [put(0, pattern(300)), tick(0), piece(3, [4, 5])]
        for row in (packet(BYTES, 0, 190, 9999, [1, 2, 3], name=4), packet(BYTES, 0, 190, 9999, [1, 2, 3], off=1),
                    changed(packet(BYTES, 0, 190, 9999, [1, 2, 3]), range(9)), packet(END, 0, 190, octets=[1])):
            parts = state(*before, came(0, row))
            self.assertEqual(parts[0], [0, 7, 300, 2, 0, 0, 0, 1, 0])
            self.assertEqual(parts[1:], state(*before)[1:])

    def test_no_answer_is_owed_for_a_dropped_row(self):
        for row in ([], packet(QUESTION, name=1), packet(QUESTION, off=1), packet(4), [0] * 256):
            self.assertEqual(last(came(0, row), tick(0)), [0])


class Mending(unittest.TestCase):
    def test_up_to_eight_changed_bytes_and_nine(self):
        draw = Draw(5)
        for size in (1, 2, 50, 189, 190):
            row = packet(BYTES, octets=pattern(size))
            for count in range(9):
                bad = changed(row, draw.some_of(range(len(row)), count), draw.between(1, 255))
                self.assertEqual(run(came(0, bad), tell(0), take(0, 999)),
                                 [[0], [0, 7, 0, 0, size, 0, 0, 0, count], [size, size] + pattern(size)])
            for count in (9, 10, 16, 40):
                bad = changed(row, draw.some_of(range(len(row)), count), draw.between(1, 255))
                self.assertEqual(run(came(0, bad), tell(0)), [[-6], [0, 7, 0, 0, 0, 0, 0, 1, 0]])

    def test_wherever_the_changed_bytes_stand(self):
        for row in (packet(QUESTION), packet(BYTES, octets=pattern(60)), packet(BYTES, octets=pattern(190))):
            for at in range(len(row)):
                self.assertEqual(last(came(0, changed(row, [at], 1 + at))), [0])
            for at in range(len(row) - 7):
                bad = changed(row, range(at, at + 8), 0x5A)
                self.assertEqual(told(came(0, bad))["mended"], 8)
            for at in range(len(row) - 8):
                self.assertEqual(last(came(0, changed(row, range(at, at + 9), 0x5A))), [-6])

    def test_nine_changed_bytes_of_the_parity(self):
        draw = Draw(8)
        for count in list(range(9, 17)) * 8:
            row = packet(QUESTION) if count % 2 else packet(BYTES, octets=pattern(count * 11))
            places = draw.some_of(range(len(row) - 16, len(row)), count)
            bad = altered(row, places, draw)
            self.assertEqual(run(came(0, bad), tell(0)), [[-6], [0, 7, 0, 0, 0, 0, 0, 1, 0]])

    def test_nine_changed_bytes_whose_places_could_be_found(self):
        # These nine make a recurrence of the length nine with its roots at just these places, so that one
        # who mends wherever such places are found mends them; yet nine are more than are mended.
        places = [215, 214, 195, 188, 122, 121, 104, 31, 1]
        bad = packet(BYTES, octets=pattern(190))
        for place, amount in zip(places, [90, 28, 66, 125, 247, 241, 146, 162, 251]):
            bad[place] ^= amount
        self.assertEqual(run(came(0, bad), tell(0)), [[-6], [0, 7, 0, 0, 0, 0, 0, 1, 0]])
        bad[1] ^= 251
        self.assertEqual(run(came(0, bad), tell(0)), [[0], [0, 7, 0, 0, 190, 0, 0, 0, 8]])

    def test_changes_by_every_amount(self):
        draw = Draw(6)
        for amount in range(1, 256):
            row = packet(BYTES, octets=pattern(draw.between(1, 190), amount))
            bad = changed(row, draw.some_of(range(len(row)), 8), amount)
            self.assertEqual(run(came(0, bad), take(0, 999))[1][2:], row[23:-20])

    def test_rows_that_are_mended_as_if_by_chance(self):
        draw = Draw(7)
        for size in [1] * 20 + list(range(1, 191, 5)):
            row = packet(BYTES, octets=pattern(size, draw.between(0, 99)))
            self.assertEqual(run(came(0, spoilt(row, draw, 8)), take(0, 999))[1][2:], row[23:-20])

    def test_a_mended_row_may_yet_be_no_packet(self):
        for row in (packet(QUESTION, off=1), packet(QUESTION, name=3), packet(9), packet(QUESTION, octets=[1])):
            self.assertEqual(run(came(0, changed(row, [2, 30])), tell(0)), [[-6], [0, 7, 0, 0, 0, 0, 0, 1, 0]])

    def test_mended_bytes_add_up(self):
        row = packet(QUESTION)
        calls = [came(0, changed(row, range(n))) for n in (1, 0, 8, 9, 3)]
        self.assertEqual(run(*calls), [[0], [0], [0], [-6], [0]])
        self.assertEqual((told(*calls)["mended"], told(*calls)["dropped"]), (12, 1))

    def test_the_mended_name_counts(self):
        self.assertEqual(last(came(0, changed(packet(QUESTION), [0], 1))), [0])
        self.assertEqual(last(came(0, changed(packet(QUESTION, name=1), [0], 1))), [-6])

    def test_a_row_of_any_bytes_is_no_packet(self):
        for size in range(0, 256, 3):
            self.assertEqual(last(came(0, pattern(size, size))), [-6])


class Answered(unittest.TestCase):
    def setUp(self):
        self.before = [put(0, pattern(5000)), tick(0)]

    def unanswered(self, *wanted):
        return told(*self.before, *[came(0, packet(ANSWER, wanted=w)) for w in wanted])["unanswered"]

    def test_what_is_below_the_wanted_number_is_forgotten(self):
        for wanted in (0, 1, 190, 1519, 1520):
            self.assertEqual(self.unanswered(wanted), 5000 - wanted)

    def test_a_number_beyond_what_was_sent_says_nothing(self):
        for wanted in (1521, 5000, 5001, 2 ** 64 - 1):
            self.assertEqual(self.unanswered(wanted), 5000)

    def test_each_byte_of_the_wanted_number_counts(self):
        for byte in range(2, 8):
            self.assertEqual(self.unanswered(190 + 256 ** byte), 5000)
        self.assertEqual(self.unanswered(190 + 256), 5000 - 446)

    def test_a_number_below_the_first_that_is_kept_says_nothing(self):
        self.assertEqual(self.unanswered(190, 189), 4810)
        self.assertEqual(self.unanswered(190, 0, 380), 4620)

    def test_every_kind_answers(self):
        for kind in (ANSWER, END, QUESTION):
            self.assertEqual(told(*self.before, came(0, packet(kind, wanted=380)))["unanswered"], 4620)
        self.assertEqual(told(*self.before, piece(9, [1], wanted=380))["unanswered"], 4620)
        self.assertEqual(told(*self.before, piece(9, [1], wanted=380))["pieces"], 6)

    def limit_behind(self, *packets):
        """Where the bytes sent end, once all that may go out has gone."""
        calls = [put(0, pattern(6000))]
        for at in range(1520, 4561, 1520):
            calls += [tick(0), came(0, packet(ANSWER, wanted=min(at, 4096), room=0))]
        calls += [came(0, row) for row in packets]
        last_sent = sent(*calls, tick(0))[-1]
        return last_sent[2] + len(last_sent[5])

    def test_the_limit_is_set_by_a_number_that_says_something_alone(self):
        self.assertEqual(self.limit_behind(packet(ANSWER, wanted=4096, room=1000)), 5096)
        self.assertEqual(self.limit_behind(packet(ANSWER, wanted=4095, room=1001)), 4096)
        self.assertEqual(self.limit_behind(packet(ANSWER, wanted=4097, room=1000)), 4096)
        self.assertEqual(self.limit_behind(packet(ANSWER, wanted=4096, room=1000),
                                           packet(ANSWER, wanted=4096, room=10)), 5096)
        self.assertEqual(self.limit_behind(packet(QUESTION, wanted=4096, room=7)), 4103)


class Owed(unittest.TestCase):
    def owes(self, *calls):
        return [p[1] for p in sent(*calls, tick(0))] == [ANSWER]

    def test_all_but_an_answer_want_one(self):
        self.assertTrue(self.owes(came(0, packet(QUESTION))))
        self.assertTrue(self.owes(came(0, packet(END))))
        self.assertTrue(self.owes(piece(0, [1])))
        self.assertEqual(last(came(0, packet(ANSWER)), tick(0)), [0])

    def test_an_answer_takes_no_debt_back(self):
        self.assertTrue(self.owes(came(0, packet(QUESTION)), came(0, packet(ANSWER))))

    def test_also_where_nothing_is_kept(self):
        self.assertTrue(self.owes(piece(0, [1]), tick(0), piece(0, [1])))
        self.assertTrue(self.owes(piece(9999, [1])))
        self.assertTrue(self.owes(piece(2 ** 64 - 1, [1])))
        self.assertTrue(self.owes(piece(0, [1]), tick(0), the_end(0)))
        self.assertTrue(self.owes(the_end(0), tick(0), piece(5, [1])))
        self.assertTrue(self.owes(the_end(0), tick(0), the_end(0)))


class Kept(unittest.TestCase):
    def test_in_their_order(self):
        self.assertEqual(taken(piece(0, [1, 2]), piece(2, [3]), piece(3, [4, 5])), [1, 2, 3, 4, 5])
        self.assertEqual(taken(piece(3, [4, 5]), piece(2, [3]), piece(0, [1, 2])), [1, 2, 3, 4, 5])

    def test_what_is_before_its_turn_is_not_to_be_taken(self):
        self.assertEqual(taken(piece(1, [2])), [])
        self.assertEqual(told(piece(1, [2]))["ready"], 0)
        self.assertEqual(sent(piece(1, [2]), tick(0)), [(0, ANSWER, 0, 0, 4096, [])])
        self.assertEqual(sent(piece(1, [2]), piece(0, [1]), tick(0)), [(0, ANSWER, 0, 2, 4094, [])])

    def test_each_once(self):
        self.assertEqual(taken(piece(0, [1, 2]), piece(0, [1, 2]), piece(2, [3]), piece(0, [1, 2])), [1, 2, 3])
        self.assertEqual(taken(piece(0, [1, 2]), piece(1, [9, 9, 9])), [1, 2])

    def test_the_piece_that_was_kept_first_stays(self):
        self.assertEqual(taken(piece(1, [2]), piece(1, [9, 9]), piece(0, [1])), [1, 2])

    def test_not_beyond_the_number_wanted_and_the_room(self):
        self.assertEqual(len(taken(*filled(3990), piece(3990, [7] * 106))), 4096)
        self.assertEqual(len(taken(*filled(3990), piece(3990, [7] * 107))), 3990)
        self.assertEqual(taken(piece(4095, [7]), piece(4095, [8]), *filled(3990), piece(3990, [6] * 105))[-2:], [6, 7])
        self.assertEqual(taken(piece(4095, [7, 7]), piece(4095, [8]), *filled(3990), piece(3990, [6] * 105))[-2:], [6, 8])
        self.assertEqual(len(taken(*filled(4096), piece(4096, [1]))), 4096)
        self.assertEqual(last(*filled(4096), take(0, 1), piece(4096, [1]), tell(0))[4], 4096)

    def test_each_byte_of_the_number_counts(self):
        for byte in range(8):
            self.assertEqual(taken(piece(256 ** byte, [7])), [])
            self.assertEqual(told(the_end(256 ** byte))["complete"], 0)

    def test_the_room_told_falls_as_bytes_come(self):
        self.assertEqual(sent(*filled(4096), tick(0)), [(0, ANSWER, 0, 4096, 0, [])])

    def test_a_kept_piece_that_fits_at_its_turn(self):
        calls = [piece(190, [2] * 10)] + filled(190) + [take(0, 190), piece(4285, [3]), piece(4285, [4] * 2)]
        self.assertEqual(told(*calls)["ready"], 10)
        self.assertEqual(sent(*calls, tick(0)), [(0, ANSWER, 0, 200, 4086, [])])

    def test_pieces_that_overlap(self):
        calls = [piece(2, [8, 8, 8]), piece(0, [1, 2, 3, 4]), piece(4, [5])]
        self.assertEqual(taken(*calls), [1, 2, 3, 4, 5])


class Turns(unittest.TestCase):
    def ones(self, behind):
        return [piece(number, [number]) for number in range(behind - 1, 0, -1)]

    def test_65_times_for_one_packet(self):
        for count, ready in ((64, 64), (65, 65), (66, 65), (70, 65)):
            self.assertEqual(told(*self.ones(count), piece(0, [0]))["ready"], ready)

    def test_what_is_left_waits_for_bytes_or_the_end(self):
        calls = self.ones(67) + [piece(0, [0])]
        self.assertEqual(told(*calls, came(0, packet(QUESTION)), came(0, packet(ANSWER)))["ready"], 65)
        self.assertEqual(told(*calls, came(0, []), tick(0), take(0, 0))["ready"], 65)
        self.assertEqual(taken(*calls, piece(0, [9])), list(range(67)))
        self.assertEqual(taken(*calls, the_end(9999)), list(range(67)))
        self.assertEqual(taken(*calls, the_end(0)), list(range(67)))
        self.assertEqual(taken(*calls, piece(9999, [1])), list(range(67)))

    def test_65_times_anew_for_each_packet(self):
        calls = self.ones(140) + [piece(0, [0])]
        self.assertEqual([told(*calls, *[the_end(9999)] * n)["ready"] for n in range(4)], [65, 130, 140, 140])

    def test_the_end_comes_if_it_was_fewer_than_65_times(self):
        for count, complete in ((63, 1), (64, 1), (65, 0), (66, 0)):
            calls = [the_end(count)] + self.ones(count) + [piece(0, [0])]
            self.assertEqual(told(*calls)["complete"], complete, count)
            self.assertEqual(told(*calls, came(0, packet(QUESTION)), came(0, packet(ANSWER)))["complete"], complete)
            self.assertEqual(told(*calls, piece(0, [0]))["complete"], 1)


class TheEnd(unittest.TestCase):
    def test_all_has_come_once_the_end_is_wanted(self):
        self.assertEqual(told(the_end(0))["complete"], 1)
        self.assertEqual(told(the_end(2))["complete"], 0)
        self.assertEqual(told(the_end(2), piece(0, [1]))["complete"], 0)
        self.assertEqual(told(the_end(2), piece(0, [1, 2]))["complete"], 1)
        self.assertEqual(told(piece(0, [1, 2]), the_end(2))["complete"], 1)
        self.assertEqual(told(piece(0, [1, 2]))["complete"], 0)

    def test_the_number_behind_it_is_wanted(self):
        self.assertEqual(sent(the_end(0), tick(0)), [(0, ANSWER, 0, 1, 4096, [])])
        self.assertEqual(sent(piece(0, [1, 2]), the_end(2), tick(0)), [(0, ANSWER, 0, 3, 4094, [])])
        self.assertEqual(sent(piece(0, [1, 2]), the_end(2), the_end(2), the_end(3), tick(0)),
                         [(0, ANSWER, 0, 3, 4094, [])])

    def test_a_number_below_the_one_wanted_is_no_end(self):
        self.assertEqual(told(piece(0, [1, 2]), the_end(1))["complete"], 0)
        self.assertEqual(told(piece(0, [1, 2]), the_end(1), the_end(2))["complete"], 1)
        self.assertEqual(told(the_end(4), piece(0, [1, 2]), the_end(1), piece(2, [3, 4]))["complete"], 1)

    def test_a_later_number_takes_its_place(self):
        self.assertEqual(told(the_end(5), the_end(1), piece(0, [1]))["complete"], 1)
        self.assertEqual(told(the_end(1), the_end(5), piece(0, [1]))["complete"], 0)

    def test_nothing_is_kept_once_all_has_come(self):
        self.assertEqual(taken(the_end(0), piece(1, [7])), [])
        self.assertEqual(taken(piece(0, [1]), the_end(1), piece(2, [7]), piece(1, [7])), [1])

    def test_a_piece_kept_before_all_came_still_has_its_turn(self):
        calls = [piece(2, [7]), the_end(1), piece(0, [1])]
        self.assertEqual(told(*calls)["complete"], 1)
        self.assertEqual(told(*calls)["ready"], 1)
        self.assertEqual(told(*calls, came(0, packet(QUESTION)))["ready"], 1)
        self.assertEqual(taken(*calls, piece(50, [1])), [1, 7])
        self.assertEqual(taken(*calls, the_end(0)), [1, 7])
        self.assertEqual(sent(*calls, the_end(0), tick(0)), [(0, ANSWER, 0, 3, 4094, [])])

    def test_the_end_told_of_here_is_another(self):
        self.assertEqual(told(finish(0))["complete"], 0)
        self.assertEqual(told(the_end(0))["told"], 0)
