"""Points 6 and 7: take, tell."""

import unittest

from tests.helper import (ANSWER, BYTES, END, came, changed, finish, last, packet, pattern, put, run, sent, take, tell,
                          tick, told)


def piece(number, octets):
    return came(0, packet(BYTES, number, octets=octets))


def filled(size):
    return [piece(at, pattern(min(190, size - at), at)) for at in range(0, size, 190)]


class Take(unittest.TestCase):
    def test_the_first_bytes_in_their_order(self):
        calls = [piece(0, [1, 2, 3]), piece(3, [4, 5]), take(0, 2), take(0, 2), take(0, 2), take(0, 2)]
        self.assertEqual(run(*calls)[2:], [[2, 2, 1, 2], [2, 2, 3, 4], [1, 1, 5], [0, 0]])

    def test_as_many_as_there_are(self):
        for most in (3, 4, 4096, 65536, 2 ** 64 - 1):
            self.assertEqual(last(piece(0, [1, 2, 3]), take(0, most)), [3, 3, 1, 2, 3])

    def test_none(self):
        self.assertEqual(last(take(0, 0)), [0, 0])
        self.assertEqual(last(take(0, 5)), [0, 0])
        self.assertEqual(last(piece(0, [1]), take(0, 0)), [0, 0])
        self.assertEqual(last(piece(1, [1]), take(0, 5)), [0, 0])
        self.assertEqual(run(piece(0, [1]), take(0, 0), take(0, 1))[1:], [[0, 0], [1, 1, 1]])

    def test_refused_once_all_has_come_and_is_taken(self):
        calls = [piece(0, [1, 2]), came(0, packet(END, 2))]
        self.assertEqual(run(*calls, take(0, 0), take(0, 1), take(0, 1), take(0, 1), take(0, 0))[2:],
                         [[0, 0], [1, 1, 1], [1, 1, 2], [-7], [-7]])
        self.assertEqual(last(came(0, packet(END)), take(0, 7)), [-7])
        self.assertEqual(last(came(0, packet(END, 1)), take(0, 7)), [0, 0])

    def test_nothing_changes_where_it_is_refused(self):
        calls = [came(0, packet(END))]
        after = [tell(0), tick(0), tick(0)]
        self.assertEqual(run(*calls, take(0, 1), *after)[2:], run(*calls, *after)[1:])
        quiet = calls + [tick(0)]
        self.assertEqual(run(*quiet, take(0, 1), *after)[3:], run(*quiet, *after)[2:])

    def test_its_own_bytes_are_not_taken(self):
        self.assertEqual(last(put(0, [1, 2]), tick(0), take(0, 9)), [0, 0])
        self.assertEqual(last(came(1, packet(BYTES, octets=[1])), take(0, 9)), [0, 0])

    def test_what_is_taken_makes_room(self):
        calls = filled(500) + [take(0, 120), put(0, [1]), tick(0)]
        self.assertEqual(sent(*calls), [(0, BYTES, 0, 500, 4096 - 380, [1])])

    def owes(self, size, *takes):
        """Whether an answer is owed behind these, where none was owed before."""
        calls = filled(size) + [tick(0)] + [take(0, most) for most in takes]
        packets = sent(*calls, tick(0))
        self.assertLessEqual(len(packets), 1)
        return [(p[1], p[4]) for p in packets]

    def test_an_answer_is_owed_once_the_room_is_190_again(self):
        self.assertEqual(self.owes(3907), [])
        self.assertEqual(self.owes(3907, 0), [])
        self.assertEqual(self.owes(3907, 1), [(ANSWER, 190)])
        self.assertEqual(self.owes(3907, 5000), [(ANSWER, 4096)])
        self.assertEqual(self.owes(3906, 1), [])
        self.assertEqual(self.owes(3906, 5000), [])
        self.assertEqual(self.owes(4096, 189), [])
        self.assertEqual(self.owes(4096, 190), [(ANSWER, 190)])
        self.assertEqual(self.owes(4096, 100, 89), [])
        self.assertEqual(self.owes(4096, 100, 89, 1), [(ANSWER, 190)])
        self.assertEqual(self.owes(4096, 100, 90, 1), [(ANSWER, 191)])
        self.assertEqual(self.owes(4000, 4096), [(ANSWER, 4096)])

    def test_nothing_is_owed_for_room_that_was_there(self):
        self.assertEqual(self.owes(100, 100), [])
        self.assertEqual(self.owes(3800, 3800), [])


class Tell(unittest.TestCase):
    def tells(self, answer, *calls, end=0):
        self.assertEqual(last(*calls, tell(end)), [0, 7] + answer)

    def test_nothing_yet(self):
        self.tells([0, 0, 0, 0, 0, 0, 0])
        self.tells([0, 0, 0, 0, 0, 0, 0], end=1)

    def test_bytes_not_answered_for_and_pieces_on_their_way(self):
        self.tells([400, 0, 0, 0, 0, 0, 0], put(0, pattern(400)))
        self.tells([400, 3, 0, 0, 0, 0, 0], put(0, pattern(400)), tick(0))
        self.tells([210, 2, 0, 0, 0, 0, 0], put(0, pattern(400)), tick(0), came(0, packet(ANSWER, wanted=190)))
        self.tells([209, 2, 0, 0, 0, 0, 0], put(0, pattern(400)), tick(0), came(0, packet(ANSWER, wanted=191)))
        self.tells([0, 0, 0, 0, 0, 0, 0], put(0, pattern(400)), tick(0), came(0, packet(ANSWER, wanted=400)))

    def test_the_end_is_a_piece_but_no_byte(self):
        calls = [put(0, [1]), finish(0), tick(0)]
        self.tells([1, 2, 0, 1, 0, 0, 0], *calls)
        self.tells([0, 1, 0, 1, 0, 0, 0], *calls, came(0, packet(ANSWER, wanted=1)))
        self.tells([0, 0, 0, 1, 0, 0, 0], *calls, came(0, packet(ANSWER, wanted=2)))

    def test_bytes_to_be_taken(self):
        self.tells([0, 0, 200, 0, 0, 0, 0], *filled(200))
        self.tells([0, 0, 150, 0, 0, 0, 0], *filled(200), take(0, 50))
        self.tells([0, 0, 0, 0, 0, 0, 0], piece(1, [1, 2]))

    def test_whether_the_end_was_told_and_whether_all_has_come(self):
        self.tells([0, 0, 0, 1, 0, 0, 0], finish(0))
        self.tells([0, 0, 0, 0, 1, 0, 0], came(0, packet(END)))
        self.tells([0, 0, 1, 0, 1, 0, 0], came(0, packet(END, 1)), piece(0, [1]))
        self.tells([0, 0, 0, 0, 1, 0, 0], came(0, packet(END, 1)), piece(0, [1]), take(0, 1), take(0, 1))

    def test_packets_dropped_and_bytes_mended(self):
        row = packet(BYTES, octets=[1])
        self.tells([0, 0, 1, 0, 0, 2, 5], came(0, [1, 2]), came(0, changed(row, range(5))), came(0, [0] * 255))

    def test_tell_changes_nothing(self):
        calls = [put(0, pattern(400)), tick(0), piece(0, [1]), came(0, []), finish(0)]
        after = [tick(0), take(0, 9), tick(0), tick(0), tick(0), tell(0)]
        self.assertEqual(run(*calls, tell(0), tell(0), *after)[7:], run(*calls, *after)[5:])

    def test_each_end_by_itself(self):
        calls = [put(1, [1, 2]), came(1, []), finish(0)]
        self.assertEqual((told(*calls)["told"], told(*calls)["unanswered"], told(*calls)["dropped"]), (1, 0, 0))
        self.tells([2, 0, 0, 0, 0, 1, 0], *calls, end=1)
