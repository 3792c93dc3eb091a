"""The whole program: what the ends send and take, beside what open_of and wire tell of it."""

import inspect
import unittest

from sureline import codes, ends
from sureline.codes import mend, open_of, parity, sum_of, wire
from tests.helper import (ANSWER, BYTES, END, QUESTION, Draw, altered, begin, came, changed, finish, is_right, last,
                          packet, pattern, put, read, rows_of, run, sent, spoilt, take, tell, tick, told)

NAMES = (0, 1, 0x04030201, 2 ** 32 - 1)


def opened(*calls):
    """What open_of tells of the rows that the last of the calls, a tick, sends."""
    return [open_of(row) for row in rows_of(last(*calls))]


def all_sent_to_the_limit(name):
    """5000 bytes put, of which as many as may are sent and answered for; three ticks."""
    calls = [begin(0, name), put(0, pattern(5000))]
    for wanted in (1520, 3040, 4096):
        calls += [tick(0), came(0, wire(name, ANSWER, 0, wanted, 0, [])[2:])]
    return calls


class TheInterface(unittest.TestCase):
    def test_functions_and_their_parameters(self):
        told_of = {ends.answers: ["calls"], codes.times: ["a", "b"], codes.parity: ["octets"], codes.mend: ["octets"],
                   codes.sum_of: ["octets"], codes.open_of: ["octets"],
                   codes.wire: ["name", "kind", "number", "wanted", "room", "octets"]}
        for function, names in told_of.items():
            parameters = inspect.signature(function).parameters
            self.assertEqual(list(parameters), names)
            self.assertTrue(all(each.default is each.empty for each in parameters.values()))


class WhatIsSent(unittest.TestCase):
    def test_bytes_and_the_end(self):
        octets = pattern(200)
        for name in NAMES:
            self.assertEqual(opened(begin(0, name), put(0, octets), finish(0), tick(0)),
                             [[0, 5, name, BYTES, 0, 0, 4096, 190] + octets[:190],
                              [0, 5, name, BYTES, 190, 0, 4096, 10] + octets[190:],
                              [0, 5, name, END, 200, 0, 4096, 0]])

    def test_pieces_again(self):
        for name in NAMES:
            calls = [begin(0, name), put(0, [8, 9]), tick(0), came(0, wire(name, BYTES, 0, 0, 0, [4] * 50)[2:])]
            self.assertEqual(opened(*calls, *[tick(0)] * 4), [[0, 5, name, BYTES, 0, 50, 4046, 2, 8, 9]])

    def test_a_question(self):
        for name in NAMES:
            calls = all_sent_to_the_limit(name)
            self.assertEqual(opened(*calls, tick(0)), [[0, 5, name, QUESTION, 4096, 0, 4096, 0]])

    def test_an_answer(self):
        for name in NAMES:
            calls = [begin(1, name), came(1, wire(name, BYTES, 0, 0, 0, [7] * 30)[2:]), take(1, 10)]
            self.assertEqual(opened(*calls, tick(1)), [[0, 5, name, ANSWER, 0, 30, 4076, 0]])

    def test_each_row_is_what_wire_makes_of_it(self):
        for calls in ([put(0, pattern(1500)), finish(0), tick(0)], [finish(0), tick(0)],
                      [came(0, packet(QUESTION)), tick(0)], all_sent_to_the_limit(9) + [tick(0)]):
            for row in rows_of(last(*calls)):
                given = open_of(row)
                self.assertEqual(wire(*given[2:7], given[8:]), [0, len(row)] + row)
                self.assertEqual(tuple(given[2:7]) + (given[8:],), read(row))

    def test_each_row_by_the_other_calls(self):
        for row in rows_of(last(put(0, pattern(1000)), finish(0), tick(0))):
            body = row[:-20]
            total = sum_of(body)[0]
            self.assertEqual(row[-20:-16], [total // 256 ** at % 256 for at in range(4)])
            self.assertEqual(parity(row[:-16]), [0, 16] + row[-16:])
            self.assertEqual(mend(row), [0, len(row)] + row)
            self.assertTrue(is_right(row))


class WhatComes(unittest.TestCase):
    def test_at_an_end_of_its_name(self):
        for name in NAMES:
            for kind, octets in ((ANSWER, []), (BYTES, [5]), (BYTES, pattern(190)), (END, []), (QUESTION, [])):
                row = wire(name, kind, 0, 0, 4096, octets)[2:]
                self.assertEqual(last(begin(0, name), came(0, row)), [0])
                self.assertEqual(told(begin(0, name), came(0, row))["dropped"], 0)

    def test_at_an_end_of_another_name(self):
        for name in NAMES:
            for other in NAMES:
                row = wire(name, BYTES, 0, 0, 4096, [5])[2:]
                calls = [begin(0, other), came(0, changed(row, [0, 1]))]
                self.assertEqual(last(*calls), [0] if name == other else [-6])
                self.assertEqual(told(*calls)["dropped"], 0 if name == other else 1)
                self.assertEqual(told(*calls)["mended"], 2 if name == other else 0)
                self.assertEqual(told(*calls)["ready"], 1 if name == other else 0)

    def test_bytes_and_the_end(self):
        octets = pattern(300)
        given = [wire(6, BYTES, 190, 0, 0, octets[190:]), wire(6, END, 300, 0, 0, []),
                 wire(6, BYTES, 0, 0, 0, octets[:190])]
        calls = [begin(1, 6)] + [came(1, each[2:]) for each in given]
        self.assertEqual(run(*calls, take(1, 999), take(1, 999))[-2:], [[300, 300] + octets, [-7]])
        self.assertEqual(told(*calls, end=1)["complete"], 1)

    def test_it_comes_where_it_opens(self):
        draw = Draw(30)
        for kind in (0, 1, 2, 3, 4, 255):
            for size in (0, 1, 100, 190):
                row = wire(0, kind, draw.below(9), draw.below(9), draw.below(9), pattern(size, size))[2:]
                for count in (0, 1, 8, 9, 12):
                    bad = altered(row, draw.some_of(range(len(row)), count), draw)
                    given = open_of(bad)
                    self.assertEqual(last(came(0, bad)), [0] if len(given) > 1 else [-6])
                    self.assertEqual(told(came(0, bad))["mended"], given[0] if len(given) > 1 else 0)
        for size in (0, 1, 42, 43, 233, 234, 255, 256, 300):
            self.assertEqual(last(came(0, pattern(size))), open_of(pattern(size)))

    def test_numbers_at_their_highest(self):
        top = 2 ** 64 - 1
        for kind, octets in ((ANSWER, []), (BYTES, [5] * 190), (END, []), (QUESTION, [])):
            calls = [put(0, [1, 2]), tick(0), came(0, wire(0, kind, top, top, 65535, octets)[2:])]
            self.assertEqual(run(*calls, tell(0))[2:], [[0], [0, 7, 2, 1, 0, 0, 0, 0, 0]])


class TheTestAsTheOtherEnd(unittest.TestCase):
    """End 0 puts bytes and tells its end; what it sends is opened, and answered, by these calls alone."""

    def talk(self, size, spoils, draw):
        octets = pattern(size)
        calls = [begin(0, 5), put(0, octets), finish(0)]
        got = []
        ended = False
        for turn in range(400):
            calls.append(tick(0))
            for row in rows_of(last(*calls)):
                opened_row = open_of(spoilt(row, draw, spoils))
                if len(opened_row) < 7:
                    continue
                kind, number = opened_row[3:5]
                if kind == BYTES and number == len(got):
                    got += opened_row[8:]
                ended = ended or kind == END and number == len(got)
                reply = wire(5, ANSWER, 0, len(got) + (1 if ended else 0), 4096, [])
                calls.append(came(0, spoilt(reply[2:], draw, spoils)))
            if ended:
                break
        self.assertEqual(got, octets)
        self.assertEqual(sent(*calls, tick(0)), [])
        return told(*calls)

    def test_all_comes(self):
        for size in (0, 1, 190, 191, 4096, 5000):
            self.assertEqual(self.talk(size, 0, Draw(31)), {"unanswered": 0, "pieces": 0, "ready": 0, "told": 1,
                                                            "complete": 0, "dropped": 0, "mended": 0})

    def test_all_comes_though_bytes_are_changed(self):
        for size in (0, 1, 700, 2000):
            tells = self.talk(size, 8, Draw(size))
            self.assertEqual((tells["unanswered"], tells["dropped"]), (0, 0))
            self.assertGreater(tells["mended"], 0)


class NothingIsKept(unittest.TestCase):
    def test_between_calls_of_all_kinds(self):
        row = wire(0, BYTES, 0, 0, 4096, pattern(20))[2:]
        asked = [(codes.times, (3, 7)), (codes.parity, (row,)), (codes.mend, (changed(row, [1, 2]),)),
                 (codes.sum_of, (row,)), (codes.wire, (0, 1, 2, 3, 4, row)), (codes.open_of, (changed(row, [5]),)),
                 (ends.answers, ([4, 0] + came(0, row) + [6, 0, 9] + put(1, row) + [4, 1, 3, 1, 7, 1],))]
        alone = [function(*handed) for function, handed in asked]
        for turn in range(3):
            for function, handed in asked[turn:] + asked[::-1]:
                self.assertEqual(function(*handed), alone[asked.index((function, handed))])
