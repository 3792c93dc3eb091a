"""Runs between the two ends over a line that loses, doubles, delays, mixes and changes packets."""

import unittest

from sureline.codes import open_of
from sureline.ends import Link
from tests.helper import (BYTES, END, Draw, altered, answers, begin, came, finish, flat, packet, parted, pattern, put,
                          rows_of, spoilt, take, tell, tick)


class Run:
    """The two ends of one link, and the packets between them; every call and its answer is written down."""

    def __init__(self, seed, name):
        self.draw = Draw(seed)
        self.name = name
        self.link = Link()
        self.calls = []
        self.given = []
        self.put = [[], []]
        self.taken = [[], []]
        self.told = [False, False]
        self.under_way = [[], []]
        self.dropped = [0, 0]
        self.mended = [0, 0]
        self.call(begin(0, name))
        self.call(begin(1, name))

    def call(self, call):
        self.calls.append(call)
        self.given.append(self.link.answer_to(call))
        return self.given[-1]

    def put_some(self, end, octets):
        if self.call(put(end, octets)) == [0]:
            self.put[end] += octets

    def finish(self, end):
        self.call(finish(end))
        self.told[end] = True

    def tick(self, end):
        rows = rows_of(self.call(tick(end)))
        for row in rows:
            assert open_of(row)[:3] == [0, 5, self.name], "what's sent is no packet of this name"
        self.under_way[1 - end] += rows

    def come(self, end, row):
        """The row comes, and what's answered is what open_of tells of it."""
        given = open_of(row)
        fits = len(given) > 1 and given[2] == self.name
        assert self.call(came(end, row)) == ([0] if fits else [-6]), "it doesn't come as it opens"
        if fits:
            self.mended[end] += given[0]
        else:
            self.dropped[end] += 1

    def take_some(self, end, most):
        answer = self.call(take(end, most))
        self.taken[end] += answer[2:]

    def deliver(self, end, line):
        """One of the packets that are under way to this end, as the line would have it."""
        rows = self.under_way[end]
        if not rows:
            return
        at = self.draw.below(len(rows)) if line.mixes else 0
        row = rows[at] if self.draw.chance(line.doubles) else rows.pop(at)
        if self.draw.chance(line.loses):
            return
        if self.draw.chance(line.changes):
            row = spoilt(row, self.draw, line.spoils)
        self.come(end, row)

    def deliver_all(self):
        for end in (0, 1):
            for row in self.under_way[end]:
                self.come(end, row)
            self.under_way[end] = []


class Line:
    """Of each hundred packets so many are lost, come again, are changed; in these up to so many bytes."""

    def __init__(self, loses=0, doubles=0, changes=0, mixes=False, spoils=12):
        self.loses = loses
        self.doubles = doubles
        self.changes = changes
        self.mixes = mixes
        self.spoils = spoils


class Runs(unittest.TestCase):
    def check(self, run):
        for end in (0, 1):
            self.assertEqual(run.taken[end], run.put[1 - end][:len(run.taken[end])])
            tells = run.call(tell(end))[2:]
            if tells[4]:
                self.assertTrue(run.told[1 - end])
                self.assertEqual(len(run.taken[end]) + tells[2], len(run.put[1 - end]))
            self.assertEqual(tells[3], 1 if run.told[end] else 0)
            self.assertEqual(tells[5:], [run.dropped[end], run.mended[end]])
            self.assertLessEqual(tells[0], 65536)
            self.assertLessEqual(tells[1], 8)
            self.assertLessEqual(tells[2], 4096)

    def step(self, run, line):
        draw = run.draw
        end = draw.below(2)
        choice = draw.below(12)
        if choice == 0:
            run.put_some(end, pattern(draw.one_of([0, 1, 5, 190, 191, 700, 3000]), draw.below(1000)))
        elif choice < 5:
            run.tick(end)
        elif choice < 11:
            run.deliver(end, line)
        else:
            run.take_some(end, draw.one_of([0, 1, 50, 189, 190, 2000, 2 ** 64 - 1]))

    def all_comes(self, run):
        """Nothing is lost any more: all comes, and all that has come is told."""
        for _ in range(400):
            for end in (0, 1):
                run.tick(end)
            run.deliver_all()
            for end in (0, 1):
                run.take_some(end, 2 ** 64 - 1)
        self.check(run)
        for end in (0, 1):
            self.assertEqual(run.taken[end], run.put[1 - end])
            tells = run.call(tell(end))[2:]
            self.assertEqual(tells[:3], [0, 0, 0])
            self.assertEqual(tells[4], 1 if run.told[1 - end] else 0)

    def run_over(self, line, seed, steps=400):
        run = Run(seed, seed)
        for i in range(steps):
            self.step(run, line)
            if i % 50 == 0:
                self.check(run)
        self.check(run)
        run.finish(0)
        for i in range(steps // 4):
            self.step(run, line)
        self.check(run)
        self.all_comes(run)
        if seed % 2:
            run.finish(1)
            self.all_comes(run)
        self.assertEqual(parted(answers(flat(run.calls))), run.given)
        return run

    def test_nothing_happens_to_the_packets(self):
        for seed in range(2):
            self.run_over(Line(), seed)

    def test_packets_are_lost(self):
        for seed in range(10, 13):
            self.run_over(Line(loses=40), seed)

    def test_packets_come_twice_or_late(self):
        for seed in range(20, 23):
            self.run_over(Line(doubles=60), seed)

    def test_packets_come_in_another_order(self):
        for seed in range(30, 33):
            self.run_over(Line(mixes=True), seed)

    def test_packets_are_changed(self):
        for seed in range(40, 43):
            self.run_over(Line(changes=60), seed)

    def test_up_to_eight_changed_bytes_are_mended(self):
        for seed in range(70, 72):
            run = self.run_over(Line(changes=100, spoils=8), seed)
            self.assertEqual(run.dropped, [0, 0])
            self.assertGreater(min(run.mended), 0)

    def test_each_packet_ever_sent_may_come_again(self):
        for seed in range(80, 83):
            self.run_over(Line(doubles=95, mixes=True), seed)

    def test_bytes_that_are_no_packet_are_dropped(self):
        run = Run(90, 4)
        for end in (0, 1):
            run.put_some(end, pattern(3000, end))
        for turn in range(60):
            for end in (0, 1):
                strange = [pattern(run.draw.below(256), turn), packet(BYTES, turn, octets=[1] * 9, name=5),
                           packet(END, turn, name=0), packet(BYTES, turn, octets=[1], name=4, off=1), packet(9, name=4),
                           altered(packet(END, turn, name=4), run.draw.some_of(range(43), 9), run.draw)]
                run.come(end, run.draw.one_of(strange))
                run.tick(end)
            if turn % 3 == 0:
                run.deliver_all()
        self.assertEqual(run.dropped, [60, 60])
        self.check(run)
        run.finish(1)
        self.all_comes(run)

    def test_all_of_it(self):
        for seed in range(50, 56):
            self.run_over(Line(loses=25, doubles=30, changes=30, mixes=True), seed)

    def test_a_line_that_was_dead(self):
        run = Run(60, 1)
        for end in (0, 1):
            run.put_some(end, pattern(9000, end))
            run.finish(end)
        for _ in range(300):
            run.tick(0)
            run.tick(1)
            run.under_way = [[], []]
        self.all_comes(run)

    def test_bytes_that_are_taken_late(self):
        run = Run(61, 1)
        run.put_some(0, pattern(9000))
        run.finish(0)
        for _ in range(100):
            run.tick(0)
            run.tick(1)
            run.deliver_all()
        self.check(run)
        self.assertEqual(run.call(tell(1))[2:5], [0, 0, 4096])
        self.assertEqual(run.call(tell(0))[2:5], [9000 - 4096, 0, 0])
        self.all_comes(run)

    def test_the_other_end_learns_of_room_though_its_answer_is_lost(self):
        run = Run(62, 1)
        run.put_some(0, pattern(5000))
        for _ in range(20):
            run.tick(0)
            run.tick(1)
            run.deliver_all()
        run.take_some(1, 4096)
        run.tick(1)
        run.under_way[0].clear()
        for _ in range(40):
            run.tick(0)
            run.tick(1)
            run.deliver_all()
            run.take_some(1, 4096)
        self.assertEqual(run.taken[1], run.put[0])
