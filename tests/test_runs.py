"""Runs between the two ends over a line that loses, doubles, delays, mixes and changes packets."""

import unittest

from sureline.ends import Link
from tests.helper import (Draw, answers, begin, came, finish, flat, parted, pattern, put, rows_of, spoilt, take, tell,
                          tick)


class Run:
    """The two ends of one link, and the packets between them; every call and its answer is written down."""

    def __init__(self, seed, name):
        self.draw = Draw(seed)
        self.link = Link()
        self.calls = []
        self.given = []
        self.put = [[], []]
        self.taken = [[], []]
        self.told = [False, False]
        self.under_way = [[], []]
        self.call(begin(0, name))
        self.call(begin(1, name))

    def call(self, call):
        self.calls.append(call)
        self.given.append(self.link.answer_to(call))
        return self.given[-1]

    def put_some(self, end, octets):
        if self.call(put(end, octets)) == [0]:
            self.put[end] += octets

    def finish(self, end):
        self.call(finish(end))
        self.told[end] = True

    def tick(self, end):
        self.under_way[1 - end] += rows_of(self.call(tick(end)))

    def take_some(self, end, most):
        answer = self.call(take(end, most))
        self.taken[end] += answer[2:]

    def deliver(self, end, line):
        """One of the packets that are under way to this end, as the line would have it."""
        rows = self.under_way[end]
        if not rows:
            return
        at = self.draw.below(len(rows)) if line.mixes else 0
        row = rows[at] if self.draw.chance(line.doubles) else rows.pop(at)
        if self.draw.chance(line.loses):
            return
        if self.draw.chance(line.changes):
            row = spoilt(row, self.draw, 12)
        self.call(came(end, row))

    def deliver_all(self):
        for end in (0, 1):
            for row in self.under_way[end]:
                self.call(came(end, row))
            self.under_way[end] = []


class Line:
    """Of each hundred packets so many are lost, come again, are changed."""

    def __init__(self, loses=0, doubles=0, changes=0, mixes=False):
        self.loses = loses
        self.doubles = doubles
        self.changes = changes
        self.mixes = mixes


class Runs(unittest.TestCase):
    def check(self, run):
        for end in (0, 1):
            self.assertEqual(run.taken[end], run.put[1 - end][:len(run.taken[end])])
            tells = run.call(tell(end))[2:]
            if tells[4]:
                self.assertTrue(run.told[1 - end])
                self.assertEqual(len(run.taken[end]) + tells[2], len(run.put[1 - end]))
            self.assertLessEqual(tells[0], 65536)
            self.assertLessEqual(tells[1], 8)
            self.assertLessEqual(tells[2], 4096)

    def step(self, run, line):
        draw = run.draw
        end = draw.below(2)
        choice = draw.below(12)
        if choice == 0:
            run.put_some(end, pattern(draw.one_of([0, 1, 5, 190, 191, 700, 3000]), draw.below(1000)))
        elif choice < 5:
            run.tick(end)
        elif choice < 11:
            run.deliver(end, line)
        else:
            run.take_some(end, draw.one_of([0, 1, 50, 189, 190, 2000, 2 ** 64 - 1]))

    def all_comes(self, run):
        """Nothing is lost any more: all comes, and all that has come is told."""
        for _ in range(400):
            for end in (0, 1):
                run.tick(end)
            run.deliver_all()
            for end in (0, 1):
                run.take_some(end, 2 ** 64 - 1)
        self.check(run)
        for end in (0, 1):
            self.assertEqual(run.taken[end], run.put[1 - end])
            tells = run.call(tell(end))[2:]
            self.assertEqual(tells[:3], [0, 0, 0])
            self.assertEqual(tells[4], 1 if run.told[1 - end] else 0)

    def run_over(self, line, seed, steps=400):
        run = Run(seed, seed)
        for i in range(steps):
            self.step(run, line)
            if i % 50 == 0:
                self.check(run)
        self.check(run)
        run.finish(0)
        for i in range(steps // 4):
            self.step(run, line)
        self.check(run)
        self.all_comes(run)
        if seed % 2:
            run.finish(1)
            self.all_comes(run)
        self.assertEqual(parted(answers(flat(run.calls))), run.given)

    def test_nothing_happens_to_the_packets(self):
        for seed in range(4):
            self.run_over(Line(), seed)

    def test_packets_are_lost(self):
        for seed in range(10, 16):
            self.run_over(Line(loses=40), seed)

    def test_packets_come_twice_or_late(self):
        for seed in range(20, 26):
            self.run_over(Line(doubles=60), seed)

    def test_packets_come_in_another_order(self):
        for seed in range(30, 36):
            self.run_over(Line(mixes=True), seed)

    def test_packets_are_changed(self):
        for seed in range(40, 46):
            self.run_over(Line(changes=60), seed)

    def test_all_of_it(self):
        for seed in range(50, 60):
            self.run_over(Line(loses=25, doubles=30, changes=30, mixes=True), seed)

    def test_a_line_that_was_dead(self):
        run = Run(60, 1)
        for end in (0, 1):
            run.put_some(end, pattern(9000, end))
            run.finish(end)
        for _ in range(300):
            run.tick(0)
            run.tick(1)
            run.under_way = [[], []]
        self.all_comes(run)

    def test_bytes_that_are_taken_late(self):
        run = Run(61, 1)
        run.put_some(0, pattern(9000))
        run.finish(0)
        for _ in range(100):
            run.tick(0)
            run.tick(1)
            run.deliver_all()
        self.check(run)
        self.assertEqual(run.call(tell(1))[2:5], [0, 0, 4096])
        self.assertEqual(run.call(tell(0))[2:5], [9000 - 4096, 0, 0])
        self.all_comes(run)

    def test_the_other_end_learns_of_room_though_its_answer_is_lost(self):
        run = Run(62, 1)
        run.put_some(0, pattern(5000))
        for _ in range(20):
            run.tick(0)
            run.tick(1)
            run.deliver_all()
        run.take_some(1, 4096)
        run.tick(1)
        run.under_way[0].clear()
        for _ in range(40):
            run.tick(0)
            run.tick(1)
            run.deliver_all()
            run.take_some(1, 4096)
        self.assertEqual(run.taken[1], run.put[0])
