"""The calls on one object with two ends: one list of whole numbers, answered call by call."""

from sureline.linkend import LinkEnd
from sureline.packets import NAMES
from sureline.rows import Code

BEGIN = 1
PUT = 2
FINISH = 3
TICK = 4
CAME = 5
TAKE = 6


class Link:
    def __init__(self):
        self.code = Code()
        self.ends = [LinkEnd(self.code, 0), LinkEnd(self.code, 0)]

    def begin(self, which, name):
        if name >= NAMES:
            return [-1]
        self.ends[which] = LinkEnd(self.code, name)
        return [0]

    def answer_to(self, call):
        number = call[0]
        if number == BEGIN:
            return self.begin(call[1], call[2])
        end = self.ends[call[1]]
        if number == PUT:
            return end.put(call[3:])
        if number == FINISH:
            return end.finish()
        if number == TICK:
            return end.tick()
        if number == CAME:
            return end.came(call[3:])
        if number == TAKE:
            return end.take(call[2])
        return end.tell()


# How many numbers the call has that begins at this place of the list.
def size_of(calls, at):
    number = calls[at]
    if number == PUT or number == CAME:
        return 3 + calls[at + 2]
    if number == BEGIN or number == TAKE:
        return 3
    return 2


def answers(calls):
    link = Link()
    given = []
    at = 0
    while at < len(calls):
        size = size_of(calls, at)
        answer = link.answer_to(calls[at:at + size])
        given.append(len(answer))
        given.extend(answer)
        at += size
    return given
