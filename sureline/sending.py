"""What goes out of an end: its own bytes, and the pieces that are on their way."""

from sureline.packets import ANSWER, BYTES, END, PIECE, QUESTION

UNANSWERED = 65536
ON_THEIR_WAY = 8
FIRST_LIMIT = 4096
FIRST_WAIT = 4
LONGEST_WAIT = 64
ASK_WAIT = 16


# A piece tells its bytes by number and size alone: they are read anew each time it's sent.
class Piece:
    def __init__(self, kind, number, size, due):
        self.kind = kind
        self.number = number
        self.size = size
        self.due = due
        self.times_sent = 1


def wait_after(times_sent):
    wait = FIRST_WAIT
    for doubling in range(times_sent - 1):
        wait = min(wait * 2, LONGEST_WAIT)
    return wait


# What a packet tells of this side: its kind, its number, its bytes.
class Part:
    def __init__(self, kind, number, octets):
        self.kind = kind
        self.number = number
        self.octets = octets


class Sending:
    def __init__(self):
        self.first = 0
        self.octets = []
        self.unsent = 0
        self.pieces = []
        self.limit = FIRST_LIMIT
        self.told = False
        self.end_sent = False
        self.ask_time = 0

    def put(self, octets):
        if len(octets) > UNANSWERED:
            return -1
        if self.told:
            return -6
        if len(self.octets) + len(octets) > UNANSWERED:
            return -5
        self.octets.extend(octets)
        return 0

    def finish(self):
        if self.told:
            return -6
        self.told = True
        return 0

    def bytes_unsent(self):
        return self.first + len(self.octets) - self.unsent

    # The packets of a tick, ahead of an answer, in their order.
    def parts_at(self, time):
        parts = self.parts_again(time)
        parts.extend(self.new_parts(time))
        if len(self.pieces) == 0 and self.bytes_unsent() > 0 and self.ask_time <= time:
            self.ask_time = time + ASK_WAIT
            parts.append(Part(QUESTION, self.unsent, []))
        return parts

    def answer_part(self):
        return Part(ANSWER, self.unsent, [])

    def parts_again(self, time):
        parts = []
        for piece in self.pieces:
            if piece.due <= time:
                piece.times_sent += 1
                piece.due = time + wait_after(piece.times_sent)
                parts.append(self.part_of(piece))
        return parts

    # Where bytes of a piece are forgotten it keeps its number and its size, and the bytes behind are sent.
    def part_of(self, piece):
        if piece.kind == END:
            return Part(END, piece.number, [])
        start = max(piece.number - self.first, 0)
        return Part(BYTES, piece.number, self.octets[start:start + piece.size])

    def new_parts(self, time):
        parts = []
        while len(self.pieces) < ON_THEIR_WAY:
            piece = self.new_piece(time + FIRST_WAIT)
            if piece is None:
                break
            self.pieces.append(piece)
            self.unsent += piece.size
            parts.append(self.part_of(piece))
        return parts

    def new_piece(self, due):
        size = min(self.bytes_unsent(), self.limit - self.unsent, PIECE)
        if size > 0:
            return Piece(BYTES, self.unsent, size, due)
        if self.told and self.bytes_unsent() == 0 and not self.end_sent:
            self.end_sent = True
            return Piece(END, self.unsent, 1, due)
        return None

    # A wanted number that was told before, or that was never sent, says nothing of what has arrived.
    def answered(self, wanted, room):
        if wanted < self.first or wanted > self.unsent:
            return
        self.octets = self.octets[wanted - self.first:]
        self.first = wanted
        self.pieces = [piece for piece in self.pieces if piece.number + piece.size > wanted]
        self.limit = max(self.limit, wanted + room)
