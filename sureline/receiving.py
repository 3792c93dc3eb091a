"""What comes in at an end: pieces put in their order, and the bytes that may be taken."""

from sureline.packets import BYTES, END, PIECE

ROOM = 4096
TURNS = 65


class Receiving:
    def __init__(self):
        self.wanted = 0
        self.kept = {}
        self.ready = []
        self.end_number = None
        self.complete = False

    def room_left(self):
        return ROOM - len(self.ready)

    def accept(self, packet):
        if packet.kind == BYTES:
            self.keep(packet)
            self.bring_to_turn()
        if packet.kind == END:
            self.note_end(packet.number)
            self.bring_to_turn()

    def keep(self, packet):
        behind = packet.number + len(packet.octets)
        if packet.number < self.wanted or behind > self.wanted + self.room_left():
            return
        if packet.number in self.kept or self.complete:
            return
        self.kept[packet.number] = packet.octets

    def note_end(self, number):
        if number >= self.wanted and not self.complete:
            self.end_number = number

    def bring_to_turn(self):
        turns = 0
        while turns < TURNS and self.wanted in self.kept:
            octets = self.kept.pop(self.wanted)
            self.ready.extend(octets)
            self.wanted += len(octets)
            turns += 1
        if turns < TURNS and self.wanted == self.end_number:
            self.complete = True
            self.wanted += 1

    # None if there's nothing to be taken and all has come.
    def take(self, most):
        if len(self.ready) == 0 and self.complete:
            return None
        taken = self.ready[:most]
        self.ready = self.ready[most:]
        return taken

    # Where there's no room for a whole piece the other end may be waiting to be told of more.
    def is_short(self):
        return self.room_left() < PIECE
