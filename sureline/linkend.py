"""One end of a link: what it sends, what it receives, and the answers to the calls on it."""

from sureline.packets import ANSWER, Packet, packet_of, row_of
from sureline.receiving import Receiving
from sureline.rows import LONGEST_ROW
from sureline.sending import Sending


class LinkEnd:
    def __init__(self, code, name):
        self.code = code
        self.name = name
        self.time = 0
        self.sending = Sending()
        self.receiving = Receiving()
        self.owes = False
        self.dropped = 0
        self.mended = 0

    def put(self, octets):
        return [self.sending.put(octets)]

    def finish(self):
        return [self.sending.finish()]

    def tick(self):
        self.time += 1
        parts = self.sending.parts_at(self.time)
        if len(parts) == 0 and self.owes:
            parts.append(self.sending.answer_part())
        # Either something goes out now, or none was owed.
        self.owes = False
        answer = [len(parts)]
        for part in parts:
            row = self.sent_as(part)
            answer.append(len(row))
            answer.extend(row)
        return answer

    def sent_as(self, part):
        packet = Packet(self.name, part.kind, part.number, self.receiving.wanted,
                        self.receiving.room_left(), part.octets)
        return row_of(self.code, packet)

    def came(self, octets):
        if len(octets) > LONGEST_ROW:
            return [-1]
        found = packet_of(self.code, octets)
        if found is None or found[1].name != self.name:
            self.dropped += 1
            return [-6]
        self.mended += found[0]
        self.accept_packet(found[1])
        return [0]

    def accept_packet(self, packet):
        self.sending.answered(packet.wanted, packet.room)
        if packet.kind != ANSWER:
            self.owes = True
        self.receiving.accept(packet)

    def take(self, most):
        was_short = self.receiving.is_short()
        taken = self.receiving.take(most)
        if taken is None:
            return [-7]
        if was_short and not self.receiving.is_short():
            self.owes = True
        return [len(taken), len(taken)] + taken

    def tell(self):
        told = 1 if self.sending.told else 0
        complete = 1 if self.receiving.complete else 0
        told_of = [len(self.sending.octets), len(self.sending.pieces), len(self.receiving.ready),
                   told, complete, self.dropped, self.mended]
        return [0, len(told_of)] + told_of
