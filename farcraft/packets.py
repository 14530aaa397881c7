"""Packets: put together from the bodies that a craft takes, and waiting to be given."""

MOST_WAITING = 8
MOST_PACKET_BYTES = 4096
FIRST_PIECE = 1
LAST_PIECE = 2
WHOLE_PACKET = 3


class Packets:
    """The packets that wait, the longest first, and of each list the pieces that are there."""

    def __init__(self):
        self.waiting = []
        # A list stands here only while a first piece of it is there, be that without a byte.
        self.pieces = {}

    def has_room(self):
        return len(self.waiting) < MOST_WAITING

    def take_body(self, body):
        if body == []:
            return
        list_number = body[0] & 63
        kind = body[0] >> 6
        piece = body[1:]
        if kind == WHOLE_PACKET:
            self.pieces.pop(list_number, None)
            self.let_wait(list_number, piece)
        elif kind == FIRST_PIECE:
            self.pieces[list_number] = piece
        elif list_number in self.pieces:
            self.add_piece(list_number, piece, kind == LAST_PIECE)

    def add_piece(self, list_number, piece, is_last):
        together = self.pieces.pop(list_number) + piece
        if len(together) > MOST_PACKET_BYTES:
            return
        if is_last:
            self.let_wait(list_number, together)
        else:
            self.pieces[list_number] = together

    def let_wait(self, list_number, packet):
        if self.has_room():
            self.waiting.append([list_number] + packet)
