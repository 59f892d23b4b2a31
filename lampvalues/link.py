"""A link: how long its messages are, whether it's safe, and what waits."""

LEAST_LENGTH = 23
MOST_LENGTH = 247
MOST_PIECES = 16


class Piece:
    def __init__(self, handle, place, value):
        self.handle = handle
        self.place = place
        self.value = value


class Link:
    def __init__(self, safe):
        self.safe = safe
        self.length = LEAST_LENGTH
        self.pieces = []
        self.unconfirmed = False

    def take_length(self, asked):
        self.length = max(LEAST_LENGTH, min(asked, MOST_LENGTH))

    def is_full(self):
        return len(self.pieces) >= MOST_PIECES

    def take_piece(self, piece):
        self.pieces.append(piece)

    def give_up_pieces(self):
        given_up = self.pieces
        self.pieces = []
        return given_up

    def await_confirm(self):
        self.unconfirmed = True

    def take_confirm(self):
        self.unconfirmed = False
