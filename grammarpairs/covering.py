"""Which pieces the symbols of a grammar cover. A piece is a tuple of bytes."""

from grammarpairs.grammar import START
from grammarpairs.marks import Marks

NO_BYTES = ()


class Covering:
    """What is learnt of pieces, the shorter ones first.

    Only the bytes of a piece count, not where it stands, so what is learnt of it holds in every text. `reached` has,
    for each piece, the marks whose rule covers it with the symbols ahead of the mark; `passed` has those whose next
    symbol covers it.
    """

    def __init__(self, grammar):
        self.marks = Marks(grammar)
        self.reached = {NO_BYTES: self.marks.firsts}
        self.passed = {NO_BYTES: 0}
        self.settle(NO_BYTES)

    def learn(self, piece):
        """Learn what covers a piece; all shorter ones within it are learnt already."""
        if piece in self.reached:
            return
        reached = 0
        for place in range(1, len(piece)):
            reached = reached | self.stepped(piece[:place], piece[place:])
        self.reached[piece] = reached
        self.passed[piece] = self.marks.ahead_of_byte(piece[0]) if len(piece) == 1 else 0
        self.settle(piece)

    def stepped(self, first, last):
        """Give the marks reached over the first piece and then, by one symbol more, over the last."""
        return (self.reached[first] & self.passed[last]) << 1

    def settle(self, piece):
        """Add what follows from the piece itself beside one without bytes, until nothing does.

        Growing from nothing gives just what follows in finitely many steps, whatever leads back to itself.
        """
        grown = True
        while grown:
            reached = self.reached[piece] | self.stepped(NO_BYTES, piece) | self.stepped(piece, NO_BYTES)
            passed = self.passed[piece] | self.marks.ahead_of_ended(reached)
            grown = reached != self.reached[piece] or passed != self.passed[piece]
            self.reached[piece] = reached
            self.passed[piece] = passed

    def start_ends(self, text):
        """Give the ends of those rules of the start that cover a learnt text."""
        return self.reached[text] & self.marks.ends_of[START]

    def covers_whole(self, text):
        return self.start_ends(text) != 0


def reads_text(grammar, text):
    covering = Covering(grammar)
    for size in range(1, len(text) + 1):
        for begin in range(len(text) - size + 1):
            covering.learn(text[begin:begin + size])
    return covering.covers_whole(text)
