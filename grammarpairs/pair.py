"""What is held while a list of calls is answered."""

from grammarpairs.grammar import Grammar

MOST_BEFORE = 16


class Pair:
    """The left and the right grammar, and the left ones before, the latest first."""

    def __init__(self):
        self.left = Grammar(1, [])
        self.right = Grammar(1, [])
        self.before = []

    def become_left(self, grammar):
        remembered = [self.left] + self.before
        self.before = remembered[:MOST_BEFORE]
        self.left = grammar
