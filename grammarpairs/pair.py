"""What is held while a list of calls is answered."""

from grammarpairs.grammar import Grammar

MOST_BEFORE = 16


class Pair:
    """The left and the right grammar, and the left ones before, the latest first."""

    def __init__(self):
        self.left = Grammar(1, [])
        self.right = Grammar(1, [])
        self.before = []

    def become_left(self, grammar):
        remembered = [self.left] + self.before
        self.before = remembered[:MOST_BEFORE]
        self.left = grammar

    def go_back(self):
        """Let the latest left one before be the left one again; the one that was is not remembered."""
        self.left = self.before[0]
        self.before = self.before[1:]

    def change_sides(self):
        was_left = self.left
        self.become_left(self.right)
        self.right = was_left
