"""Which rules are used by texts."""

from grammarpairs.covering import Covering


class Using:
    """The marks that stand in trees of the start over the texts gone through so far.

    A mark stands over a piece if in some such tree its rule covers the piece with the symbols ahead of the mark.
    What lies below a mark that stands was followed when it came to stand, so no later text follows it again.
    """

    def __init__(self, grammar):
        self.covering = Covering(grammar)
        self.standing = {}
        self.waiting = []
        self.used = 0

    def stand(self, piece, marks):
        """Let marks stand over a piece; the new ones wait to be followed."""
        known = self.standing.get(piece, 0)
        new = marks & ~known
        if new:
            self.standing[piece] = known | new
            self.used = self.used | new
            self.waiting.append((piece, new))

    def follow(self, piece, marks):
        """Go back by one symbol from these marks, for each way to part the piece before that symbol."""
        for place in range(len(piece) + 1):
            first = piece[:place]
            last = piece[place:]
            back = (marks >> 1) & self.covering.reached[first] & self.covering.passed[last]
            if back:
                self.stand(first, back)
                ends = self.covering.marks.ends_of_next(back)
                self.stand(last, ends & self.covering.reached[last])

    def rules_first_used(self, text):
        """Give the rules that this text uses and none before did; all shorter pieces of it came before."""
        used_before = self.used
        self.covering.learn(text)
        self.stand(text, self.covering.start_ends(text))
        while self.waiting:
            waited = self.waiting.pop()
            self.follow(waited[0], waited[1])
        new = self.used & ~used_before
        return [rule for rule, end in enumerate(self.covering.marks.rule_ends) if new & end]


def first_uses(grammar, texts):
    """Give, in order, each text that uses rules that none before uses, with these rules."""
    using = Using(grammar)
    uses = []
    for text in texts:
        rules = using.rules_first_used(text)
        if rules:
            uses.append((text, rules))
    return uses


def first_text_using(grammar, rule, texts):
    """Give the first text that uses a rule, or None."""
    using = Using(grammar)
    for text in texts:
        if rule in using.rules_first_used(text):
            return text
    return None
