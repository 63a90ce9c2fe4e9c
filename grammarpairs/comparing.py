"""Two grammars compared, by their rules and by the texts that they read."""

from grammarpairs.covering import Covering


def rules_not_in(grammar, other):
    """Give the numbers of a grammar's rules that are none of the other's."""
    theirs = {}
    for rule in other.rules:
        theirs[rule] = True
    return [number for number, rule in enumerate(grammar.rules) if rule not in theirs]


def left_alone(left_reads, right_reads):
    return left_reads and not right_reads


def just_one(left_reads, right_reads):
    return left_reads != right_reads


def first_difference(left, right, texts, differs):
    """Give the first text whose two readings differ as asked, or None.

    Each text stands behind all shorter pieces of it, as a covering must learn them.
    """
    by_left = Covering(left)
    by_right = Covering(right)
    for text in texts:
        by_left.learn(text)
        by_right.learn(text)
        if differs(by_left.covers_whole(text), by_right.covers_whole(text)):
            return text
    return None
