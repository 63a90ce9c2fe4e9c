"""The signs of grammars, and the texts of signs in their order."""

from grammarpairs.grammar import RANGE

MOST_TEXTS = 300


def ranges_of(grammars):
    ranges = []
    for grammar in grammars:
        for owner, symbols in grammar.rules:
            ranges.extend([(symbol[1], symbol[2]) for symbol in symbols if symbol[0] == RANGE])
    return ranges


def signs_of(grammars):
    """Give the joint signs of grammars, ascending.

    A class begins at a cut. No range begins or ends within it, so it lies in a range just if that cut does.
    """
    ranges = ranges_of(grammars)
    cuts = [lo for lo, hi in ranges] + [hi + 1 for lo, hi in ranges]
    return [cut for cut in sorted(set(cuts)) if any([lo <= cut <= hi for lo, hi in ranges])]


def are_too_many(signs, most):
    """Tell whether there are too many texts of signs; they are counted, since they may be far too many to make."""
    texts = 0
    longest = 1
    for size in range(most + 1):
        texts += longest
        longest = longest * len(signs)
    return texts > MOST_TEXTS


def texts_of(signs, most):
    texts = [()]
    longest = [()]
    for size in range(most):
        longer = []
        for text in longest:
            longer.extend([text + (sign,) for sign in signs])
        longest = longer
        texts.extend(longest)
    return texts
