"""Tell calls and grammars as lists of numbers, and take answers apart, for the tests."""

from grammarpairs.desk import answers, answers_on

FAR = 10 ** 18


def load(k, row):
    return [0, k, len(row)] + list(row)


def held(k):
    return [1, k]


def choice():
    return [2]


def behind():
    return [3]


def many():
    return [4]


def put(a):
    return [5, a]


def turn():
    return [6]


def rename(order):
    return [7, len(order)] + list(order)


def drop(r):
    return [8, r]


def add(told):
    return [9, len(told)] + list(told)


def undo():
    return [10]


def swap():
    return [11]


def reads(k, text):
    """Tell a call of reads; a text is told as a str or by its bytes."""
    told = codes(text)
    return [12, k, len(told)] + told


def changed():
    return [13]


def within(most):
    return [14, most]


def same(most):
    return [15, most]


def sentence(r, most):
    return [16, r, most]


def cover(most):
    return [17, most]


def codes(text):
    return [ord(sign) for sign in text] if isinstance(text, str) else list(text)


def shown(text):
    """Tell the answer that shows a text."""
    told = codes(text)
    return [1, len(told)] + told


def covered(*uses):
    """Tell cover's answer by each text with the rules that it is the first to use."""
    told = [0, len(uses)]
    for text, rules in uses:
        told += shown(text)[1:] + [len(rules)] + list(rules)
    return told


def symbol(word):
    """Tell a symbol: digits are a nonterminal, a letter is a byte, two letters and '-' a range."""
    if word.isdigit():
        return [0, int(word)]
    return [1, ord(word[0]), ord(word[-1])]


def rule(words):
    """Tell a rule like '0: a 1 a-z'."""
    owner, symbols = words.split(":")
    told = [symbol(word) for word in symbols.split()]
    return [int(owner), len(told)] + joined(told)


def grammar(nonterminals, *rules):
    """Tell a grammar row by its rules' words."""
    return [nonterminals, len(rules)] + joined([rule(words) for words in rules])


def ranges(*bounds):
    """Tell a grammar row with a rule for each range (lo, hi) alone."""
    return [1, len(bounds)] + joined([[0, 1, 1, lo, hi] for lo, hi in bounds])


def packed(*bounds):
    """Tell a grammar row with eight ranges (lo, hi) in a rule: more of them than there may be rules."""
    parts = [bounds[begin:begin + 8] for begin in range(0, len(bounds), 8)]
    return [1, len(parts)] + joined([[0, len(part)] + joined([[1, lo, hi] for lo, hi in part]) for part in parts])


def sized(nonterminals, rules):
    """Tell a grammar row of a size; its rules are all the same and without symbols."""
    return [nonterminals, rules] + [0, 0] * rules


def joined(calls):
    return [number for call in calls for number in call]


def parted(told):
    """Part a list of answers into one list for each call."""
    parts = []
    place = 0
    while place < len(told):
        size = told[place]
        part = told[place + 1:place + 1 + size]
        if size < 1 or len(part) != size:
            raise ValueError(f"no list of answers: {told}")
        parts.append(part)
        place += 1 + size
    return parts


def ask(*calls):
    """Answer calls on a new object, one list for each call."""
    return parted(answers(joined(calls)))


def ask_on(pair, *calls):
    return parted(answers_on(pair, joined(calls)))


def left_after(*calls):
    """Give the left grammar's row behind the calls."""
    return ask(*calls, held(0))[-1][1:]
