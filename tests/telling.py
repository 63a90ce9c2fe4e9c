"""Tell calls and grammars as lists of numbers, and take answers apart, for the tests."""

from grammarpairs.desk import answers, answers_on

FAR = 10 ** 18


def load(k, row):
    return [0, k, len(row)] + list(row)


def held(k):
    return [1, k]


def choice():
    return [2]


def behind():
    return [3]


def many():
    return [4]


def put(a):
    return [5, a]


def turn():
    return [6]


def rename(order):
    return [7, len(order)] + list(order)


def drop(r):
    return [8, r]


def symbol(word):
    """Tell a symbol: digits are a nonterminal, a letter is a byte, two letters and '-' a range."""
    if word.isdigit():
        return [0, int(word)]
    return [1, ord(word[0]), ord(word[-1])]


def grammar(nonterminals, *rules):
    """Tell a grammar row by rules like '0: a 1 a-z'."""
    row = [nonterminals, len(rules)]
    for rule in rules:
        owner, words = rule.split(":")
        symbols = [symbol(word) for word in words.split()]
        row += [int(owner), len(symbols)]
        for told in symbols:
            row += told
    return row


def sized(nonterminals, rules):
    """Tell a grammar row of a size; its rules are all the same and without symbols."""
    return [nonterminals, rules] + [0, 0] * rules


def joined(calls):
    return [number for call in calls for number in call]


def parted(told):
    """Part a list of answers into one list for each call."""
    parts = []
    place = 0
    while place < len(told):
        size = told[place]
        part = told[place + 1:place + 1 + size]
        if size < 1 or len(part) != size:
            raise ValueError(f"no list of answers: {told}")
        parts.append(part)
        place += 1 + size
    return parts


def ask(*calls):
    """Answer calls on a new object, one list for each call."""
    return parted(answers(joined(calls)))


def ask_on(pair, *calls):
    return parted(answers_on(pair, joined(calls)))


def left_after(*calls):
    """Give the left grammar's row behind the calls."""
    return ask(*calls, held(0))[-1][1:]
