"""Lists that mix all calls, answered by the program and by a plain telling of the document's words.

The plain telling is slow and shares nothing with the program. It finds what is covered, and whether a rule is used on
the way, by adding facts until none is new.
"""

import functools
import itertools
import random
import unittest

from grammarpairs.desk import answers
from telling import FAR, add, behind, changed, choice, cover, drop, held, joined, load, many, parted, put, reads, rename
from telling import same, sentence, swap, turn, undo, within


class Refused(Exception):
    pass


def refuse_if(wrong, number):
    if wrong:
        raise Refused(number)


def tell_rule(owner, symbols):
    return [owner, len(symbols)] + joined(symbols)


def tell_grammar(nonterminals, rules):
    return [nonterminals, len(rules)] + joined([tell_rule(owner, symbols) for owner, symbols in rules])


def parse_rule(row, nonterminals):
    """Give the rule at a row's beginning and the rest of the row; anything wrong is refused."""
    refuse_if(len(row) < 2 or row[0] >= nonterminals or row[1] > 8, -2)
    owner, size, rest = row[0], row[1], row[2:]
    symbols = []
    for _ in range(size):
        refuse_if(not rest or rest[0] > 1, -2)
        width = 2 + rest[0]
        told, rest = rest[:width], rest[width:]
        refuse_if(len(told) < width, -2)
        refuse_if(told[0] == 0 and told[1] >= nonterminals, -2)
        refuse_if(told[0] == 1 and not told[1] <= told[2] <= 255, -2)
        symbols.append(tuple(told))
    return (owner, tuple(symbols)), rest


def parse_grammar(row):
    refuse_if(len(row) < 2 or not 1 <= row[0] <= 20 or row[1] > 60, -2)
    rules, rest = [], row[2:]
    for _ in range(row[1]):
        told, rest = parse_rule(rest, row[0])
        rules.append(told)
    refuse_if(rest, -2)
    return row[0], tuple(rules)


def moved(rules, by):
    return tuple((owner + by, tuple((0, s[1] + by) if s[0] == 0 else s for s in symbols)) for owner, symbols in rules)


def ways_of_row(facts, text, symbols, begin, end):
    """Give whether the wanted rule is used, for each way in which the symbols cover the piece: True, False, or both."""
    if not symbols:
        return {False} if begin == end else set()
    kind = symbols[0][0]
    found = set()
    for place in range(begin, end + 1):
        if kind == 0:
            first = facts.get((symbols[0][1], begin, place), set())
        else:
            first = {False} if place == begin + 1 and symbols[0][1] <= text[begin] <= symbols[0][2] else set()
        if first:
            rest = ways_of_row(facts, text, symbols[1:], place, end)
            found |= {one or other for one in first for other in rest}
    return found


@functools.lru_cache(maxsize=4096)
def ways_of_text(rules, text, wanted):
    """Give whether the wanted rule is used, for each way in which the start covers the text."""
    facts = {}
    pieces = [(i, j) for i in range(len(text) + 1) for j in range(i, len(text) + 1)]
    grown = True
    while grown:
        grown = False
        for number, (owner, symbols) in enumerate(rules):
            for begin, end in pieces:
                known = facts.setdefault((owner, begin, end), set())
                found = ways_of_row(facts, text, symbols, begin, end)
                new = {used or number == wanted for used in found} - known
                if new:
                    known |= new
                    grown = True
    return frozenset(facts.get((0, 0, len(text)), ()))


def uses(rules, text, wanted):
    return bool(ways_of_text(rules, text, None)) and True in ways_of_text(rules, text, wanted)


def plain_signs(rules):
    bounds = [s[1:] for _, symbols in rules for s in symbols if s[0] == 1]
    cuts = sorted({lo for lo, _ in bounds} | {hi + 1 for _, hi in bounds})
    return [a for a, b in zip(cuts, cuts[1:]) if any(lo <= a and b - 1 <= hi for lo, hi in bounds)]


def plain_texts(rules, most):
    refuse_if(not 0 <= most <= 8, -7)
    signs = plain_signs(rules)
    refuse_if(sum(len(signs) ** size for size in range(most + 1)) > 300, -10)
    return [text for size in range(most + 1) for text in itertools.product(signs, repeat=size)]


class PlainDesk:
    """The object, told as the document tells it. A method for each call gives the answer, or raises Refused."""

    def __init__(self):
        self.left = self.right = (1, ())
        self.before = []

    def become_left(self, nonterminals, rules):
        refuse_if(nonterminals > 20 or len(rules) > 60, -6)
        self.before = ([self.left] + self.before)[:16]
        self.left = (nonterminals, tuple(rules))
        return [0, nonterminals, len(rules)]

    def side(self, k):
        refuse_if(k not in (0, 1), -5)
        return self.right if k == 1 else self.left

    def load(self, k, row):
        refuse_if(any(number < 0 for number in row), -1)
        nonterminals, rules = parse_grammar(row)
        self.side(k)
        if k == 0:
            return self.become_left(nonterminals, rules)
        self.right = (nonterminals, rules)
        return [0, nonterminals, len(rules)]

    def held(self, k):
        return [0] + tell_grammar(*self.side(k))

    def both(self, *start_rules):
        (n, left), (m, right) = self.left, self.right
        return self.become_left(1 + n + m, start_rules + moved(left, 1) + moved(right, 1 + n))

    def choice(self):
        return self.both((0, ((0, 1),)), (0, ((0, 1 + self.left[0]),)))

    def behind(self):
        return self.both((0, ((0, 1), (0, 1 + self.left[0]))))

    def many(self):
        n, left = self.left
        return self.become_left(1 + n, ((0, ()), (0, ((0, 0), (0, 1)))) + moved(left, 1))

    def put(self, a):
        (n, left), (m, right) = self.left, self.right
        refuse_if(a < 0 or a >= n, -4)
        kept = tuple(told for told in left if told[0] != a)
        return self.become_left(n + m, kept + ((a, ((0, n),)),) + moved(right, n))

    def turn(self):
        return self.become_left(self.left[0], [(owner, symbols[::-1]) for owner, symbols in self.left[1]])

    def rename(self, order):
        refuse_if(any(number < 0 for number in order), -1)
        n, left = self.left
        refuse_if(sorted(order) != list(range(n)) or order[0] != 0, -9)
        return self.become_left(n, [
            (order[owner], tuple((0, order[s[1]]) if s[0] == 0 else s for s in symbols)) for owner, symbols in left])

    def drop(self, r):
        n, left = self.left
        refuse_if(r < 0 or r >= len(left), -8)
        return self.become_left(n, [told for number, told in enumerate(left) if number != r])

    def add(self, row):
        refuse_if(any(number < 0 for number in row), -1)
        told, rest = parse_rule(row, self.left[0])
        refuse_if(rest, -2)
        return self.become_left(self.left[0], self.left[1] + (told,))

    def undo(self):
        refuse_if(not self.before, -11)
        self.left = self.before.pop(0)
        return [0, self.left[0], len(self.left[1])]

    def swap(self):
        right, self.right = self.right, self.left
        return self.become_left(*right)

    def reads(self, k, text):
        refuse_if(any(not 0 <= byte <= 255 for byte in text), -1)
        refuse_if(len(text) > 24, -3)
        return [0, 1 if ways_of_text(self.side(k)[1], tuple(text), None) else 0]

    def changed(self):
        told = [0]
        for mine, others in ((self.left[1], self.right[1]), (self.right[1], self.left[1])):
            numbers = [number for number in range(len(mine)) if mine[number] not in others]
            told += [len(numbers)] + numbers
        return told

    def first_text(self, most, is_shown):
        for text in plain_texts(self.left[1] + self.right[1], most):
            if is_shown(*[bool(ways_of_text(rules, text, None)) for _, rules in (self.left, self.right)]):
                return [1, len(text), *text]
        return [0]

    def within(self, most):
        return self.first_text(most, lambda left, right: left and not right)

    def same(self, most):
        return self.first_text(most, lambda left, right: left is not right)

    def sentence(self, r, most):
        refuse_if(r < 0 or r >= len(self.left[1]), -8)
        for text in plain_texts(self.left[1], most):
            if uses(self.left[1], text, r):
                return [1, len(text), *text]
        return [0]

    def cover(self, most):
        rules = self.left[1]
        unused = list(range(len(rules)))
        told = []
        for text in plain_texts(rules, most):
            new = [r for r in unused if uses(rules, text, r)]
            unused = [r for r in unused if r not in new]
            if new:
                told.append([len(text), *text, len(new), *new])
        return [0, len(told)] + joined(told)

    def answer(self, name, *arguments):
        try:
            return getattr(self, name)(*arguments)
        except Refused as refusal:
            return [refusal.args[0]]


TELL = {
    "load": load, "held": held, "choice": choice, "behind": behind, "many": many, "put": put, "turn": turn,
    "rename": rename, "drop": drop, "add": add, "undo": undo, "swap": swap, "reads": reads, "changed": changed,
    "within": within, "same": same, "sentence": sentence, "cover": cover,
}

ALPHABETS = (
    [(97, 97), (98, 98)], [(97, 97), (98, 98), (97, 98)], [(97, 97)], [(5, 9), (7, 12)], [(0, 255), (255, 255)],
    [(1, 1), (2, 2), (3, 3)], [(0, 4), (5, 5), (2, 5)], [(9, 9), (250, 255), (0, 0)],
    [(k, k + 2) for k in range(0, 30, 2)],
)

FREQUENT = ("add", "swap", "reads", "within", "same", "sentence", "cover")


class CallMaker:
    """Makes calls that are mostly in order and sometimes not; the same ones for the same seed."""

    def __init__(self, seed):
        self.source = random.Random(seed)
        self.bounds = self.source.choice(ALPHABETS)
        self.sizes = self.source.choice(([0, 1, 1, 1], [0, 1, 1, 2, 2], [0, 1, 2, 2, 3], [1, 2, 3]))

    def symbol(self, nonterminals):
        if self.source.random() < 0.4:
            return [0, self.source.randrange(nonterminals)]
        return [1, *self.source.choice(self.bounds)]

    def rule(self, nonterminals):
        size = self.source.choice(self.sizes)
        owner = 0 if self.source.random() < 0.4 else self.source.randrange(nonterminals)
        return tell_rule(owner, [self.symbol(nonterminals) for _ in range(size)])

    def row(self):
        nonterminals = self.source.randint(1, 3)
        size = self.source.randint(2, 8)
        return [nonterminals, size] + joined([self.rule(nonterminals) for _ in range(size)])

    def spoilt(self, row):
        """Give a row that now and then has something wrong."""
        kind = self.source.random()
        if kind < 0.03:
            return row[:-1]
        if kind < 0.06:
            return row + [self.source.choice((0, 1, -1, FAR))]
        if kind < 0.09 and row:
            place = self.source.randrange(len(row))
            return row[:place] + [self.source.choice((-1, 2, 60, 256, FAR, -FAR))] + row[place + 1:]
        return row

    def number(self, least, most):
        if self.source.random() < 0.06:
            return self.source.choice((least - 1, most + 1, FAR, -FAR))
        return self.source.randint(least, most)

    def text(self):
        ends = sorted({end for bound in self.bounds for end in bound})
        return [self.source.choice(ends) for _ in range(self.source.randint(0, 6))]

    def arguments(self, name, desk):
        n, rules = desk.left
        if name in ("load", "reads"):
            return [self.number(0, 1), self.spoilt(self.row() if name == "load" else self.text())]
        if name in ("within", "same", "cover"):
            return [self.number(0, 4)]
        if name == "rename":
            return [self.spoilt([0] + self.source.sample(range(1, n), n - 1))]
        if name == "add":
            return [self.spoilt(self.rule(n))]
        if name == "sentence":
            return [self.number(0, max(0, len(rules) - 1)), self.number(0, 4)]
        bounds = {"held": 1, "put": n - 1, "drop": max(0, len(rules) - 1)}
        return [self.number(0, bounds[name])] if name in bounds else []

    def call(self, desk):
        # A grammar that has grown is made small again, since the plain telling is slow.
        if len(desk.left[1]) > 12:
            names = ("undo", "undo", "undo", "load", "held", "changed", "put", "choice", "behind", "many")
        else:
            names = tuple(TELL) + FREQUENT
        name = self.source.choice(names)
        return name, self.arguments(name, desk)

    def first_calls(self):
        """Give loads of two grammars, often of the same one, so that later calls make small differences."""
        left, right = self.row(), self.row()
        return [("load", [0, left]), ("load", [1, self.source.choice((left, right))])]


def mixed_list(seed):
    """Give a list of calls, each with its name and arguments, and what is to be answered."""
    maker, desk = CallMaker(seed), PlainDesk()
    first = maker.first_calls() if seed % 4 else []
    calls, expected = [], []
    for place in range(maker.source.randint(1, 60)):
        name, arguments = first[place] if place < len(first) else maker.call(desk)
        calls.append((name, arguments))
        expected.append(desk.answer(name, *arguments))
    return calls, expected


class MixedCalls(unittest.TestCase):
    LISTS = 150

    def test_lists_of_many_calls(self):
        answered = {name: 0 for name in TELL}
        refused = set()
        for seed in range(self.LISTS):
            calls, expected = mixed_list(seed)
            told = joined([TELL[name](*arguments) for name, arguments in calls])
            handed_in = list(told)
            answered_at_once = answers(told)
            self.assertEqual({number.__class__ for number in answered_at_once}, {int})
            for call, given, wanted in zip(calls, parted(answered_at_once), expected, strict=True):
                self.assertEqual(given, wanted, (seed, call))
                answered[call[0]] += wanted[0] >= 0
                refused.add(wanted[0])
            self.assertEqual(told, handed_in)
        self.assertGreater(min(answered.values()), 50, answered)
        self.assertLessEqual({-1, -2, -4, -5, -6, -7, -8, -9, -10, -11}, refused)


if __name__ == "__main__":
    unittest.main()
