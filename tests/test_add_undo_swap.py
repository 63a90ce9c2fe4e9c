import unittest

from telling import FAR, add, ask, behind, changed, choice, cover, drop, grammar, held, load, many, put, reads, rename
from telling import rule, same, sentence, sized, swap, turn, undo, within

LEFT = grammar(2, "0: a 1", "1: b")
RIGHT = grammar(3, "0: c 2")
BOTH = (load(0, LEFT), load(1, RIGHT))


class Add(unittest.TestCase):
    def assert_added(self, loaded, told):
        row = [loaded[0], loaded[1] + 1] + loaded[2:] + told
        answers = ask(load(0, loaded), add(told), held(0))
        self.assertEqual(answers[1:], [[0, row[0], row[1]], [0] + row])

    def assert_refused(self, loaded, told, number):
        answers = ask(load(0, loaded), load(1, RIGHT), add(told), held(0), held(1), undo(), held(0), undo())
        expected = [[number], [0] + loaded, [0] + RIGHT, [0, 1, 0], [0, 1, 0], [-11]]
        self.assertEqual(answers[2:], expected, told)

    def test_it_stands_behind_the_others(self):
        self.assert_added(LEFT, rule("0: 1 x-z 0"))
        self.assert_added(LEFT, rule("1:"))
        self.assert_added([1, 0], rule("0: 0"))
        self.assert_added([1, 0], [0, 0])

    def test_a_rule_that_is_there_already(self):
        self.assert_added(LEFT, rule("0: a 1"))

    def test_one_behind_another(self):
        answers = ask(load(0, [2, 0]), add(rule("1: b")), add(rule("0: a 1")), held(0))
        self.assertEqual(answers[1:], [[0, 2, 1], [0, 2, 2], [0] + grammar(2, "1: b", "0: a 1")])

    def test_counts_of_symbols(self):
        self.assert_added(LEFT, [1, 8] + [0, 1] * 8)
        self.assert_added(LEFT, [1, 8] + [1, 0, 255] * 8)
        self.assert_refused(LEFT, [1, 9] + [0, 1] * 9, -2)
        self.assert_refused(LEFT, [1, FAR], -2)

    def test_nonterminals_of_the_left(self):
        self.assert_added(sized(20, 0), [19, 1, 0, 19])
        self.assert_refused(LEFT, [2, 0], -2)
        self.assert_refused(LEFT, [0, 1, 0, 2], -2)
        self.assert_refused(LEFT, [FAR, 1, 0, 0], -2)
        self.assert_refused(LEFT, [0, 1, 0, FAR], -2)

    def test_ranges(self):
        self.assert_added(LEFT, [0, 3, 1, 0, 0, 1, 255, 255, 1, 0, 255])
        for wrong in ([7, 6], [0, 256], [256, 256], [0, FAR], [FAR, FAR]):
            self.assert_refused(LEFT, [0, 1, 1] + wrong, -2)

    def test_kinds_of_symbols(self):
        for kind in (2, 97, FAR):
            self.assert_refused(LEFT, [0, 1, kind, 0], -2)
            self.assert_refused(LEFT, [0, 1, kind, 0, 0], -2)

    def test_cut_short_or_too_long(self):
        for told in (rule("0: 1 x-z 0"), rule("1:"), rule("1: b")):
            for size in range(len(told)):
                self.assert_refused(LEFT, told[:size], -2)
            for more in (0, 1, FAR):
                self.assert_refused(LEFT, told + [more], -2)
        self.assert_refused(LEFT, rule("0: a") + rule("0: b"), -2)
        self.assert_refused(LEFT, [0] * 2000, -2)

    def test_numbers_below_zero_anywhere(self):
        told = rule("0: 1 x-z 0")
        for place in range(len(told)):
            for number in (-1, -2, -FAR):
                self.assert_refused(LEFT, told[:place] + [number] + told[place + 1:], -1)
        self.assert_refused(LEFT, told + [-1], -1)
        self.assert_refused(LEFT, [-1], -1)
        self.assert_refused(LEFT, [FAR] * 1999 + [-FAR], -1)

    def test_sixty_rules(self):
        self.assert_added(sized(20, 59), [0, 0])
        self.assert_refused(sized(20, 60), [0, 0], -6)

    def test_too_great_is_told_behind_all_others(self):
        self.assert_refused(sized(20, 60), [0, -1], -1)
        self.assert_refused(sized(20, 60), [0, 1], -2)
        self.assert_refused(sized(20, 60), [20, 0], -2)
        self.assert_refused(sized(20, 60), [], -2)

    def test_the_right_one_does_not_count(self):
        answers = ask(load(1, sized(20, 60)), add([0, 0]), add([19, 0]), held(1))
        self.assertEqual(answers[1:], [[0, 1, 1], [-2], [0] + sized(20, 60)])

    def test_loading_by_adding(self):
        row = sized(3, 58)
        answers = ask(load(0, [3, 0]), *[add([0, 0])] * 58, held(0))
        self.assertEqual(answers[-1], [0] + row)


class Undo(unittest.TestCase):
    def test_none_before(self):
        self.assertEqual(ask(undo(), held(0), undo()), [[-11], [0, 1, 0], [-11]])
        self.assertEqual(ask(load(1, LEFT), undo(), held(1)), [[0, 2, 2], [-11], [0] + LEFT])

    def test_each_call_that_makes_a_left_one(self):
        made = (load(0, RIGHT), choice(), behind(), many(), put(1), turn(), rename([0, 1]), drop(0), add([0, 0]))
        for call in (*made, swap()):
            answers = ask(*BOTH, call, undo(), held(0), undo(), held(0), undo())
            self.assertEqual(answers[3:], [[0, 2, 2], [0] + LEFT, [0, 1, 0], [0, 1, 0], [-11]], call)

    def test_what_was_undone_is_not_remembered(self):
        answers = ask(load(0, LEFT), many(), undo(), undo(), held(0), undo())
        self.assertEqual(answers[2:], [[0, 2, 2], [0, 1, 0], [0, 1, 0], [-11]])

    def test_between_others(self):
        first = (load(0, [2, 0]), load(0, [3, 0]), undo(), load(0, [4, 0]))
        answers = ask(*first, undo(), held(0), undo(), held(0), undo())
        self.assertEqual(answers[4:], [[0, 2, 0], [0, 2, 0], [0, 1, 0], [0, 1, 0], [-11]])

    def test_calls_that_make_no_left_one(self):
        compared = (changed(), within(1), same(1), sentence(0, 1), cover(1))
        asked = (load(1, LEFT), held(0), held(1), reads(0, "a"), *compared)
        self.assertEqual(ask(*asked, undo())[-1], [-11])
        self.assertEqual(ask(load(0, LEFT), *asked, undo(), undo())[-2:], [[0, 1, 0], [-11]])

    def test_the_right_one_stays(self):
        self.assertEqual(ask(*BOTH, undo(), held(1), undo(), held(1))[-3:], [[0] + RIGHT, [-11], [0] + RIGHT])

    def test_at_most_sixteen(self):
        loads = [load(0, [k, 0]) for k in range(2, 18)]
        answers = ask(*loads, *[undo()] * 17)
        self.assertEqual(answers[16:], [[0, k, 0] for k in range(16, 0, -1)] + [[-11]])

    def test_the_earliest_is_dropped(self):
        for more in (1, 2, 3):
            loads = [load(0, [k, 0]) for k in range(2, 18 + more)]
            answers = ask(*loads, *[undo()] * 16, held(0), undo())
            undone = [[0, k, 0] for k in range(16 + more, more, -1)]
            self.assertEqual(answers[16 + more:], undone + [[0, 1 + more, 0], [-11]])

    def test_sixteen_again_behind_an_undo(self):
        loads = [load(0, [k, 0]) for k in range(2, 19)]
        answers = ask(*loads, undo(), undo(), load(0, [19, 0]), load(0, [20, 0]), *[undo()] * 17)
        undone = [[0, k, 0] for k in [19] + list(range(16, 1, -1))]
        self.assertEqual(answers[21:], undone + [[-11]])


class Swap(unittest.TestCase):
    def test_both_change_sides(self):
        answers = ask(*BOTH, swap(), held(0), held(1), swap(), held(0), held(1))
        there = [[0, 3, 1], [0] + RIGHT, [0] + LEFT]
        back = [[0, 2, 2], [0] + LEFT, [0] + RIGHT]
        self.assertEqual(answers[2:], there + back)

    def test_of_a_new_object(self):
        self.assertEqual(ask(swap(), undo(), undo()), [[0, 1, 0], [0, 1, 0], [-11]])

    def test_the_left_one_that_was_is_remembered_and_the_right_one_is_not(self):
        answers = ask(*BOTH, swap(), undo(), held(0), held(1), undo(), undo())
        self.assertEqual(answers[3:], [[0, 2, 2], [0] + LEFT, [0] + LEFT, [0, 1, 0], [-11]])

    def test_sixteen_swaps_are_remembered(self):
        answers = ask(*BOTH, *[swap()] * 17, *[undo()] * 17)
        sizes = [[0, 2, 2], [0, 3, 1]]
        self.assertEqual(answers[2:19], (sizes[::-1] * 9)[:17])
        self.assertEqual(answers[19:], sizes * 8 + [[-11]])

    def test_what_is_made_of_one_leaves_the_other(self):
        answers = ask(load(0, LEFT), swap(), swap(), swap(), add([0, 0]), held(0), held(1))
        self.assertEqual(answers[-2:], [[0] + grammar(1, "0:"), [0] + LEFT])


if __name__ == "__main__":
    unittest.main()
