"""done_alone (points 1 and 13)."""

import copy
import itertools
import unittest

from tallyhall.alone import done_alone

GREAT = 10 ** 100 - 1


class DoneAlone(unittest.TestCase):
    def test_no_dealing(self):
        self.assertEqual(done_alone([]), ([], []))

    def test_dealings_without_steps(self):
        self.assertEqual(done_alone([[], []]), ([[], []], []))

    def test_a_look_where_nothing_was_put_sees_nought(self):
        self.assertEqual(done_alone([[("look", "a")]]), ([[0]], []))
        self.assertEqual(done_alone([[("put", "b", 4), ("look", "a")]]), ([[0]], [("b", 4)]))

    def test_a_look_ahead_of_the_put_sees_nought(self):
        self.assertEqual(done_alone([[("look", "a"), ("put", "a", 4)]]), ([[0]], [("a", 4)]))

    def test_a_look_sees_what_the_same_dealing_put(self):
        steps = [("put", "a", 4), ("look", "a"), ("put", "a", -5), ("look", "a"), ("look", "a")]
        self.assertEqual(done_alone([steps]), ([[4, -5, -5]], [("a", -5)]))

    def test_a_look_sees_what_a_dealing_ahead_put(self):
        dealings = [[("put", "a", 1), ("put", "a", 2)], [], [("look", "a"), ("put", "a", 3), ("look", "a")],
                    [("look", "a")]]
        self.assertEqual(done_alone(dealings), ([[], [], [2, 3], [3]], [("a", 3)]))

    def test_a_look_does_not_see_what_a_dealing_behind_puts(self):
        self.assertEqual(done_alone([[("look", "a")], [("put", "a", 1)]]), ([[0], []], [("a", 1)]))

    def test_the_order_of_the_list_counts(self):
        dealings = [[("look", "a"), ("put", "a", 1)], [("look", "a"), ("put", "a", 2)]]
        self.assertEqual(done_alone(dealings), ([[0], [1]], [("a", 2)]))
        self.assertEqual(done_alone(dealings[::-1]), ([[0], [2]], [("a", 1)]))

    def test_goods_apart(self):
        dealings = [[("put", "a", 1), ("put", "b", 2)], [("look", "b"), ("look", "a"), ("look", "c"), ("look", "b")]]
        self.assertEqual(done_alone(dealings), ([[], [2, 1, 0, 2]], [("a", 1), ("b", 2)]))

    def test_the_empty_text_is_a_good(self):
        dealings = [[("look", ""), ("put", "", 9), ("look", ""), ("look", " ")], [("look", "")]]
        self.assertEqual(done_alone(dealings), ([[0, 9, 0], [9]], [("", 9)]))

    def test_amounts_of_a_hundred_figures_and_of_either_sign(self):
        for amount in (GREAT, -GREAT, 10 ** 99, -1, 10 ** 130, -(10 ** 130)):
            dealings = [[("put", "a", amount), ("look", "a")], [("look", "a")]]
            self.assertEqual(done_alone(dealings), ([[amount], [amount]], [("a", amount)]))

    def test_a_put_of_nought_is_told_too(self):
        self.assertEqual(done_alone([[("put", "a", 0)]]), ([[]], [("a", 0)]))
        self.assertEqual(done_alone([[("put", "a", 3)], [("put", "a", 0), ("look", "a")]]), ([[], [0]], [("a", 0)]))

    def test_goods_only_looked_at_are_not_told(self):
        self.assertEqual(done_alone([[("look", "b"), ("put", "a", 3), ("look", "c")]])[1], [("a", 3)])

    def test_the_amounts_stand_in_the_order_of_texts(self):
        goods = ["", "10", "9", "B", "a", "aa", "b", "\u00e4", "\ud800", "\U0001f33e"]
        for order in (goods, goods[::-1], goods[::2] + goods[1::2]):
            dealings = [[("put", good, len(order) - place)] for place, good in enumerate(order)]
            told = done_alone(dealings)[1]
            self.assertEqual([good for good, _ in told], sorted(goods))
            self.assertEqual(dict(told), {good: len(order) - place for place, good in enumerate(order)})

    def test_all_short_dealings(self):
        steps = [("look", "a"), ("look", ""), ("put", "a", 1), ("put", "a", 2), ("put", "", 3)]
        for chosen in itertools.product(steps, repeat=4):
            for cut in range(5):
                seen, amounts = done_alone([list(chosen[:cut]), list(chosen[cut:])])
                expected = []
                for place, step in enumerate(chosen):
                    puts = [ahead[2] for ahead in chosen[:place] if ahead[0] == "put" and ahead[1] == step[1]]
                    if step[0] == "look":
                        expected.append((place < cut, puts[-1] if puts else 0))
                self.assertEqual(seen, [[amount for first, amount in expected if first],
                                        [amount for first, amount in expected if not first]])
                self.assertEqual(amounts, sorted({step[1]: step[2] for step in chosen if step[0] == "put"}.items()))

    def test_the_kinds_of_the_answer(self):
        told = done_alone([[("put", "a", 1), ("look", "a")], []])
        self.assertIs(type(told), tuple)
        self.assertEqual([type(part) for part in told], [list, list])
        self.assertEqual([type(seen) for seen in told[0]], [list, list])
        self.assertEqual([type(pair) for pair in told[1]], [tuple])

    def test_nothing_handed_in_is_changed(self):
        dealings = [[("put", "a", 1), ("look", "a"), ("put", "", 2)], [],
                    [("look", ""), ("look", "c"), ("put", "a", -1)]]
        before = copy.deepcopy(dealings)
        told = done_alone(dealings)
        self.assertEqual(dealings, before)
        self.assertEqual(done_alone(dealings), told)


if __name__ == "__main__":
    unittest.main()
