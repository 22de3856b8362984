"""row_or_ring (points 1 and 8 to 10)."""

import copy
import itertools
import random
import unittest

from by_the_words import there_is_a_row, why_no_ring, why_no_row
from tallyhall.rows import row_or_ring

GREAT = 10 ** 100


def link(one, other, good="a", why="over"):
    return (one, other, good, why)


class Rows(unittest.TestCase):
    def check(self, numbers, links, kind):
        """The answer is of that kind, and right by point 9; nothing handed in is changed."""
        numbers_before, links_before = list(numbers), copy.deepcopy(links)
        told = row_or_ring(numbers, links)
        self.assertIs(type(told), tuple)
        self.assertEqual(len(told), 2)
        self.assertEqual(told[0], kind, (numbers[:20], links[:20]))
        wrong = why_no_row(told[1], numbers, links) if kind == "row" else why_no_ring(told[1], links)
        self.assertIsNone(wrong, (numbers[:20], links[:20], told[1][:20]))
        self.assertEqual((numbers, links), (numbers_before, links_before))
        return told[1]


class ThereIsARow(Rows):
    def test_no_number_and_no_link(self):
        self.assertEqual(row_or_ring([], []), ("row", []))

    def test_one_number(self):
        for number in (0, 7, -3, GREAT):
            self.assertEqual(row_or_ring([number], []), ("row", [number]))

    def test_no_link(self):
        self.check([5, -2, 0, 9], [], "row")

    def test_a_chain_has_one_row_only(self):
        links = [link(3, 1), link(1, 2), link(2, 0)]
        for order in itertools.permutations(range(4)):
            for links_order in itertools.permutations(links):
                self.assertEqual(row_or_ring(list(order), list(links_order)), ("row", [3, 1, 2, 0]))

    def test_negative_and_large_numbers(self):
        numbers = [0, -GREAT, GREAT, -1, GREAT + 1]
        links = [link(GREAT, -1), link(-1, GREAT + 1), link(GREAT + 1, -GREAT), link(-GREAT, 0)]
        self.assertEqual(row_or_ring(numbers, links), ("row", [GREAT, -1, GREAT + 1, -GREAT, 0]))

    def test_several_links_between_the_same_two(self):
        links = [link(1, 0, good, why) for good in ("", "a", "b") for why in ("missed", "over", "saw")]
        self.assertEqual(row_or_ring([0, 1], links), ("row", [1, 0]))
        self.check([2, 0, 1, 3], links + [link(0, 2, "", "saw"), link(0, 2, "", "over")], "row")

    def test_the_same_link_twice(self):
        self.assertEqual(row_or_ring([0, 1, 2], [link(2, 1), link(2, 1), link(1, 0), link(1, 0)]), ("row", [2, 1, 0]))

    def test_reasons_and_goods_of_any_words(self):
        links = [link(0, 1, "", ""), link(1, 2, "\u00e4\ud800", "because"), link(2, 3, "a" * 1000, "saw")]
        self.assertEqual(row_or_ring([3, 2, 1, 0], links), ("row", [0, 1, 2, 3]))

    def test_a_number_that_waits_for_several(self):
        links = [link(0, 9), link(1, 9), link(2, 9), link(9, 3), link(9, 4)]
        row = self.check([9, 3, 0, 4, 1, 2], links, "row")
        self.assertEqual(row[3], 9)

    def test_numbers_without_links_stand_in_the_row_too(self):
        self.assertIn(8, self.check([4, 8, 6], [link(6, 4)], "row"))

    def test_a_long_chain(self):
        for step in (1, -1):
            numbers = list(range(5000))[::step]
            links = [link(number, number + 1) for number in range(4999)][::step]
            self.assertEqual(row_or_ring(numbers, links), ("row", list(range(5000))))


class ThereIsARing(Rows):
    def test_two_numbers(self):
        ring = self.check([0, 1], [link(0, 1, "a", "missed"), link(1, 0, "b", "missed")], "ring")
        self.assertEqual(len(ring), 2)

    def test_three_numbers(self):
        links = [link(-5, GREAT), link(GREAT, 0), link(0, -5)]
        for order in itertools.permutations((-5, 0, GREAT)):
            for links_order in itertools.permutations(links):
                self.assertEqual(len(self.check(list(order), list(links_order), "ring")), 3)

    def test_several_links_between_the_same_two(self):
        links = [link(one, other, good, why) for one, other in ((0, 1), (1, 0))
                 for good in ("", "a", "b") for why in ("missed", "over", "saw")]
        for order in (links, links[::-1], links[::2] + links[1::2]):
            self.assertEqual(len(self.check([1, 0], order, "ring")), 2)

    def test_numbers_ahead_of_the_ring_and_behind_it_are_not_in_it(self):
        links = [link(10, 11), link(11, 0), link(0, 1), link(1, 2), link(2, 0), link(2, 20), link(20, 21)]
        for places in itertools.permutations(range(len(links)), len(links)):
            if places[0] > 2:
                continue
            ring = self.check([21, 0, 11, 2, 10, 1, 20], [links[place] for place in places], "ring")
            self.assertEqual(sorted(one for one, _, _, _ in ring), [0, 1, 2])

    def test_two_rings_with_a_number_in_both(self):
        links = [link(0, 1), link(1, 0), link(0, 2), link(2, 0)]
        for order in itertools.permutations(links):
            self.assertEqual(len(self.check([2, 1, 0], list(order), "ring")), 2)

    def test_two_rings_apart(self):
        links = [link(0, 1), link(1, 0), link(2, 3), link(3, 4), link(4, 2), link(1, 2)]
        for order in itertools.permutations(links):
            self.check([0, 1, 2, 3, 4], list(order), "ring")

    def test_a_long_ring(self):
        numbers = list(range(5000))
        links = [link(number, (number + 1) % 5000) for number in numbers]
        self.assertEqual(len(self.check(numbers, links, "ring")), 5000)
        self.assertEqual(len(self.check(numbers[::-1], links[::-1], "ring")), 5000)


class RowOrRing(Rows):
    def test_all_links_of_up_to_four_numbers(self):
        numbers = [3, -1, 0, 12]
        for size in range(5):
            pairs = list(itertools.permutations(numbers[:size], 2))
            for chosen in itertools.product((False, True), repeat=len(pairs)):
                links = [link(one, other) for (one, other), there in zip(pairs, chosen) if there]
                rows = [row for row in itertools.permutations(numbers[:size])
                        if why_no_row(list(row), numbers[:size], links) is None]
                self.check(numbers[:size], links, "row" if rows else "ring")

    def test_many_numbers(self):
        source = random.Random(20)
        kinds = []
        for size in range(1, 41):
            for many in range(0, 3 * size, 3):
                numbers = source.sample(range(-200, 200), size)
                links = [link(*source.sample(numbers, 2), source.choice(["", "a"]), source.choice(["saw", "over"]))
                         for _ in range(many if size > 1 else 0)]
                kinds.append("row" if there_is_a_row(numbers, links) else "ring")
                self.check(numbers, links, kinds[-1])
        self.assertGreater(kinds.count("row"), 100)
        self.assertGreater(kinds.count("ring"), 100)

    def test_the_answer_is_a_list_of_its_own(self):
        numbers = [1, 0]
        row_or_ring(numbers, [])[1].append(5)
        self.assertEqual(numbers, [1, 0])
        links = [link(0, 1), link(1, 0)]
        row_or_ring(numbers, links)[1].append(5)
        self.assertEqual((numbers, links), ([1, 0], [link(0, 1), link(1, 0)]))


if __name__ == "__main__":
    unittest.main()
