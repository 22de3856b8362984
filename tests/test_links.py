"""Promise 3: links_of (points 1, 7 and 8)."""

import copy
import itertools
import unittest

from by_the_words import links_by_point_8
from tallyhall.links import links_of


class FewRecords(unittest.TestCase):
    def test_no_record(self):
        self.assertEqual(links_of([]), [])

    def test_one_record_has_no_link_to_itself(self):
        self.assertEqual(links_of([(0, 0, 1, ["a", "b"], ["a", "b"])]), [])
        self.assertEqual(links_of([(3, 2, 7, [], [])]), [])

    def test_records_without_shared_goods(self):
        self.assertEqual(links_of([(0, 0, 1, ["a"], ["b"]), (1, 0, 2, ["c"], ["d"])]), [])

    def test_two_that_only_look_have_no_link(self):
        self.assertEqual(links_of([(0, 0, 1, ["a"], []), (1, 0, 2, ["a"], [])]), [])
        self.assertEqual(links_of([(0, 0, 1, ["a"], []), (1, 1, 2, ["a"], [])]), [])


class Over(unittest.TestCase):
    def test_the_lesser_ending_is_the_one(self):
        self.assertEqual(links_of([(0, 0, 1, [], ["a"]), (1, 0, 2, [], ["a"])]), [(0, 1, "a", "over")])
        self.assertEqual(links_of([(0, 0, 2, [], ["a"]), (1, 0, 1, [], ["a"])]), [(1, 0, "a", "over")])

    def test_endings_far_apart(self):
        self.assertEqual(links_of([(0, 0, 1, [], ["a"]), (9, 50, 90, [], ["a"])]), [(0, 9, "a", "over")])

    def test_it_needs_a_put_of_both(self):
        self.assertEqual(links_of([(0, 0, 1, [], ["a"]), (1, 0, 2, [], ["b"])]), [])


class Saw(unittest.TestCase):
    def test_the_ending_and_the_beginning_equal(self):
        self.assertEqual(links_of([(0, 0, 3, [], ["a"]), (1, 3, 5, ["a"], [])]), [(0, 1, "a", "saw")])

    def test_the_ending_one_less_than_the_beginning(self):
        self.assertEqual(links_of([(0, 0, 2, [], ["a"]), (1, 3, 5, ["a"], [])]), [(0, 1, "a", "saw")])

    def test_the_ending_one_more_than_the_beginning(self):
        self.assertEqual(links_of([(0, 0, 4, [], ["a"]), (1, 3, 5, ["a"], [])]), [(1, 0, "a", "missed")])


class Missed(unittest.TestCase):
    def test_the_ending_one_more_than_the_beginning(self):
        self.assertEqual(links_of([(0, 3, 6, ["a"], []), (1, 0, 4, [], ["a"])]), [(0, 1, "a", "missed")])

    def test_the_ending_and_the_beginning_equal(self):
        self.assertEqual(links_of([(0, 4, 6, ["a"], []), (1, 0, 4, [], ["a"])]), [(1, 0, "a", "saw")])

    def test_the_ending_one_less_than_the_beginning(self):
        self.assertEqual(links_of([(0, 5, 6, ["a"], []), (1, 0, 4, [], ["a"])]), [(1, 0, "a", "saw")])

    def test_the_other_ends_behind_the_one(self):
        self.assertEqual(links_of([(0, 0, 1, ["a"], []), (1, 1, 2, [], ["a"])]), [(0, 1, "a", "missed")])

    def test_both_missed_one_another(self):
        records = [(0, 0, 1, ["a"], ["b"]), (1, 0, 2, ["b"], ["a"])]
        self.assertEqual(links_of(records), [(0, 1, "a", "missed"), (1, 0, "b", "missed")])


class SeveralLinks(unittest.TestCase):
    def test_all_reasons_and_several_goods_between_the_same_two(self):
        records = [(0, 0, 1, ["a", "b"], ["a", "b"]), (1, 1, 2, ["a", "b"], ["a", "b"])]
        self.assertEqual(links_of(records), [
            (0, 1, "a", "missed"), (0, 1, "a", "over"), (0, 1, "a", "saw"),
            (0, 1, "b", "missed"), (0, 1, "b", "over"), (0, 1, "b", "saw"),
        ])

    def test_links_both_ways_for_one_good(self):
        records = [(0, 0, 1, ["a"], ["a"]), (1, 0, 2, ["a"], ["a"])]
        self.assertEqual(links_of(records), [
            (0, 1, "a", "missed"), (0, 1, "a", "over"), (1, 0, "a", "missed"),
        ])

    def test_the_empty_text_is_a_good(self):
        self.assertEqual(links_of([(0, 0, 1, [], [""]), (1, 1, 2, [""], [])]), [(0, 1, "", "saw")])
        self.assertEqual(links_of([(0, 0, 1, [], ["", "a"]), (1, 0, 2, [], ["", "a"])]),
                         [(0, 1, "", "over"), (0, 1, "a", "over")])

    def test_links_skip_over_records_between(self):
        records = [(number, number, number + 1, [], ["a"]) for number in range(3)]
        self.assertEqual(links_of(records), [(0, 1, "a", "over"), (0, 2, "a", "over"), (1, 2, "a", "over")])

    def test_the_order_is_that_of_tuples(self):
        goods = ["", "B", "a", "aa", "\u00e4"]
        records = [(10, 0, 1, [], goods), (9, 1, 2, goods, []), (2, 2, 3, goods, goods)]
        told = links_of(records)
        self.assertEqual(told, sorted(told))
        self.assertEqual([link for link in told if link[0] == 10 and link[1] == 9],
                         [(10, 9, good, "saw") for good in goods])
        self.assertEqual([link[0] for link in told], [9] * 5 + [10] * 15)

    def test_each_link_once(self):
        records = [(number, number // 2, number + 1, ["a", "b"], ["a", "b"]) for number in range(8)]
        told = links_of(records)
        self.assertEqual(len(told), len(set(told)))
        self.assertEqual(told, links_by_point_8(records))

    def test_no_link_to_itself(self):
        records = [(number, 0, number + 1, ["a"], ["a"]) for number in range(5)]
        self.assertTrue(all(one != other for one, other, _, _ in links_of(records)))

    def test_records_in_any_order(self):
        records = [(0, 0, 2, ["a"], ["b"]), (2, 0, 1, ["b"], ["a", "b"]), (1, 2, 4, ["b"], []), (5, 1, 3, [], ["b"])]
        told = links_by_point_8(records)
        self.assertGreater(len(told), 4)
        for order in itertools.permutations(records):
            self.assertEqual(links_of(list(order)), told)

    def test_all_small_pairs(self):
        spans = [(began, ended) for ended in range(1, 5) for began in range(ended)]
        lists = [[], [""], ["a"], ["", "a"]]
        for (began, ended), (other_began, other_ended) in itertools.product(spans, spans):
            if ended == other_ended:
                continue
            for looked, put, other_looked, other_put in itertools.product(lists, repeat=4):
                records = [(1, began, ended, looked, put), (0, other_began, other_ended, other_looked, other_put)]
                if links_of(records) != links_by_point_8(records):
                    self.assertEqual(links_of(records), links_by_point_8(records), records)

    def test_a_day_of_many_records(self):
        records = [(number, max(number - 3, 0), number + 1, ["a", str(number % 7)], [str(number % 5)])
                   for number in range(120)]
        self.assertEqual(links_of(records), links_by_point_8(records))


class HandedIn(unittest.TestCase):
    def test_the_answer_is_a_list_of_tuples(self):
        told = links_of([(0, 0, 1, [], ["a"]), (1, 1, 2, ["a"], ["a"])])
        self.assertIs(type(told), list)
        self.assertEqual([type(link) for link in told], [tuple, tuple])

    def test_nothing_handed_in_is_changed(self):
        records = [(2, 1, 3, ["", "a"], ["a", "b"]), (0, 0, 1, ["a"], ["", "b"]), (1, 0, 2, [], ["a"])]
        before = copy.deepcopy(records)
        links_of(records)
        self.assertEqual(records, before)


if __name__ == "__main__":
    unittest.main()
