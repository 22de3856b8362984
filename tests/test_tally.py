"""The tally and its dealings (points 1 to 7 and 11), as the days use them."""

import unittest

from tallyhall.tally import Dealing, Tally, turned


class Turned(unittest.TestCase):
    def test_the_ring_stays_the_same_but_for_where_it_begins(self):
        ring = [(4, 7, "a", "saw"), (7, -1, "b", "over"), (-1, 4, "", "missed")]
        self.assertEqual(turned(ring, 4), ring)
        self.assertEqual(turned(ring, 7), [ring[1], ring[2], ring[0]])
        self.assertEqual(turned(ring, -1), [ring[2], ring[0], ring[1]])
        self.assertEqual(ring, [(4, 7, "a", "saw"), (7, -1, "b", "over"), (-1, 4, "", "missed")])


class OneDealing(unittest.TestCase):
    def test_its_record(self):
        self.assertEqual(Dealing(3, 5).record(9), (3, 5, 9, [], []))


class TheTally(unittest.TestCase):
    def setUp(self):
        self.tally = Tally()

    def put_alone(self, good, amount):
        number = self.tally.begin()
        self.tally.put(number, good, amount)
        self.assertEqual(self.tally.end(number), [])

    def test_in_the_beginning(self):
        self.assertEqual(self.tally.moment(), 0)
        self.assertEqual((self.tally.versions, self.tally.records, self.tally.row), ({}, [], []))
        self.assertEqual(self.tally.amounts(), [])

    def test_the_moment_grows_with_each_ending_alone(self):
        first, second, third = self.tally.begin(), self.tally.begin(), self.tally.begin()
        self.assertEqual((first, second, third), (0, 1, 2))
        self.tally.leave(second)
        self.assertEqual(self.tally.moment(), 0)
        self.tally.end(third)
        self.assertEqual(self.tally.moment(), 1)
        self.assertEqual(list(self.tally.under_way), [first])

    def test_an_ending_gives_each_good_a_version_of_the_new_moment(self):
        self.put_alone("a", 4)
        number = self.tally.begin()
        self.tally.put(number, "a", 5)
        self.tally.put(number, "", -6)
        self.assertEqual(self.tally.versions, {"a": [(1, 4)]})
        self.tally.end(number)
        self.assertEqual(self.tally.versions, {"a": [(1, 4), (2, 5)], "": [(2, -6)]})
        self.assertEqual(self.tally.amounts(), [("", -6), ("a", 5)])

    def test_a_look_gives_no_good_a_version(self):
        number = self.tally.begin()
        self.assertEqual(self.tally.look(number, "a"), 0)
        self.tally.end(number)
        self.assertEqual(self.tally.versions, {})

    def test_what_is_broken_off_changes_nothing_but_that_it_is_over(self):
        first, second = self.tally.begin(), self.tally.begin()
        for number in (first, second):
            self.tally.look(number, "a")
            self.tally.put(number, "a", number)
        self.assertEqual(self.tally.end(second), [])
        before = (list(self.tally.records), list(self.tally.links), list(self.tally.row), dict(self.tally.versions))
        ring = self.tally.end(first)
        self.assertEqual([link[:2] for link in ring], [(0, 1), (1, 0)])
        self.assertEqual((self.tally.records, self.tally.links, self.tally.row, self.tally.versions), before)
        self.assertEqual(self.tally.under_way, {})

    def test_a_sweep_lets_the_versions_go_that_nobody_sees(self):
        self.put_alone("a", 4)
        self.put_alone("a", 5)
        number = self.tally.begin()
        self.put_alone("a", 6)
        self.assertEqual(self.tally.sweep(), 1)
        self.assertEqual(self.tally.versions, {"a": [(2, 5), (3, 6)]})
        self.assertEqual(self.tally.look(number, "a"), 5)
        self.tally.leave(number)
        self.assertEqual(self.tally.sweep(), 1)
        self.assertEqual(self.tally.versions, {"a": [(3, 6)]})

    def test_two_tallies_share_nothing(self):
        other = Tally()
        self.put_alone("a", 4)
        self.assertEqual((other.moment(), other.versions, other.records), (0, {}, []))


if __name__ == "__main__":
    unittest.main()
