"""Promises 1 and 2: value_at and swept (points 1, 2 and 3)."""

import copy
import itertools
import unittest

from by_the_words import amount_by_point_2, left_by_point_3
from tallyhall.versions import swept, value_at

GREAT = 10 ** 100 - 1
VERSIONS = [(2, 5), (4, -7), (9, 0), (12, GREAT)]


def small_histories():
    """Every list of versions with moments from nought to five; amounts tell the versions apart."""
    for size in range(7):
        for moments in itertools.combinations(range(6), size):
            yield [(moment, 10 + moment) for moment in moments]


class ValueAt(unittest.TestCase):
    def test_no_versions(self):
        for moment in (0, 1, 1000):
            self.assertEqual(value_at([], moment), 0)

    def test_ahead_of_the_first_version(self):
        self.assertEqual(value_at(VERSIONS, 0), 0)
        self.assertEqual(value_at(VERSIONS, 1), 0)

    def test_at_each_versions_moment(self):
        self.assertEqual([value_at(VERSIONS, moment) for moment in (2, 4, 9, 12)], [5, -7, 0, GREAT])

    def test_between_two_versions(self):
        self.assertEqual([value_at(VERSIONS, moment) for moment in (3, 5, 8, 10, 11)], [5, -7, -7, 0, 0])

    def test_behind_the_last_version(self):
        self.assertEqual(value_at(VERSIONS, 13), GREAT)
        self.assertEqual(value_at(VERSIONS, 10 ** 30), GREAT)

    def test_the_moment_nought(self):
        self.assertEqual(value_at([(0, 8)], 0), 8)
        self.assertEqual(value_at([(0, 8), (1, 9)], 0), 8)
        self.assertEqual(value_at([(1, 9)], 0), 0)

    def test_negative_and_very_great_amounts(self):
        for amount in (-1, -GREAT, GREAT, 10 ** 150, -(10 ** 150)):
            self.assertEqual(value_at([(1, 3), (2, amount)], 2), amount)

    def test_later_versions_with_lesser_amounts(self):
        self.assertEqual(value_at([(1, 9), (2, 3), (3, 6)], 2), 3)

    def test_many_versions(self):
        versions = [(2 * moment, moment) for moment in range(1, 301)]
        self.assertEqual(value_at(versions, 601), 300)
        self.assertEqual(value_at(versions, 301), 150)

    def test_all_small_histories(self):
        for versions in small_histories():
            for moment in range(8):
                with self.subTest(versions=versions, moment=moment):
                    self.assertEqual(value_at(versions, moment), amount_by_point_2(versions, moment))

    def test_nothing_handed_in_is_changed(self):
        versions = copy.deepcopy(VERSIONS)
        for moment in range(14):
            value_at(versions, moment)
        self.assertEqual(versions, VERSIONS)


class Swept(unittest.TestCase):
    def test_no_versions(self):
        for moment in (0, 1, 1000):
            self.assertEqual(swept([], moment), [])

    def test_ahead_of_all_versions(self):
        self.assertEqual(swept(VERSIONS, 0), VERSIONS)
        self.assertEqual(swept(VERSIONS, 1), VERSIONS)

    def test_at_a_versions_moment(self):
        self.assertEqual(swept(VERSIONS, 2), VERSIONS)
        self.assertEqual(swept(VERSIONS, 4), VERSIONS[1:])
        self.assertEqual(swept(VERSIONS, 9), VERSIONS[2:])
        self.assertEqual(swept(VERSIONS, 12), VERSIONS[3:])

    def test_between_two_versions(self):
        self.assertEqual(swept(VERSIONS, 3), VERSIONS)
        self.assertEqual(swept(VERSIONS, 8), VERSIONS[1:])
        self.assertEqual(swept(VERSIONS, 11), VERSIONS[2:])

    def test_behind_the_last_version(self):
        self.assertEqual(swept(VERSIONS, 13), [(12, GREAT)])
        self.assertEqual(swept(VERSIONS, 10 ** 30), [(12, GREAT)])

    def test_the_moment_nought(self):
        self.assertEqual(swept([(0, 1), (1, 2)], 0), [(0, 1), (1, 2)])
        self.assertEqual(swept([(0, 1), (1, 2)], 1), [(1, 2)])

    def test_one_version_never_goes(self):
        for moment in (0, 3, 4, 5, 1000):
            self.assertEqual(swept([(4, 0)], moment), [(4, 0)])

    def test_a_version_of_nought_stays_as_any_other(self):
        self.assertEqual(swept([(1, 3), (2, 0)], 2), [(2, 0)])

    def test_versions_with_equal_amounts_are_still_versions(self):
        self.assertEqual(swept([(1, 3), (2, 3), (5, 3)], 2), [(2, 3), (5, 3)])

    def test_just_what_point_3_says_goes(self):
        for versions in small_histories():
            for moment in range(8):
                with self.subTest(versions=versions, moment=moment):
                    self.assertEqual(swept(versions, moment), left_by_point_3(versions, moment))

    def test_the_amount_stays_at_that_moment_and_later(self):
        for versions in small_histories():
            for moment in range(8):
                left = swept(versions, moment)
                for later in range(moment, 9):
                    with self.subTest(versions=versions, moment=moment, later=later):
                        self.assertEqual(value_at(left, later), value_at(versions, later))

    def test_the_answer_is_a_list_of_its_own(self):
        for moment in (0, 4, 20):
            versions = list(VERSIONS)
            left = swept(versions, moment)
            self.assertIs(type(left), list)
            left.append((99, 99))
            self.assertEqual(versions, VERSIONS)

    def test_nothing_handed_in_is_changed(self):
        versions = copy.deepcopy(VERSIONS)
        for moment in range(14):
            swept(versions, moment)
        self.assertEqual(versions, VERSIONS)


if __name__ == "__main__":
    unittest.main()
