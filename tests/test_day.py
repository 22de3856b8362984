"""answers, records_behind and ending (points 1 to 14)."""

import copy
import itertools
import random
import unittest

import by_the_words
from by_the_words import links_by_point_8, why_no_ring, why_no_row
from tallyhall.alone import done_alone
from tallyhall.day import answers, ending, records_behind

GREAT = 10 ** 100 - 1
WRITE_SKEW = [
    ("begin",), ("begin",), ("look", 0, "a"), ("look", 1, "b"), ("put", 0, "b", 5), ("put", 1, "a", 6),
    ("end", 0), ("end", 1),
]


def steps_and_looks(deeds, told):
    """For each number the steps that its dealing did, and what its looks saw, as the answers tell."""
    steps, looks = {}, {}
    for deed, answer in zip(deeds, told):
        if deed[0] == "begin":
            steps[answer], looks[answer] = [], []
        elif deed[0] in ("look", "put") and answer is not None:
            steps[deed[1]].append((deed[0],) + deed[2:])
            if deed[0] == "look":
                looks[deed[1]].append(answer)
    return steps, looks


class Days(unittest.TestCase):
    def check(self, deeds):
        """Everything that the three functions tell of a day, against the points; the answers."""
        before = copy.deepcopy(deeds)
        told = answers(deeds)
        model = self.check_answers(deeds, told)
        records = records_behind(deeds)
        self.assertIs(type(records), list)
        self.assertEqual(records, model.records, deeds)
        self.check_ending(deeds, told, model)
        self.assertEqual(deeds, before)
        return told

    def check_answers(self, deeds, told):
        self.assertIs(type(told), list)
        self.assertEqual(len(told), len(deeds))
        model = by_the_words.Day()
        for place, (deed, answer) in enumerate(zip(deeds, told)):
            expected = model.answer(deed)
            if type(expected) is tuple:
                self.assertIsNone(why_no_ring(answer, expected[1]), (deeds, place, answer))
                self.assertEqual(answer[0][0], deed[1], (deeds, place, answer))
            else:
                self.assertEqual(answer, expected, (deeds, place))
        return model

    def check_ending(self, deeds, told, model):
        end = ending(deeds)
        self.assertIs(type(end), tuple)
        row, amounts = end
        numbers = [record[0] for record in model.records]
        self.assertIsNone(why_no_row(row, numbers, links_by_point_8(model.records)), (deeds, row))
        self.assertEqual(amounts, sorted(model.amounts.items()), deeds)
        steps, looks = steps_and_looks(deeds, told)
        self.assertEqual(done_alone([steps[number] for number in row]),
                         ([looks[number] for number in row], amounts), deeds)


class SmallDays(Days):
    def test_no_deed(self):
        self.assertEqual(answers([]), [])
        self.assertEqual(records_behind([]), [])
        self.assertEqual(ending([]), ([], []))

    def test_numbers_rise_from_nought(self):
        self.assertEqual(self.check([("begin",)] * 4), [0, 1, 2, 3])

    def test_a_number_is_never_given_twice(self):
        deeds = [("begin",), ("leave", 0), ("begin",), ("end", 1), ("begin",), ("sweep",), ("begin",)]
        self.assertEqual(self.check(deeds), [0, "left", 1, "ended", 2, 0, 3])

    def test_a_dealing_without_steps(self):
        deeds = [("begin",), ("end", 0)]
        self.assertEqual(self.check(deeds), [0, "ended"])
        self.assertEqual(records_behind(deeds), [(0, 0, 1, [], [])])
        self.assertEqual(ending(deeds), ([0], []))

    def test_one_dealing(self):
        deeds = [("begin",), ("look", 0, "a"), ("put", 0, "a", 3), ("look", 0, "a"), ("end", 0)]
        self.assertEqual(self.check(deeds), [0, 0, "put", 3, "ended"])
        self.assertEqual(records_behind(deeds), [(0, 0, 1, ["a"], ["a"])])
        self.assertEqual(ending(deeds), ([0], [("a", 3)]))

    def test_a_dealing_that_is_still_under_way_is_not_told_behind_the_day(self):
        deeds = [("begin",), ("put", 0, "a", 3), ("look", 0, "b")]
        self.assertEqual(self.check(deeds), [0, "put", 0])
        self.assertEqual(records_behind(deeds), [])
        self.assertEqual(ending(deeds), ([], []))

    def test_dealings_one_behind_the_other(self):
        deeds = [("begin",), ("put", 0, "a", 3), ("end", 0), ("begin",), ("look", 1, "a"), ("put", 1, "a", -4),
                 ("end", 1), ("begin",), ("look", 2, "a"), ("end", 2)]
        self.assertEqual(self.check(deeds), [0, "put", "ended", 1, 3, "put", "ended", 2, -4, "ended"])
        self.assertEqual(records_behind(deeds), [(0, 0, 1, [], ["a"]), (1, 1, 2, ["a"], ["a"]), (2, 2, 3, ["a"], [])])
        self.assertEqual(ending(deeds), ([0, 1, 2], [("a", -4)]))

    def test_a_dealing_that_only_looks_lets_the_moment_grow(self):
        deeds = [("begin",), ("look", 0, "a"), ("end", 0), ("begin",), ("begin",), ("end", 2), ("end", 1), ("begin",),
                 ("end", 3)]
        self.check(deeds)
        self.assertEqual(records_behind(deeds),
                         [(0, 0, 1, ["a"], []), (2, 1, 2, [], []), (1, 1, 3, [], []), (3, 3, 4, [], [])])

    def test_records_stand_in_the_order_of_endings(self):
        deeds = [("begin",)] * 4 + [("end", 2), ("end", 0), ("end", 3), ("end", 1)]
        self.check(deeds)
        self.assertEqual([record[0] for record in records_behind(deeds)], [2, 0, 3, 1])
        self.assertEqual([record[2] for record in records_behind(deeds)], [1, 2, 3, 4])

    def test_the_goods_of_a_record_stand_once_in_the_order_of_texts(self):
        goods = ["b", "", "\u00e4", "a", "B", "b", "", "aa"]
        deeds = [("begin",)] + [("look", 0, good) for good in goods] + [("put", 0, good, 1) for good in goods[:5]]
        deeds = deeds + [("put", 0, "z", 1), ("put", 0, "", 2), ("end", 0)]
        self.check(deeds)
        self.assertEqual(records_behind(deeds),
                         [(0, 0, 1, ["", "B", "a", "aa", "b", "\u00e4"], ["", "B", "a", "b", "z", "\u00e4"])])

    def test_the_empty_text_and_amounts_of_a_hundred_figures(self):
        for amount in (GREAT, -GREAT, 10 ** 120, -(10 ** 120), -1, 0):
            deeds = [("begin",), ("put", 0, "", amount), ("look", 0, ""), ("end", 0), ("begin",), ("look", 1, ""),
                     ("look", 1, " "), ("end", 1)]
            self.assertEqual(self.check(deeds), [0, "put", amount, "ended", 1, amount, 0, "ended"])
            self.assertEqual(ending(deeds), ([0, 1], [("", amount)]))

    def test_the_amounts_stand_in_the_order_of_texts(self):
        goods = ["b", "\u00e4", "", "a", "B", "10", "9", "aa"]
        deeds = []
        for number, good in enumerate(goods):
            deeds.extend([("begin",), ("put", number, good, -number), ("end", number)])
        self.check(deeds)
        self.assertEqual([good for good, _ in ending(deeds)[1]], ["", "10", "9", "B", "a", "aa", "b", "\u00e4"])


class Looks(Days):
    def test_a_look_sees_the_tally_at_the_beginning(self):
        deeds = [("begin",), ("begin",), ("put", 0, "a", 3), ("look", 1, "a"), ("end", 0), ("look", 1, "a"),
                 ("begin",), ("look", 2, "a"), ("look", 1, "a")]
        self.assertEqual(self.check(deeds), [0, 1, "put", 0, "ended", 0, 2, 3, 0])

    def test_a_first_look_behind_anothers_ending(self):
        deeds = [("begin",), ("put", 0, "a", 3), ("end", 0), ("begin",), ("begin",), ("put", 2, "a", 4), ("end", 2),
                 ("look", 1, "a"), ("begin",), ("look", 3, "a")]
        self.assertEqual(self.check(deeds), [0, "put", "ended", 1, 2, "put", "ended", 3, 3, 4])

    def test_dealings_begun_at_each_of_several_moments(self):
        deeds, number = [("begin",)], 1
        readers = [0]
        for amount in range(10, 16):
            deeds.extend([("begin",), ("put", number, "a", amount), ("end", number), ("begin",)])
            readers.append(number + 1)
            number += 2
        deeds.extend([("look", reader, "a") for reader in readers])
        self.assertEqual(self.check(deeds)[-7:], [0, 10, 11, 12, 13, 14, 15])

    def test_a_look_sees_the_last_amount_that_the_dealing_put(self):
        deeds = [("begin",), ("put", 0, "a", 3), ("put", 0, "a", -8), ("put", 0, "b", 1), ("look", 0, "a"),
                 ("put", 0, "a", 0), ("look", 0, "a"), ("look", 0, "b")]
        self.assertEqual(self.check(deeds)[4:], [-8, "put", 0, 1])

    def test_an_own_put_of_nought_is_seen(self):
        deeds = [("begin",), ("put", 0, "a", 3), ("end", 0), ("begin",), ("put", 1, "a", 0), ("look", 1, "a"),
                 ("end", 1)]
        self.assertEqual(self.check(deeds), [0, "put", "ended", 1, "put", 0, "ended"])
        self.assertEqual(records_behind(deeds)[1], (1, 1, 2, [], ["a"]))
        self.assertEqual(ending(deeds), ([0, 1], [("a", 0)]))

    def test_no_other_dealing_sees_what_is_kept_aside(self):
        deeds = [("begin",), ("put", 0, "a", 3), ("begin",), ("look", 1, "a"), ("look", 0, "a")]
        self.assertEqual(self.check(deeds), [0, "put", 1, 0, 3])

    def test_a_look_behind_an_own_put_is_no_look_at_the_tally(self):
        deeds = [("begin",), ("begin",), ("put", 0, "a", 3), ("end", 0), ("put", 1, "a", 4), ("look", 1, "a"),
                 ("end", 1)]
        self.assertEqual(self.check(deeds)[-3:], ["put", 4, "ended"])
        self.assertEqual(records_behind(deeds), [(0, 0, 1, [], ["a"]), (1, 0, 2, [], ["a"])])

    def test_a_look_ahead_of_an_own_put_is_one(self):
        deeds = [("begin",), ("begin",), ("put", 0, "a", 3), ("end", 0), ("look", 1, "a"), ("put", 1, "a", 4),
                 ("look", 1, "a"), ("end", 1)]
        told = self.check(deeds)
        self.assertEqual(told[4:7], [0, "put", 4])
        self.assertEqual(told[7][0], (1, 0, "a", "missed"))
        self.assertEqual(len(told[7]), 2)
        self.assertEqual(records_behind(deeds), [(0, 0, 1, [], ["a"])])


class Endings(Days):
    def test_the_last_amount_comes_to_the_tally(self):
        deeds = [("begin",), ("put", 0, "a", 1), ("put", 0, "b", 2), ("put", 0, "a", 3), ("end", 0), ("begin",),
                 ("look", 1, "a"), ("look", 1, "b")]
        self.assertEqual(self.check(deeds)[-2:], [3, 2])
        self.assertEqual(ending(deeds), ([0], [("a", 3), ("b", 2)]))

    def test_puts_alone_never_break_off(self):
        deeds = [("begin",)] * 3 + [("put", 0, "a", 1), ("put", 1, "a", 2), ("put", 2, "a", 3)]
        for order in itertools.permutations(range(3)):
            whole = deeds + [("end", number) for number in order]
            self.assertEqual(self.check(whole)[-3:], ["ended"] * 3)
            self.assertEqual(ending(whole), (list(order), [("a", order[-1] + 1)]))

    def test_the_row_is_not_always_the_order_of_endings(self):
        deeds = [("begin",), ("begin",), ("look", 1, "a"), ("put", 0, "a", 3), ("end", 0), ("put", 1, "b", 4),
                 ("end", 1)]
        self.assertEqual(self.check(deeds)[-1], "ended")
        self.assertEqual([record[0] for record in records_behind(deeds)], [0, 1])
        self.assertEqual(ending(deeds), ([1, 0], [("a", 3), ("b", 4)]))

    def test_each_missed_the_other(self):
        told = self.check(WRITE_SKEW)
        self.assertEqual(told[-2:], ["ended", [(1, 0, "b", "missed"), (0, 1, "a", "missed")]])
        self.assertEqual(records_behind(WRITE_SKEW), [(0, 0, 1, ["a"], ["b"])])
        self.assertEqual(ending(WRITE_SKEW), ([0], [("b", 5)]))

    def test_each_missed_the_other_and_the_second_ends_first(self):
        told = self.check(WRITE_SKEW[:-2] + [("end", 1), ("end", 0)])
        self.assertEqual(told[-2:], ["ended", [(0, 1, "a", "missed"), (1, 0, "b", "missed")]])

    def test_a_ring_of_three_closed_by_the_oldest(self):
        deeds = [("begin",), ("look", 0, "s"), ("look", 0, "c"), ("begin",), ("look", 1, "s"), ("put", 1, "s", 20),
                 ("end", 1), ("begin",), ("look", 2, "s"), ("look", 2, "c"), ("end", 2), ("put", 0, "c", -11),
                 ("end", 0)]
        told = self.check(deeds)
        self.assertEqual(told[6], "ended")
        self.assertEqual(told[10], "ended")
        self.assertEqual(told[12], [(0, 1, "s", "missed"), (1, 2, "s", "saw"), (2, 0, "c", "missed")])

    def test_a_dealing_that_only_looks_is_broken_off(self):
        deeds = [("begin",), ("look", 0, "s"), ("look", 0, "c"), ("begin",), ("look", 1, "s"), ("put", 1, "s", 20),
                 ("end", 1), ("begin",), ("look", 2, "s"), ("look", 2, "c"), ("put", 0, "c", -11), ("end", 0),
                 ("end", 2)]
        told = self.check(deeds)
        self.assertEqual(told[11:], ["ended", [(2, 0, "c", "missed"), (0, 1, "s", "missed"), (1, 2, "s", "saw")]])
        self.assertEqual(ending(deeds), ([0, 1], [("c", -11), ("s", 20)]))

    def test_a_dealing_that_ended_long_ago_still_counts(self):
        deeds = [("begin",), ("look", 0, "a"), ("begin",), ("look", 1, "b"), ("put", 1, "a", 1), ("end", 1)]
        for number in range(2, 20):
            deeds.extend([("begin",), ("put", number, "x", number), ("end", number), ("sweep",)])
        deeds.extend([("put", 0, "b", 2), ("end", 0)])
        self.assertEqual(self.check(deeds)[-1], [(0, 1, "a", "missed"), (1, 0, "b", "missed")])

    def test_what_is_broken_off_leaves_nothing_behind(self):
        deeds = WRITE_SKEW + [("begin",), ("look", 2, "a"), ("look", 2, "b"), ("put", 2, "a", 7), ("end", 2)]
        self.assertEqual(self.check(deeds)[8:], [2, 0, 5, "put", "ended"])
        self.assertEqual(records_behind(deeds), [(0, 0, 1, ["a"], ["b"]), (2, 1, 2, ["a", "b"], ["a"])])
        self.assertEqual(ending(deeds), ([0, 2], [("a", 7), ("b", 5)]))

    def test_what_is_broken_off_breaks_off_no_other(self):
        deeds = [("begin",), ("begin",)] + [("begin",)] + WRITE_SKEW[2:] + [
            ("look", 2, "c"), ("look", 2, "a"), ("put", 2, "a", 9), ("end", 2)]
        self.assertEqual(self.check(deeds)[-1], "ended")

    def test_what_is_left_leaves_nothing_behind(self):
        deeds = [("begin",), ("begin",), ("look", 0, "a"), ("put", 0, "b", 5), ("leave", 0), ("look", 1, "b"),
                 ("put", 1, "a", 6), ("end", 1), ("begin",), ("look", 2, "b"), ("look", 2, "a")]
        self.assertEqual(self.check(deeds)[4:], ["left", 0, "put", "ended", 2, 0, 6])
        self.assertEqual(records_behind(deeds), [(1, 0, 1, ["b"], ["a"])])
        self.assertEqual(ending(deeds), ([1], [("a", 6)]))


class NotUnderWay(Days):
    def deeds_by(self, number):
        return [("look", number, "a"), ("put", number, "a", 99), ("end", number), ("leave", number)]

    def test_no_dealing_has_begun(self):
        for number in (0, 1, -1, GREAT, -GREAT):
            deeds = self.deeds_by(number)
            self.assertEqual(self.check(deeds), [None] * 4)
            self.assertEqual(ending(deeds), ([], []))

    def test_negative_and_not_yet_begun(self):
        for number in (-1, -2, -3, 2, 3, GREAT, -GREAT):
            deeds = [("begin",), ("begin",)] + self.deeds_by(number) + [
                ("look", 0, "a"), ("look", 1, "a"), ("begin",), ("look", 2, "a"), ("end", 0), ("end", 1), ("end", 2)]
            told = self.check(deeds)
            self.assertEqual(told, [0, 1] + [None] * 4 + [0, 0, 2, 0] + ["ended"] * 3)

    def test_ended(self):
        deeds = [("begin",), ("put", 0, "a", 3), ("end", 0)] + self.deeds_by(0) + [("begin",), ("look", 1, "a")]
        self.assertEqual(self.check(deeds), [0, "put", "ended"] + [None] * 4 + [1, 3])
        self.assertEqual(records_behind(deeds), [(0, 0, 1, [], ["a"])])

    def test_left(self):
        deeds = [("begin",), ("put", 0, "a", 3), ("leave", 0)] + self.deeds_by(0) + [("begin",), ("look", 1, "a")]
        self.assertEqual(self.check(deeds), [0, "put", "left"] + [None] * 4 + [1, 0])
        self.assertEqual(records_behind(deeds), [])

    def test_broken_off(self):
        deeds = WRITE_SKEW + self.deeds_by(1) + [("begin",), ("look", 2, "a"), ("look", 2, "b")]
        self.assertEqual(self.check(deeds)[8:], [None] * 4 + [2, 0, 5])
        self.assertEqual(records_behind(deeds), [(0, 0, 1, ["a"], ["b"])])


class Sweeps(Days):
    def puts(self, first, amounts, good="a"):
        """Dealings one behind the other, each of which puts one of the amounts."""
        deeds = []
        for number, amount in enumerate(amounts, first):
            deeds.extend([("begin",), ("put", number, good, amount), ("end", number)])
        return deeds

    def test_nothing_to_sweep(self):
        self.assertEqual(self.check([("sweep",)]), [0])
        self.assertEqual(self.check([("begin",), ("put", 0, "a", 1), ("sweep",)]), [0, "put", 0])
        self.assertEqual(self.check(self.puts(0, [4]) + [("sweep",), ("sweep",)])[-2:], [0, 0])

    def test_none_under_way(self):
        deeds = self.puts(0, [4, 5, 6]) + [("sweep",), ("sweep",), ("begin",), ("look", 3, "a")]
        self.assertEqual(self.check(deeds)[-4:], [2, 0, 3, 6])

    def test_several_goods(self):
        deeds = self.puts(0, [4, 5, 6]) + self.puts(3, [7], "") + self.puts(4, [8, 9], "c") + [("sweep",)]
        self.assertEqual(self.check(deeds)[-1], 3)
        self.assertEqual(ending(deeds)[1], [("", 7), ("a", 6), ("c", 9)])

    def test_the_least_beginning_under_way_counts(self):
        deeds = self.puts(0, [4, 5]) + [("begin",)] + self.puts(3, [6]) + [("begin",)] + self.puts(5, [7]) + [
            ("sweep",), ("look", 2, "a"), ("look", 4, "a"), ("leave", 2), ("sweep",), ("look", 4, "a"), ("end", 4),
            ("sweep",), ("begin",), ("look", 6, "a")]
        self.assertEqual(self.check(deeds)[-10:], [1, 5, 6, "left", 1, 6, "ended", 1, 6, 7])

    def test_a_dealing_begun_at_nought_keeps_every_version(self):
        deeds = [("begin",)] + self.puts(1, [4, 5, 6]) + [("sweep",), ("look", 0, "a"), ("end", 0), ("sweep",)]
        self.assertEqual(self.check(deeds)[-4:], [0, 0, "ended", 2])

    def test_a_dealing_that_is_broken_off_or_left_keeps_none(self):
        deeds = WRITE_SKEW + self.puts(2, [4, 5], "b") + [("sweep",)]
        self.assertEqual(self.check(deeds)[-1], 2)
        deeds = [("begin",)] + self.puts(1, [4, 5, 6]) + [("leave", 0), ("sweep",)]
        self.assertEqual(self.check(deeds)[-2:], ["left", 2])

    def test_the_moment_of_the_tally_where_the_dealings_under_way_began_late(self):
        deeds = self.puts(0, [4, 5, 6]) + [("begin",), ("begin",), ("sweep",), ("look", 3, "a"), ("look", 4, "a")]
        self.assertEqual(self.check(deeds)[-3:], [2, 6, 6])

    def test_equal_amounts_and_noughts_are_versions_too(self):
        deeds = self.puts(0, [0, 0, 4, 4, 0]) + [("sweep",)]
        self.assertEqual(self.check(deeds)[-1], 4)
        self.assertEqual(ending(deeds)[1], [("a", 0)])

    def test_what_is_put_several_times_by_one_dealing_is_one_version(self):
        deeds = [("begin",), ("put", 0, "a", 1), ("put", 0, "a", 2), ("put", 0, "a", 3), ("end", 0), ("sweep",)]
        self.assertEqual(self.check(deeds)[-1], 0)

    def test_a_link_to_a_swept_version_still_counts(self):
        deeds = [("begin",), ("look", 0, "b"), ("begin",), ("put", 1, "b", 1), ("look", 1, "a"), ("end", 1)]
        deeds.extend(self.puts(2, [7, 8], "b"))
        deeds.extend([("sweep",), ("put", 0, "a", 1), ("end", 0)])
        told = self.check(deeds)
        self.assertEqual(told[-1][0][0], 0)


class ManyDays(Days):
    GOODS = ["", "a", "b", "\u00e4"]

    def step(self, source, number, goods):
        if source.random() < 0.5:
            return ("look", number, source.choice(goods))
        amount = source.choice([source.randrange(-5, 100), GREAT - source.randrange(9), -GREAT])
        return ("put", number, source.choice(goods), amount)

    def some_day(self, seed, size):
        """A day with up to six dealings under way at a time; now and then a deed is by a number that is not."""
        source = random.Random(seed)
        goods = source.choice([self.GOODS[:1], self.GOODS[:2], self.GOODS, self.GOODS + ["c", "d", "e", "f"]])
        deeds, begun, under_way = [], 0, []
        while len(deeds) < size:
            chance = source.random()
            if chance < 0.06:
                deeds.append(("sweep",))
            elif chance < 0.12:
                number = source.choice([-1, -2, begun, begun + 1, GREAT, -GREAT, source.randrange(begun + 1)])
                deeds.append(self.step(source, number, goods))
                if number not in under_way:
                    deeds.append((source.choice(["end", "leave"]), number))
            elif not under_way or chance < 0.26 and len(under_way) < 6:
                deeds.append(("begin",))
                under_way.append(begun)
                begun += 1
            elif chance < 0.36:
                number = under_way.pop(source.randrange(len(under_way)))
                deeds.append(("end" if source.random() < 0.85 else "leave", number))
            else:
                deeds.append(self.step(source, source.choice(under_way), goods))
        return deeds

    def test_days_of_every_deed(self):
        rings, ended, swept = [], 0, 0
        for seed in range(600):
            deeds = self.some_day(seed, 5 + seed % 90)
            for deed, answer in zip(deeds, self.check(deeds)):
                if type(answer) is list:
                    rings.append(len(answer))
                ended += answer == "ended"
                swept += answer if deed[0] == "sweep" and answer else 0
        # The days must be such that they ask something.
        self.assertGreater(len(rings), 100)
        self.assertGreater(max(rings), 2)
        self.assertGreater(ended, 500)
        self.assertGreater(swept, 50)

    def test_days_of_two_hundred_deeds_and_somewhat_more(self):
        for seed in range(1000, 1012):
            self.check(self.some_day(seed, 200 + seed % 3 * 50))

    def test_at_any_time_of_a_day(self):
        for seed in range(2000, 2010):
            deeds = self.some_day(seed, 50)
            for size in range(len(deeds)):
                self.check(deeds[:size])

    def test_two_dealings_in_every_order(self):
        steps = [("look", "a"), ("look", "b"), ("put", "a", 1), ("put", "b", 2)]
        scripts = list(itertools.product(steps, repeat=2))
        for first, second in itertools.product(scripts, scripts):
            for places in itertools.combinations(range(6), 3):
                deeds = [("begin",), ("begin",)]
                left = [list(first) + [("end",)], list(second) + [("end",)]]
                for place in range(6):
                    number = 0 if place in places else 1
                    step = left[number].pop(0)
                    deeds.append((step[0], number) + step[1:])
                self.check(deeds)

    def test_a_day_is_the_same_without_its_sweeps(self):
        for seed in range(3000, 3040):
            deeds = self.some_day(seed, 80)
            told = answers(deeds)
            kept = [deed for deed in deeds if deed != ("sweep",)]
            self.assertEqual(answers(kept), [answer for deed, answer in zip(deeds, told) if deed != ("sweep",)])
            self.assertEqual(records_behind(kept), records_behind(deeds))
            self.assertEqual(ending(kept)[1], ending(deeds)[1])

    def test_a_day_is_the_same_without_deeds_that_are_answered_with_none(self):
        for seed in range(4000, 4040):
            deeds = self.some_day(seed, 80)
            told = answers(deeds)
            kept = [deed for deed, answer in zip(deeds, told) if answer is not None]
            self.assertEqual(answers(kept), [answer for answer in told if answer is not None])
            self.assertEqual(records_behind(kept), records_behind(deeds))

    def test_a_day_is_the_same_without_the_steps_of_what_did_not_end(self):
        for seed in range(5000, 5040):
            deeds = [deed for deed in self.some_day(seed, 80) if deed != ("sweep",)]
            ended = [record[0] for record in records_behind(deeds)]
            kept = [deed for deed in deeds if deed == ("begin",) or deed[1] in ended]
            self.assertEqual(records_behind(kept), records_behind(deeds))
            self.assertEqual(ending(kept)[1], ending(deeds)[1])


class OneDayAndAnother(Days):
    DEEDS = WRITE_SKEW + [("begin",), ("look", 2, "b"), ("put", 2, "", -3), ("end", 2), ("sweep",), ("leave", 7)]

    def test_nothing_is_kept_from_one_day_to_the_next(self):
        told, records, end = answers(self.DEEDS), records_behind(self.DEEDS), ending(self.DEEDS)
        self.assertEqual((answers(self.DEEDS), records_behind(self.DEEDS), ending(self.DEEDS)), (told, records, end))
        self.assertEqual(answers([("begin",), ("look", 0, "b")]), [0, 0])

    def test_whoever_changes_an_answer_changes_no_later_one(self):
        told, records, end = answers(self.DEEDS), records_behind(self.DEEDS), ending(self.DEEDS)
        expected = copy.deepcopy((told, records, end))
        told[7].clear()
        told.clear()
        records[0][3].append("z")
        records.clear()
        end[0].clear()
        end[1].clear()
        self.assertEqual((answers(self.DEEDS), records_behind(self.DEEDS), ending(self.DEEDS)), expected)

    def test_nothing_handed_in_is_changed(self):
        deeds = copy.deepcopy(self.DEEDS)
        for function in (answers, records_behind, ending):
            function(deeds)
            self.assertEqual(deeds, self.DEEDS)

    def test_the_kinds_of_what_is_told(self):
        told = answers(self.DEEDS)
        self.assertEqual([type(answer) for answer in told],
                         [int, int, int, int, str, str, str, list, int, int, str, str, int, type(None)])
        self.assertEqual([type(one) for one in told[7]], [tuple, tuple])
        for record in records_behind(self.DEEDS):
            self.assertEqual([type(part) for part in record], [int, int, int, list, list])
            self.assertIs(type(record), tuple)
        row, amounts = ending(self.DEEDS)
        self.assertEqual((type(row), type(amounts)), (list, list))
        self.assertEqual({type(pair) for pair in amounts}, {tuple})


if __name__ == "__main__":
    unittest.main()
