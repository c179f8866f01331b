"""Tests of glovepairs.box.answers: best, plain and needs."""

import itertools
import time
import unittest

from asking import MOST, ask, begins, best, box, check, last, left, needs, plain, right


def plans_by_the_words(lefts, rights):
    """Each plan that tells no right one twice, with its gaps, the earlier ones first."""
    none = len(rights)
    for plan in itertools.product(range(none + 1), repeat=len(lefts)):
        told = [number for number in plan if number != none]
        if len(set(told)) == len(told):
            yield plan, [abs(lefts[n] - rights[r]) for n, r in enumerate(plan) if r != none]


def best_by_the_words(differ, lefts, rights):
    can_be = [(-len(gaps), sum(gaps), plan) for plan, gaps in plans_by_the_words(lefts, rights)
              if all(gap <= differ for gap in gaps)]
    fewest, off, earliest = min(can_be)
    as_good = [found for found in can_be if found[:2] == (fewest, off)]
    return [-fewest, off, len(as_good), *earliest]


def plain_by_the_words(differ, lefts, rights):
    left_over = sorted((size, number) for number, size in enumerate(lefts))
    right_over = sorted((size, number) for number, size in enumerate(rights))
    plan = [len(rights)] * len(lefts)
    gaps = []
    while left_over and right_over:
        (left_size, left_one), (right_size, right_one) = left_over[0], right_over[0]
        if abs(left_size - right_size) <= differ:
            plan[left_one] = right_one
            gaps.append(abs(left_size - right_size))
            del left_over[0], right_over[0]
        elif left_size < right_size:
            del left_over[0]
        else:
            del right_over[0]
    return [len(gaps), sum(gaps), *plan]


def needs_by_the_words(lefts, rights, pairs):
    if len(lefts) < pairs or len(rights) < pairs:
        return [-6]
    return [min(max(gaps, default=0) for plan, gaps in plans_by_the_words(lefts, rights)
                if len(gaps) >= pairs)]


def small_boxes(sizes, most):
    """What two sides there are, with up to so many gloves of these sizes on each."""
    sides = [side for count in range(most + 1) for side in itertools.product(sizes, repeat=count)]
    return itertools.product(sides, sides)


FIVES = (
    ([100, 200, 300, 400, 500], [103, 210, 301, 450, 1000]),
    ([500, 300, 100, 400, 200], [301, 1000, 450, 103, 210]),
    ([0, 1000, 500, 500, 1], [1000, 0, 499, 502, 501]),
    ([7, 7, 7, 8, 8], [8, 8, 7, 6, 9]),
    ([10, 30, 50, 70, 90], [20, 40, 60, 80, 100]),
    ([90, 10, 70, 30, 50], [0, 20, 40, 60, 80]),
    ([0, 0, 0, 0, 0], [1000, 1000, 1000, 1000, 1000]),
)


class Best(unittest.TestCase):
    def test_pairs_then_off_then_as_good_then_the_plan(self):
        self.assertEqual(last(*box(5, [10], [13]), best()), [1, 3, 1, 0])
        filled = box(10, [100, 200, 300], [303, 105, 198])
        self.assertEqual(last(*filled, best()), [3, 10, 1, 1, 2, 0])
        filled = box(10, [100, 250, 300], [303, 105, 198, 600])
        self.assertEqual(last(*filled, best()), [2, 8, 1, 1, 4, 0])

    def test_an_empty_box(self):
        self.assertEqual(ask(best()), [[0, 0, 1]])
        self.assertEqual(last(begins(1000), best()), [0, 0, 1])
        self.assertEqual(last(*box(5, [1], [1]), begins(5), best()), [0, 0, 1])

    def test_without_left_ones_the_plan_has_no_number(self):
        for count in range(1, 6):
            with self.subTest(count):
                self.assertEqual(last(*box(1000, [], [10] * count), best()), [0, 0, 1])

    def test_without_right_ones_each_number_is_0(self):
        for count in range(1, 6):
            with self.subTest(count):
                answer = [0, 0, 1] + [0] * count
                self.assertEqual(last(*box(1000, [10] * count, []), best()), answer)

    def test_no_pair_can_be(self):
        self.assertEqual(last(*box(5, [10, 20], [30, 40, 50]), best()), [0, 0, 1, 3, 3])
        self.assertEqual(last(*box(0, [10], [11]), best()), [0, 0, 1, 1])

    def test_at_the_beginning_a_pair_may_not_differ(self):
        calls = [left(10), left(20), right(21), right(10), best()]
        self.assertEqual(last(*calls), [1, 0, 1, 1, 2])

    def test_more_pairs_ahead_of_less_off(self):
        self.assertEqual(last(*box(10, [10, 20], [20, 25]), best()), [2, 15, 1, 0, 1])
        self.assertEqual(last(*box(10, [10, 20, 30], [20, 30, 40]), best())[:2], [3, 30])
        self.assertEqual(last(*box(10, [10, 20, 30], [40, 30, 20]), best())[:2], [3, 30])
        self.assertEqual(last(*box(9, [10, 20, 30], [40, 30, 20]), best()), [2, 0, 1, 3, 2, 1])

    def test_less_off_where_there_are_as_many_pairs(self):
        self.assertEqual(last(*box(10, [10], [15, 12, 8, 11, 3]), best()), [1, 1, 1, 3])
        self.assertEqual(last(*box(10, [3, 15, 11, 8, 12], [10]), best()), [1, 1, 1, 1, 1, 0, 1, 1])
        self.assertEqual(last(*box(30, [10, 40], [40, 10]), best()), [2, 0, 1, 1, 0])

    def test_a_difference_of_just_what_is_allowed_and_one_more(self):
        for differ in (0, 1, 7, 499, 500):
            with self.subTest(differ):
                for size in (500 - differ, 500 + differ):
                    calls = box(differ, [500], [size])
                    self.assertEqual(last(*calls, best()), [1, differ, 1, 0])
                    self.assertEqual(last(*box(differ, [size], [500]), best()), [1, differ, 1, 0])
        for differ in (0, 1, 7, 499):
            with self.subTest(differ):
                for size in (499 - differ, 501 + differ):
                    self.assertEqual(last(*box(differ, [500], [size]), best()), [0, 0, 1, 1])
                    self.assertEqual(last(*box(differ, [size], [500]), best()), [0, 0, 1, 1])

    def test_as_wide_as_can_be(self):
        self.assertEqual(last(*box(1000, [0], [1000]), best()), [1, 1000, 1, 0])
        self.assertEqual(last(*box(999, [0], [1000]), best()), [0, 0, 1, 1])
        answer = [5, 5000, 120, 0, 1, 2, 3, 4]
        self.assertEqual(last(*box(1000, [0] * 5, [1000] * 5), best()), answer)
        self.assertEqual(last(*box(1000, [1000] * 5, [0] * 5), best()), answer)

    def test_of_two_as_good_the_earlier(self):
        self.assertEqual(last(*box(0, [10], [10, 10]), best()), [1, 0, 2, 0])
        self.assertEqual(last(*box(5, [10], [13, 7]), best()), [1, 3, 2, 0])
        self.assertEqual(last(*box(5, [10], [7, 13]), best()), [1, 3, 2, 0])
        self.assertEqual(last(*box(30, [10, 20], [30, 25]), best()), [2, 25, 2, 0, 1])
        self.assertEqual(last(*box(30, [20, 10], [30, 25]), best()), [2, 25, 2, 0, 1])

    def test_none_is_the_highest_number(self):
        self.assertEqual(last(*box(0, [10, 10], [10]), best()), [1, 0, 2, 0, 1])
        self.assertEqual(last(*box(5, [7, 13], [10]), best()), [1, 3, 2, 0, 1])
        self.assertEqual(last(*box(0, [10] * 3, [10] * 2), best()), [2, 0, 6, 0, 1, 2])
        self.assertEqual(last(*box(0, [10] * 5, [10]), best()), [1, 0, 5, 0, 1, 1, 1, 1])

    def test_the_first_left_one_for_which_they_differ(self):
        # The first one has but one place; the others may change theirs.
        filled = box(5, [100, 10, 10], [10, 10, 100])
        self.assertEqual(last(*filled, best()), [3, 0, 2, 2, 0, 1])
        filled = box(5, [10, 100, 10], [10, 10, 100])
        self.assertEqual(last(*filled, best()), [3, 0, 2, 0, 2, 1])
        # The lower number at the first counts, whatever the later ones have.
        filled = box(20, [20, 10, 20], [10, 20])
        self.assertEqual(last(*filled, best()), [2, 0, 2, 1, 0, 2])
        filled = box(20, [10, 20, 20, 10], [20, 10])
        self.assertEqual(last(*filled, best()), [2, 0, 4, 1, 0, 2, 2])

    def test_worse_ones_are_not_counted(self):
        # Beside the best one there are one with 2 pairs, some with 1, and one with none.
        self.assertEqual(last(*box(10, [10, 20], [10, 20]), best()), [2, 0, 1, 0, 1])
        self.assertEqual(last(*box(10, [10, 12], [10, 12]), best()), [2, 0, 1, 0, 1])

    def test_5_and_5_of_one_size(self):
        for size in (0, 500, 1000):
            with self.subTest(size):
                filled = box(0, [size] * 5, [size] * 5)
                self.assertEqual(last(*filled, best()), [5, 0, 120, 0, 1, 2, 3, 4])

    def test_its_plan_is_one_that_check_takes(self):
        for lefts, rights in FIVES:
            for differ in (0, 1, 10, 100, 1000):
                with self.subTest(lefts=lefts, rights=rights, differ=differ):
                    filled = box(differ, lefts, rights)
                    pairs, off, as_good, *plan = last(*filled, best())
                    self.assertEqual(last(*filled, check(*plan)), [pairs, off])

    def test_small_boxes(self):
        for lefts, rights in small_boxes((1, 2, 4), 3):
            for differ in (0, 1, 2):
                answer = best_by_the_words(differ, lefts, rights)
                self.assertEqual(last(*box(differ, lefts, rights), best()), answer)

    def test_full_boxes(self):
        for lefts, rights in FIVES:
            for differ in (0, 1, 10, 100, 1000):
                with self.subTest(lefts=lefts, rights=rights, differ=differ):
                    answer = best_by_the_words(differ, lefts, rights)
                    self.assertEqual(last(*box(differ, lefts, rights), best()), answer)


class Plain(unittest.TestCase):
    def test_pairs_then_off_then_the_plan(self):
        self.assertEqual(last(*box(5, [10], [13]), plain()), [1, 3, 0])
        self.assertEqual(last(*box(5, [10, 20], [11, 23]), plain()), [2, 4, 0, 1])

    def test_boxes_empty_on_one_side_or_both(self):
        self.assertEqual(ask(plain()), [[0, 0]])
        self.assertEqual(last(begins(1000), plain()), [0, 0])
        for count in range(1, 6):
            with self.subTest(count):
                self.assertEqual(last(*box(1000, [], [10] * count), plain()), [0, 0])
                self.assertEqual(last(*box(1000, [10] * count, []), plain()), [0, 0] + [0] * count)

    def test_by_size_and_told_by_number(self):
        # By size the left ones are 1, 2, 0 and the right ones 2, 0, 1.
        filled = box(5, [30, 10, 20], [21, 33, 11])
        self.assertEqual(last(*filled, plain()), [3, 5, 1, 2, 0])
        # By size the left ones are 3, 0, 2, 1 and the right ones 1, 3, 0, 2.
        filled = box(5, [20, 40, 30, 10], [31, 11, 41, 21])
        self.assertEqual(last(*filled, plain()), [4, 4, 3, 2, 0, 1])

    def test_of_one_size_by_number(self):
        self.assertEqual(last(*box(5, [10, 10], [10, 10]), plain()), [2, 0, 0, 1])
        self.assertEqual(last(*box(5, [10, 10], [10]), plain()), [1, 0, 0, 1])
        self.assertEqual(last(*box(5, [10], [10, 10]), plain()), [1, 0, 0])
        self.assertEqual(last(*box(5, [20, 10, 20, 10], [10, 11, 20]), plain()), [3, 1, 2, 0, 3, 1])
        self.assertEqual(last(*box(5, [10, 11, 20], [20, 10, 20, 10]), plain()), [3, 1, 1, 3, 0])
        self.assertEqual(last(*box(0, [7] * 5, [7] * 5), plain()), [5, 0, 0, 1, 2, 3, 4])
        self.assertEqual(last(*box(0, [7] * 5, [7] * 3), plain()), [3, 0, 0, 1, 2, 3, 3])
        self.assertEqual(last(*box(0, [7] * 3, [7] * 5), plain()), [3, 0, 0, 1, 2])

    def test_by_size_as_numbers(self):
        self.assertEqual(last(*box(5, [100, 9], [9, 100]), plain()), [2, 0, 1, 0])
        self.assertEqual(last(*box(1000, [100, 9], [1000, 20]), plain()), [2, 911, 0, 1])

    def test_the_left_one_of_lesser_size_is_left_over(self):
        self.assertEqual(last(*box(5, [10, 50], [50]), plain()), [1, 0, 1, 0])
        self.assertEqual(last(*box(5, [50, 10, 20], [52, 300]), plain()), [1, 2, 0, 2, 2])
        self.assertEqual(last(*box(5, [10, 20, 30, 40, 50], [50]), plain()), [1, 0, 1, 1, 1, 1, 0])

    def test_the_right_one_of_lesser_size_is_left_over(self):
        self.assertEqual(last(*box(5, [50], [10, 50]), plain()), [1, 0, 1])
        self.assertEqual(last(*box(5, [52, 300], [50, 10, 20]), plain()), [1, 2, 0, 3])
        self.assertEqual(last(*box(5, [50], [10, 20, 30, 40, 50]), plain()), [1, 0, 4])

    def test_left_over_on_both_sides(self):
        filled = box(5, [10, 40, 50, 90], [20, 30, 51, 70, 92])
        self.assertEqual(last(*filled, plain()), [2, 3, 5, 5, 2, 4])
        self.assertEqual(last(*box(5, [10, 20], [30, 40]), plain()), [0, 0, 2, 2])
        self.assertEqual(last(*box(5, [30, 40], [10, 20, 21]), plain()), [0, 0, 3, 3])

    def test_a_difference_of_just_what_is_allowed_and_one_more(self):
        for differ in (0, 1, 7, 499):
            with self.subTest(differ):
                for just, more in ((500 - differ, 499 - differ), (500 + differ, 501 + differ)):
                    self.assertEqual(last(*box(differ, [500], [just]), plain()), [1, differ, 0])
                    self.assertEqual(last(*box(differ, [just], [500]), plain()), [1, differ, 0])
                    self.assertEqual(last(*box(differ, [500], [more]), plain()), [0, 0, 1])
                    self.assertEqual(last(*box(differ, [more], [500]), plain()), [0, 0, 1])
        self.assertEqual(last(*box(1000, [0], [1000]), plain()), [1, 1000, 0])

    def test_at_the_beginning_a_pair_may_not_differ(self):
        self.assertEqual(last(left(10), left(20), right(21), right(10), plain()), [1, 0, 1, 2])

    def test_more_off_than_best(self):
        filled = box(10, [10, 20], [20])
        self.assertEqual(ask(*filled, plain(), best())[-2:], [[1, 10, 0, 1], [1, 0, 1, 1, 0]])
        filled = box(10, [20], [10, 20])
        self.assertEqual(ask(*filled, plain(), best())[-2:], [[1, 10, 0], [1, 0, 1, 1]])
        filled = box(10, [10, 20, 30], [30, 20])
        self.assertEqual(ask(*filled, plain(), best())[-2:], [[2, 20, 1, 0, 2], [2, 0, 1, 2, 1, 0]])

    def test_as_good_as_best(self):
        filled = box(10, [10, 20], [20, 25])
        self.assertEqual(ask(*filled, plain(), best())[-2:], [[2, 15, 0, 1], [2, 15, 1, 0, 1]])
        # As good, but not the earliest: that one has the lower number at the first left one.
        filled = box(30, [10, 20], [30, 25])
        self.assertEqual(ask(*filled, plain(), best())[-2:], [[2, 25, 1, 0], [2, 25, 2, 0, 1]])

    def test_never_fewer_pairs_than_best(self):
        # If the smallest of both sides may be a pair, any plan with them apart can be changed
        # into one with them together and no fewer pairs; if not, the lesser has no other either.
        for lefts, rights in small_boxes((1, 2, 4), 3):
            for differ in (0, 1, 2):
                pairs = last(*box(differ, lefts, rights), plain())[:2]
                most = last(*box(differ, lefts, rights), best())[:2]
                self.assertEqual(pairs[0], most[0])
                self.assertGreaterEqual(pairs[1], most[1])

    def test_small_boxes(self):
        for lefts, rights in small_boxes((1, 2, 4), 3):
            for differ in (0, 1, 2):
                answer = plain_by_the_words(differ, lefts, rights)
                self.assertEqual(last(*box(differ, lefts, rights), plain()), answer)

    def test_full_boxes(self):
        for lefts, rights in FIVES:
            for differ in (0, 1, 10, 100, 1000):
                with self.subTest(lefts=lefts, rights=rights, differ=differ):
                    answer = plain_by_the_words(differ, lefts, rights)
                    self.assertEqual(last(*box(differ, lefts, rights), plain()), answer)


class Needs(unittest.TestCase):
    def test_one_pair_some_and_as_many_as_there_are(self):
        for pairs, answer in ((1, 1), (2, 3), (3, 10), (4, 50), (5, 500)):
            for lefts, rights in FIVES[:2]:
                with self.subTest(pairs=pairs, lefts=lefts):
                    self.assertEqual(last(*box(0, lefts, rights), needs(pairs)), [answer])

    def test_no_pairs_need_nothing(self):
        self.assertEqual(ask(needs(0)), [[0]])
        self.assertEqual(last(*box(5, [], [10]), needs(0)), [0])
        self.assertEqual(last(*box(5, [10], []), needs(0)), [0])
        self.assertEqual(last(*box(5, [0] * 5, [1000] * 5), needs(0)), [0])

    def test_fewer_left_ones(self):
        for count in range(5):
            filled = box(1000, [10] * count, [10] * 5)
            with self.subTest(count):
                self.assertEqual(last(*filled, needs(count)), [0])
                for pairs in (count + 1, 5, 6, 1001, 65536, MOST):
                    self.assertEqual(last(*filled, needs(pairs)), [-6])

    def test_fewer_right_ones(self):
        for count in range(5):
            filled = box(1000, [10] * 5, [10] * count)
            with self.subTest(count):
                self.assertEqual(last(*filled, needs(count)), [0])
                for pairs in (count + 1, 5, 6, 1001, 65536, MOST):
                    self.assertEqual(last(*filled, needs(pairs)), [-6])

    def test_fewer_on_both_sides(self):
        for pairs in (1, 2, 6, MOST):
            with self.subTest(pairs):
                self.assertEqual(ask(needs(pairs)), [[-6]])
        filled = box(1000, [10] * 5, [10] * 5)
        for pairs, answer in ((5, 0), (6, -6), (MOST - 1, -6), (MOST, -6)):
            with self.subTest(pairs):
                self.assertEqual(last(*filled, needs(pairs)), [answer])

    def test_what_was_told_counts_for_nothing(self):
        for differ in (0, 1, 9, 10, 11, 50, 1000, 1001, MOST):
            with self.subTest(differ):
                filled = box(differ, [10, 20, 30], [20, 31, 80])
                self.assertEqual(ask(*filled, needs(1), needs(2), needs(3))[-3:], [[0], [1], [50]])

    def test_as_wide_as_can_be(self):
        self.assertEqual(last(left(0), right(1000), needs(1)), [1000])
        self.assertEqual(last(left(1000), right(0), needs(1)), [1000])
        self.assertEqual(last(*box(0, [0] * 5, [1000] * 5), needs(5)), [1000])

    def test_the_widest_pair_counts_and_no_other(self):
        # Both plans with two pairs are off by 20, but in one of them no pair differs by more than 10.
        self.assertEqual(last(*box(0, [0, 10], [20, 10]), needs(2)), [10])
        self.assertEqual(last(*box(0, [0, 10], [10, 20]), needs(2)), [10])
        self.assertEqual(last(*box(0, [100, 200], [107, 203]), needs(2)), [7])

    def test_the_nearest_can_not_always_be_taken(self):
        # One pair at 0 is there, but then the other one would be at 100.
        self.assertEqual(last(*box(0, [100, 150], [150, 200]), needs(2)), [50])
        self.assertEqual(last(*box(0, [100, 150], [150, 200]), needs(1)), [0])

    def test_a_right_one_has_one_left_one(self):
        self.assertEqual(last(*box(0, [10, 10], [10, 500]), needs(2)), [490])
        self.assertEqual(last(*box(0, [10, 500], [10, 10]), needs(2)), [490])

    def test_with_so_much_best_has_so_many_pairs_and_with_less_it_has_not(self):
        for lefts, rights in FIVES:
            for pairs in range(1, 6):
                with self.subTest(lefts=lefts, rights=rights, pairs=pairs):
                    enough = last(*box(0, lefts, rights), needs(pairs))[0]
                    made = last(*box(enough, lefts, rights), best())[0]
                    self.assertGreaterEqual(made, pairs)
                    if enough > 0:
                        made = last(*box(enough - 1, lefts, rights), best())[0]
                        self.assertLess(made, pairs)

    def test_small_boxes(self):
        for lefts, rights in small_boxes((1, 2, 4), 3):
            for pairs in range(5):
                answer = needs_by_the_words(lefts, rights, pairs)
                self.assertEqual(last(*box(0, lefts, rights), needs(pairs)), answer)

    def test_full_boxes(self):
        for lefts, rights in FIVES:
            for pairs in range(7):
                with self.subTest(lefts=lefts, rights=rights, pairs=pairs):
                    answer = needs_by_the_words(lefts, rights, pairs)
                    self.assertEqual(last(*box(0, lefts, rights), needs(pairs)), answer)


class NothingIsChanged(unittest.TestCase):
    FILLED = box(5, [30, 10, 20], [21, 33, 11])
    BEHIND = [check(1, 2, 0), check(3, 3, 0), check(2, 3, 3), check(0, 0, 3), check(1, 2, 0, 3),
              plain(), best(), left(12), right(34), check(3, 2, 0, 4), plain(), best()]

    def test_what_follows_answers_as_if_not_asked(self):
        answer = [[3, 5], [1, 1], [-6, 0], [-6, 0], [-1], [3, 5, 1, 2, 0], [3, 5, 1, 1, 2, 0],
                  [3], [3], [3, 6], [3, 5, 1, 2, 0, 4], [3, 5, 2, 1, 2, 0, 4]]
        self.assertEqual(ask(*self.FILLED, *self.BEHIND)[7:], answer)
        for call in (best(), plain(), needs(0), needs(2), needs(3), needs(4), needs(MOST)):
            with self.subTest(call):
                self.assertEqual(ask(*self.FILLED, call, *self.BEHIND)[8:], answer)

    def test_asked_again_the_same_is_answered(self):
        for call in (best(), plain(), needs(2), needs(4)):
            with self.subTest(call):
                first, second, third = ask(*self.FILLED, call, call, call)[-3:]
                self.assertEqual(first, second)
                self.assertEqual(second, third)

    def test_a_box_still_empty(self):
        calls = [best(), plain(), needs(1), left(10), right(10), check(0)]
        self.assertEqual(ask(*calls), [[0, 0, 1], [0, 0], [-6], [0], [0], [1, 0]])

    def test_a_line_of_60_calls_at_full_boxes_in_a_moment(self):
        for three in ([best()] * 3, [needs(5)] * 3, [best(), needs(5), needs(1)]):
            calls = [*box(1000, [7] * 5, [7] * 5), *three, *[plain()] * 46]
            self.assertEqual(len(calls), 60)
            with self.subTest(three):
                started = time.process_time()
                answered = ask(*calls)
                # Some hundredths of a second are usual; a slow machine is not to fail.
                self.assertLess(time.process_time() - started, 5)
                self.assertEqual(answered[-1], [5, 0, 0, 1, 2, 3, 4])


if __name__ == "__main__":
    unittest.main()
