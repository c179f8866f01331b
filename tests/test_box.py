"""Tests of glovepairs.box.answers: begins, left, right, check and the form."""

import itertools
import unittest

from asking import MOST, ask, begins, box, check, last, left, line, right
from glovepairs.box import answers


class Begins(unittest.TestCase):
    def test_answers_0(self):
        self.assertEqual(ask(begins(0)), [[0]])
        self.assertEqual(ask(begins(7)), [[0]])
        self.assertEqual(ask(begins(7), begins(3)), [[0], [0]])

    def test_1000_is_taken(self):
        self.assertEqual(ask(begins(1000)), [[0]])
        self.assertEqual(last(*box(1000, [0], [1000]), check(0)), [1, 1000])

    def test_above_1000(self):
        for differ in (1001, 1002, 65536, MOST):
            with self.subTest(differ):
                self.assertEqual(ask(begins(differ)), [[-1]])

    def test_the_box_is_empty_behind_it(self):
        filled = box(5, [10, 20], [10, 20, 30])
        self.assertEqual(last(*filled, begins(5), check()), [0, 0])
        self.assertEqual(last(*filled, begins(5), check(0, 1)), [-1])
        self.assertEqual(last(*filled, begins(5), left(1)), [0])
        self.assertEqual(last(*filled, begins(5), right(1)), [0])
        self.assertEqual(last(*filled, begins(5), left(1), check(0)), [0, 0])
        self.assertEqual(last(*filled, begins(5), left(1), check(1)), [-1])

    def test_the_box_is_empty_where_a_side_was_full(self):
        filled = box(0, [1] * 5, [1] * 5)
        self.assertEqual(ask(*filled, begins(0), left(2), right(2))[-3:], [[0], [0], [0]])

    def test_the_gloves_behind_it_are_the_new_ones(self):
        calls = box(5, [10], [10]) + box(5, [700], [703])
        self.assertEqual(last(*calls, check(0)), [1, 3])

    def test_its_limit_holds_from_then_on(self):
        self.assertEqual(last(*box(5, [10], [15]), check(0)), [1, 5])
        self.assertEqual(last(*box(5, [10], [16]), check(0)), [-6, 0])
        self.assertEqual(last(begins(5), *box(6, [10], [16]), check(0)), [1, 6])
        self.assertEqual(last(begins(6), *box(5, [10], [16]), check(0)), [-6, 0])
        self.assertEqual(last(begins(6), *box(0, [10], [11]), check(0)), [-6, 0])

    def test_refused_all_is_as_it_was(self):
        filled = box(5, [10, 20], [15, 26])
        for differ in (1001, MOST):
            with self.subTest(differ):
                calls = [*filled, begins(differ), check(0, 2), check(2, 1), left(1), right(1)]
                self.assertEqual(ask(*calls)[-5:], [[-1], [1, 5], [-6, 1], [2], [2]])

    def test_refused_at_the_beginning(self):
        calls = [begins(1001), check(), left(10), right(11), right(10), check(0), check(1)]
        self.assertEqual(ask(*calls), [[-1], [0, 0], [0], [0], [1], [-6, 0], [1, 0]])


class AtTheBeginning(unittest.TestCase):
    def test_the_box_is_empty(self):
        self.assertEqual(ask(check()), [[0, 0]])
        self.assertEqual(ask(check(0)), [[-1]])
        self.assertEqual(ask(left(5)), [[0]])
        self.assertEqual(ask(right(5)), [[0]])

    def test_a_pair_may_not_differ(self):
        self.assertEqual(last(left(10), right(10), check(0)), [1, 0])
        self.assertEqual(last(left(10), right(11), check(0)), [-6, 0])
        self.assertEqual(last(left(11), right(10), check(0)), [-6, 0])


class LeftAndRight(unittest.TestCase):
    SIDES = ((left, right), (right, left))

    def test_the_number_from_0_up(self):
        for put, other in self.SIDES:
            with self.subTest(put.__name__):
                calls = [put(30), put(10), put(10), put(0), put(999)]
                self.assertEqual(ask(*calls), [[0], [1], [2], [3], [4]])

    def test_each_side_is_counted_by_itself(self):
        calls = [left(1), right(1), right(1), left(1), right(1), left(1)]
        self.assertEqual(ask(*calls), [[0], [0], [1], [1], [2], [2]])

    def test_sizes_0_and_1000_are_taken(self):
        for put, other in self.SIDES:
            with self.subTest(put.__name__):
                self.assertEqual(ask(put(0), put(1000)), [[0], [1]])

    def test_above_1000(self):
        for put, other in self.SIDES:
            for size in (1001, 1002, 65536, MOST):
                with self.subTest(put.__name__, size=size):
                    self.assertEqual(ask(put(size)), [[-1]])

    def test_where_there_are_5(self):
        for put, other in self.SIDES:
            with self.subTest(put.__name__):
                calls = [put(1)] * 5 + [put(0), put(1000), other(1)]
                self.assertEqual(ask(*calls)[-3:], [[-5], [-5], [0]])

    def test_both_sides_take_5(self):
        calls = [left(1), right(1)] * 6
        numbers = [[number] for number in (0, 0, 1, 1, 2, 2, 3, 3, 4, 4, -5, -5)]
        self.assertEqual(ask(*calls), numbers)

    def test_above_1000_where_there_are_5(self):
        for put, other in self.SIDES:
            for size in (1001, MOST):
                with self.subTest(put.__name__, size=size):
                    self.assertEqual(last(*[put(1)] * 5, put(size)), [-1])

    def test_what_a_pair_may_differ_is_no_limit_of_a_size(self):
        self.assertEqual(ask(begins(0), left(1000), right(1000)), [[0], [0], [0]])

    def test_one_refused_is_not_in_the_box(self):
        for put, other in self.SIDES:
            with self.subTest(put.__name__):
                self.assertEqual(ask(put(1001), put(5), put(MOST), put(5)), [[-1], [0], [-1], [1]])

    def test_a_left_one_refused_has_no_place_in_a_plan(self):
        calls = [left(10), left(1001), right(10)]
        self.assertEqual(ask(*calls, check(0), check(0, 1))[-2:], [[1, 0], [-1]])
        calls = [left(10)] * 6
        self.assertEqual(last(*calls, check(0, 0, 0, 0, 0)), [0, 0])
        self.assertEqual(last(*calls, check(0, 0, 0, 0, 0, 0)), [-1])

    def test_a_right_one_refused_can_not_be_told(self):
        calls = [left(10), right(10), right(1001)]
        self.assertEqual(ask(*calls, check(1), check(2))[-2:], [[0, 0], [-1]])
        calls = [left(10), *[right(10)] * 6]
        self.assertEqual(ask(*calls, check(4), check(5), check(6))[-3:], [[1, 0], [0, 0], [-1]])

    def test_one_refused_does_not_take_the_place_of_another(self):
        calls = [*[left(10)] * 5, left(20), *[right(10)] * 4, right(30), right(20)]
        self.assertEqual(last(*calls, check(0, 1, 2, 3, 5)), [4, 0])
        self.assertEqual(last(*calls, check(0, 1, 2, 3, 4)), [-6, 4])


class CheckThatCanBe(unittest.TestCase):
    def test_how_many_pairs_then_how_much_off(self):
        filled = box(10, [100, 200, 300], [303, 105, 198])
        self.assertEqual(last(*filled, check(1, 2, 0)), [3, 10])
        self.assertEqual(last(*filled, check(3, 2, 0)), [2, 5])
        self.assertEqual(last(*filled, check(1, 3, 0)), [2, 8])
        self.assertEqual(last(*filled, check(1, 2, 3)), [2, 7])

    def test_some_or_all_have_none(self):
        filled = box(10, [100, 200, 300], [303, 105, 198])
        self.assertEqual(last(*filled, check(1, 3, 3)), [1, 5])
        self.assertEqual(last(*filled, check(3, 2, 3)), [1, 2])
        self.assertEqual(last(*filled, check(3, 3, 0)), [1, 3])
        self.assertEqual(last(*filled, check(3, 3, 3)), [0, 0])

    def test_the_empty_plan(self):
        self.assertEqual(last(begins(10), check()), [0, 0])
        self.assertEqual(last(*box(10, [], [1]), check()), [0, 0])
        self.assertEqual(last(*box(10, [], [1, 2, 3, 4, 5]), check()), [0, 0])

    def test_without_right_ones(self):
        self.assertEqual(last(*box(1000, [1], []), check(0)), [0, 0])
        self.assertEqual(last(*box(1000, [1, 2, 3], []), check(0, 0, 0)), [0, 0])

    def test_a_difference_of_just_what_is_allowed(self):
        for differ in (0, 1, 7, 499, 500):
            with self.subTest(differ):
                self.assertEqual(last(*box(differ, [500], [500 + differ]), check(0)), [1, differ])
                self.assertEqual(last(*box(differ, [500 + differ], [500]), check(0)), [1, differ])
                calls = box(differ, [400, 500], [400 + differ, 500 - differ])
                self.assertEqual(last(*calls, check(0, 1)), [2, 2 * differ])

    def test_either_way_both_are_added(self):
        self.assertEqual(last(*box(9, [10, 20], [19, 11]), check(0, 1)), [2, 18])

    def test_pairs_as_wide_as_can_be(self):
        self.assertEqual(last(*box(1000, [0] * 5, [1000] * 5), check(4, 3, 2, 1, 0)), [5, 5000])
        self.assertEqual(last(*box(1000, [1000] * 5, [0] * 5), check(0, 1, 2, 3, 4)), [5, 5000])

    def test_it_need_not_be_the_best_plan(self):
        self.assertEqual(last(*box(10, [10, 20], [10, 20]), check(1, 0)), [2, 20])

    def test_gloves_put_in_between(self):
        calls = [*box(5, [10], [12]), check(0), left(20), check(0, 1), right(21), check(0, 1)]
        answered = ask(*calls)
        self.assertEqual([answered[3], answered[5], answered[7]], [[1, 2], [1, 2], [2, 3]])


class CheckThatIsNoPlan(unittest.TestCase):
    def test_too_few_or_too_many_numbers(self):
        for count in range(6):
            for told in range(7):
                with self.subTest(count=count, told=told):
                    answer = [0, 0] if told == count else [-1]
                    self.assertEqual(last(*box(5, [10] * count, []), check(*[0] * told)), answer)
                    calls = box(5, [10] * count, [10] * 5)
                    self.assertEqual(last(*calls, check(*[5] * told)), answer)

    def test_the_right_ones_do_not_tell_how_many_numbers(self):
        filled = box(5, [10, 20], [10, 20, 30])
        self.assertEqual(last(*filled, check(0, 1, 2)), [-1])
        self.assertEqual(last(*filled, check(0)), [-1])
        self.assertEqual(last(*filled, check(0, 1)), [2, 0])

    def test_above_the_number_of_right_ones(self):
        for count in range(6):
            filled = box(5, [10], [10] * count)
            with self.subTest(count):
                self.assertEqual(last(*filled, check(count)), [0, 0])
                for number in (count + 1, count + 2, 1000, 65536, MOST):
                    self.assertEqual(last(*filled, check(number)), [-1])

    def test_above_at_any_place(self):
        filled = box(5, [10, 20, 30], [10, 20])
        for number in (3, 1001, MOST):
            with self.subTest(number):
                self.assertEqual(last(*filled, check(number, 1, 2)), [-1])
                self.assertEqual(last(*filled, check(0, number, 2)), [-1])
                self.assertEqual(last(*filled, check(0, 1, number)), [-1])
        self.assertEqual(last(*filled, check(0, 1, 2)), [2, 0])

    def test_ahead_of_one_that_differs_too_much(self):
        filled = box(5, [10, 20, 30], [500, 600, 700])
        self.assertEqual(last(*filled, check(0, 1)), [-1])
        self.assertEqual(last(*filled, check(0, 1, 2, 3)), [-1])
        self.assertEqual(last(*filled, check(0, 1, 4)), [-1])
        self.assertEqual(last(*filled, check(4, 1, 2)), [-1])
        self.assertEqual(last(*filled, check(0, 1, MOST)), [-1])
        self.assertEqual(last(*filled, check(0, 1, 2)), [-6, 0])

    def test_ahead_of_one_told_twice(self):
        filled = box(5, [10, 10, 10], [10, 10])
        self.assertEqual(last(*filled, check(0, 0)), [-1])
        self.assertEqual(last(*filled, check(0, 0, 0, 0)), [-1])
        self.assertEqual(last(*filled, check(0, 0, 3)), [-1])
        self.assertEqual(last(*filled, check(3, 0, 0)), [-1])
        self.assertEqual(last(*filled, check(3, 3, 3)), [-1])
        self.assertEqual(last(*filled, check(MOST, MOST, 0)), [-1])
        self.assertEqual(last(*filled, check(0, 0, 2)), [-7, 1])


class CheckThatDiffersTooMuch(unittest.TestCase):
    def test_one_more_than_allowed_either_way(self):
        for differ in (0, 1, 7, 499):
            with self.subTest(differ):
                self.assertEqual(last(*box(differ, [500], [501 + differ]), check(0)), [-6, 0])
                self.assertEqual(last(*box(differ, [501 + differ], [500]), check(0)), [-6, 0])
        self.assertEqual(last(*box(999, [0], [1000]), check(0)), [-6, 0])
        self.assertEqual(last(*box(999, [1000], [0]), check(0)), [-6, 0])

    def test_the_first_left_one(self):
        filled = box(5, [10, 20, 30, 40, 50], [10, 20, 30, 40, 50])
        self.assertEqual(last(*filled, check(1, 0, 2, 3, 4)), [-6, 0])
        self.assertEqual(last(*filled, check(0, 2, 1, 3, 4)), [-6, 1])
        self.assertEqual(last(*filled, check(0, 1, 4, 2, 3)), [-6, 2])
        self.assertEqual(last(*filled, check(0, 5, 5, 4, 5)), [-6, 3])
        self.assertEqual(last(*filled, check(5, 5, 5, 5, 0)), [-6, 4])

    def test_one_with_none_does_not_differ(self):
        filled = box(0, [10, 500, 900], [900, 1])
        self.assertEqual(last(*filled, check(2, 2, 0)), [1, 0])
        self.assertEqual(last(*filled, check(2, 0, 2)), [-6, 1])

    def test_ahead_of_one_told_twice(self):
        filled = box(5, [10, 10, 300], [10, 100])
        self.assertEqual(last(*filled, check(0, 0, 1)), [-6, 2])
        self.assertEqual(last(*filled, check(0, 0, 0)), [-6, 2])
        self.assertEqual(last(*filled, check(1, 1, 2)), [-6, 0])
        self.assertEqual(last(*filled, check(0, 1, 1)), [-6, 1])
        self.assertEqual(last(*filled, check(0, 0, 2)), [-7, 1])


class CheckThatTellsOneTwice(unittest.TestCase):
    def test_the_first_left_one_that_has_it_again(self):
        filled = box(5, [10] * 5, [10] * 3)
        self.assertEqual(last(*filled, check(0, 0, 1, 2, 3)), [-7, 1])
        self.assertEqual(last(*filled, check(0, 1, 0, 2, 3)), [-7, 2])
        self.assertEqual(last(*filled, check(0, 1, 1, 0, 3)), [-7, 2])
        self.assertEqual(last(*filled, check(0, 1, 2, 0, 1)), [-7, 3])
        self.assertEqual(last(*filled, check(0, 1, 2, 3, 2)), [-7, 4])
        self.assertEqual(last(*filled, check(2, 2, 2, 2, 2)), [-7, 1])
        self.assertEqual(last(*filled, check(3, 1, 3, 3, 1)), [-7, 4])

    def test_none_may_be_told_twice(self):
        filled = box(5, [10] * 5, [10] * 3)
        self.assertEqual(last(*filled, check(3, 3, 3, 3, 3)), [0, 0])
        self.assertEqual(last(*filled, check(3, 0, 3, 1, 3)), [2, 0])
        self.assertEqual(last(*filled, check(3, 3, 0, 3, 0)), [-7, 4])

    def test_right_ones_of_one_size_are_not_the_same(self):
        self.assertEqual(last(*box(0, [10, 10], [10, 10]), check(1, 0)), [2, 0])


class CheckRefused(unittest.TestCase):
    def test_all_is_as_it_was(self):
        filled = box(5, [10, 12], [11, 300])
        refused = ((check(0), [-1]), (check(0, 3), [-1]), (check(MOST, 0), [-1]),
                   (check(0, 1), [-6, 1]), (check(0, 0), [-7, 1]))
        for call, answer in refused:
            with self.subTest(answer, call=call):
                calls = [*filled, call, check(2, 0), check(0, 2), call, left(16), right(1),
                         check(3, 3, 0), begins(MOST), check(0, 3, 3)]
                self.assertEqual(ask(*calls)[5:], [answer, [1, 1], [1, 1], answer, [2], [2],
                                                   [1, 5], [-1], [1, 1]])

    def test_every_plan_of_a_box(self):
        lefts, rights, differ = [10, 14, 20], [12, 19, 9], 5
        filled = box(differ, lefts, rights)
        plans = list(itertools.product(range(5), repeat=3))
        for plan in plans:
            with self.subTest(plan):
                answer = by_the_words(differ, lefts, rights, plan)
                self.assertEqual(last(*filled, check(*plan)), answer)


def by_the_words(differ, lefts, rights, plan):
    """What check answers, written as the document's sentences stand."""
    if len(plan) != len(lefts) or any(number > len(rights) for number in plan):
        return [-1]
    pairs = {n: (lefts[n], rights[r]) for n, r in enumerate(plan) if r < len(rights)}
    gaps = {n: max(pair) - min(pair) for n, pair in pairs.items()}
    far = [n for n in gaps if gaps[n] > differ]
    again = [n for n in gaps if plan[n] in plan[:n]]
    if far:
        return [-6, min(far)]
    if again:
        return [-7, min(again)]
    return [len(gaps), sum(gaps.values())]


class Form(unittest.TestCase):
    MIXED = line(
        check(), right(11), left(10), check(0),
        begins(3), left(10), left(50), right(13), right(1001),
        check(0, 1), check(1, 0), check(0, 0), check(0), begins(1001), right(51), check(0, 1),
    )

    def test_the_count_is_ahead_of_each_answer(self):
        self.assertEqual(answers(begins(5)), [1, 0])
        self.assertEqual(answers(check()), [2, 0, 0])
        self.assertEqual(answers(line(left(5), left(6), right(6), check(1, 0))),
                         [1, 0, 1, 1, 1, 0, 2, 1, 0])

    def test_a_refusal_is_its_number_alone(self):
        self.assertEqual(answers(begins(1001)), [1, -1])
        self.assertEqual(answers(left(1001)), [1, -1])
        self.assertEqual(answers(right(1001)), [1, -1])
        self.assertEqual(answers(line(*[left(1)] * 6)), [1, 0, 1, 1, 1, 2, 1, 3, 1, 4, 1, -5])
        self.assertEqual(answers(line(*[right(1)] * 6)), [1, 0, 1, 1, 1, 2, 1, 3, 1, 4, 1, -5])
        self.assertEqual(answers(check(0)), [1, -1])

    def test_a_left_one_stands_behind_6_and_7(self):
        self.assertEqual(answers(line(left(5), right(6), check(0))), [1, 0, 1, 0, 2, -6, 0])
        self.assertEqual(answers(line(left(6), left(6), right(6), check(0, 0))),
                         [1, 0, 1, 1, 1, 0, 2, -7, 1])

    def test_calls_in_any_order(self):
        self.assertEqual(answers(self.MIXED), [
            2, 0, 0, 1, 0, 1, 0, 2, -6, 0, 1, 0, 1, 0, 1, 1, 1, 0, 1, -1,
            2, 1, 3, 2, -6, 1, 2, -6, 1, 1, -1, 1, -1, 1, 1, 2, 2, 4,
        ])

    def test_60_calls(self):
        tens = [begins(2), left(7), right(9), check(0), check(1),
                check(), right(1001), left(8), check(0, 0), check(0, 1)]
        answer = [1, 0, 1, 0, 1, 0, 2, 1, 2, 2, 0, 0, 1, -1, 1, -1, 1, 1, 2, -7, 1, 2, 1, 2]
        self.assertEqual(answers(line(*tens * 6)), answer * 6)

    def test_60_checks_of_6_numbers(self):
        self.assertEqual(answers(check(*[MOST] * 6) * 60), [1, -1] * 60)

    def test_numbers_that_look_like_calls(self):
        calls = [*box(3, [3, 0], [1, 2]), check(1, 0), check(0, 2), check(2, 2)]
        self.assertEqual(ask(*calls)[-3:], [[2, 2], [1, 2], [0, 0]])

    def test_whole_numbers_in_a_list(self):
        answered = answers(self.MIXED)
        self.assertIs(type(answered), list)
        self.assertEqual({type(number) for number in answered}, {int})

    def test_the_list_handed_in_is_the_same_afterwards(self):
        handed = list(self.MIXED)
        answers(handed)
        self.assertEqual(handed, self.MIXED)

    def test_asked_twice_the_same_answers(self):
        self.assertEqual(answers(self.MIXED), answers(self.MIXED))
        self.assertEqual(answers(left(5)), [1, 0])
        self.assertEqual(answers(left(5)), [1, 0])

    def test_an_answer_changed_by_the_asker_is_not_kept(self):
        answers(self.MIXED).clear()
        self.assertEqual(answers(line(begins(9), left(1))), [1, 0, 1, 0])

    def test_nothing_is_kept_from_a_line_to_the_next(self):
        answers(line(begins(1000), *[left(0)] * 5, *[right(1000)] * 5))
        self.assertEqual(ask(left(10), right(11), check(0)), [[0], [0], [-6, 0]])


if __name__ == "__main__":
    unittest.main()
