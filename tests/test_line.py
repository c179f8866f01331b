"""Tests of glovepairs.box.answers: lines with all seven calls, and the form of the answers."""

import itertools
import unittest

from asking import MOST, ask, begins, best, box, check, last, left, line, needs, plain, right
from glovepairs.box import answers


class Unchangeable(list):
    """A list that fails as soon as it is changed, be it for a while."""

    def refuse(self, *given, **named):
        raise AssertionError("The list handed in was changed.")

    append = extend = insert = pop = remove = clear = sort = reverse = refuse
    __setitem__ = __delitem__ = __iadd__ = __imul__ = refuse


class TheWholeLine(unittest.TestCase):
    # Each call, what it answers.
    WHOLE = (
        (plain(), [0, 0]),
        (needs(1), [-6]),
        (left(10), [0]),
        (right(12), [0]),
        (plain(), [0, 0, 1]),
        (check(0), [-6, 0]),
        (begins(1001), [-1]),
        (check(1), [0, 0]),
        (begins(5), [0]),
        (plain(), [0, 0]),
        (check(), [0, 0]),
        (right(40), [0]),
        (left(37), [0]),
        (left(12), [1]),
        (right(9), [1]),
        (left(1001), [-1]),
        (right(14), [2]),
        (best(), [2, 5, 1, 0, 2]),
        (plain(), [2, 6, 0, 1]),
        (check(0, 1), [2, 6]),
        (check(0, 0), [-6, 1]),
        (check(3, 2), [1, 2]),
        (left(8), [2]),
        (plain(), [3, 6, 0, 2, 1]),
        (needs(3), [3]),
        (check(0, 1, 1), [-7, 2]),
        (check(0, 1), [-1]),
        (begins(1), [0]),
        (plain(), [0, 0]),
        (right(3), [0]),
    )

    def setUp(self):
        self.calls = line(*[call for call, answer in self.WHOLE])

    def test_all_seven_calls_in_one_line(self):
        self.assertEqual({call[0] for call, answer in self.WHOLE}, set(range(7)))
        answered = ask(*[call for call, answer in self.WHOLE])
        for (call, answer), got in zip(self.WHOLE, answered, strict=True):
            with self.subTest(call):
                self.assertEqual(got, answer)

    def test_the_count_is_ahead_of_each_answer(self):
        counted = [[len(answer), *answer] for call, answer in self.WHOLE]
        self.assertEqual(answers(self.calls), line(*counted))

    def test_the_list_handed_in_is_the_same_afterwards(self):
        handed = list(self.calls)
        answers(handed)
        self.assertEqual(handed, self.calls)

    def test_the_list_handed_in_is_not_changed_for_a_while_either(self):
        self.assertEqual(answers(Unchangeable(self.calls)), answers(self.calls))

    def test_asked_twice_the_same_answers(self):
        first = answers(self.calls)
        self.assertEqual(answers(self.calls), first)
        self.assertEqual(answers(list(self.calls)), first)

    def test_an_answer_changed_by_the_asker_is_not_kept(self):
        first = answers(self.calls)
        kept = list(first)
        first.clear()
        self.assertEqual(answers(self.calls), kept)

    def test_whole_numbers_in_a_list(self):
        answered = answers(self.calls)
        self.assertIs(type(answered), list)
        self.assertEqual({type(number) for number in answered}, {int})

    def test_60_calls(self):
        self.assertEqual(len(self.WHOLE), 30)
        # The other half begins anew, and asks only what may be asked so often.
        other = [(call, answer) for call, answer in self.WHOLE[8:] if call[0] not in (4, 6)]
        other = [(begins(0), [0])] * (30 - len(other)) + other
        answered = ask(*[call for call, answer in (*self.WHOLE, *other)])
        self.assertEqual(answered, [answer for call, answer in (*self.WHOLE, *other)])
        self.assertEqual(len(answered), 60)

    def test_nothing_is_kept_from_a_line_to_the_next(self):
        answers(line(*box(1000, [10] * 5, [20] * 5), best(), plain(), needs(3)))
        self.assertEqual(ask(best(), plain(), needs(1)), [[0, 0, 1], [0, 0], [-6]])
        self.assertEqual(ask(left(10), right(20), best(), plain(), needs(1))[2:],
                         [[0, 0, 1, 1], [0, 0, 1], [10]])


class AnyOrder(unittest.TestCase):
    def test_best_plain_and_needs_in_any_order(self):
        filled = box(10, [10, 20, 30], [30, 20])
        asked = ((best(), [2, 0, 1, 2, 1, 0]), (plain(), [2, 20, 1, 0, 2]), (needs(2), [0]),
                 (needs(3), [-6]), (check(1, 0, 2), [2, 20]))
        for order in itertools.permutations(asked):
            with self.subTest([call[0] for call, answer in order]):
                answered = ask(*filled, *[call for call, answer in order])
                self.assertEqual(answered[6:], [answer for call, answer in order])

    def test_gloves_put_in_between_count_from_then_on(self):
        calls = [begins(5), left(10), best(), right(14), best(), right(11), best()]
        self.assertEqual(ask(*calls)[2::2], [[0, 0, 1, 0], [1, 4, 1, 0], [1, 1, 1, 1]])
        calls = [begins(5), left(10), plain(), right(14), plain(), right(11), plain()]
        self.assertEqual(ask(*calls)[2::2], [[0, 0, 0], [1, 4, 0], [1, 1, 1]])
        calls = [begins(5), left(10), needs(1), right(14), needs(1), right(11), needs(1)]
        self.assertEqual(ask(*calls)[2::2], [[-6], [4], [1]])

    def test_begins_in_the_midst(self):
        for call, before, behind in ((best(), [2, 3, 1, 0, 1], [0, 0, 1, 1]),
                                     (plain(), [2, 3, 0, 1], [0, 0, 1]),
                                     (needs(1), [1], [2])):
            with self.subTest(call):
                calls = [*box(5, [10, 20], [11, 22]), call, *box(1, [10], [12]), call]
                self.assertEqual(ask(*calls)[5::4], [before, behind])

    def test_refused_calls_change_nothing_of_what_is_best(self):
        filled = box(5, [10, 20, 30, 40, 50], [12, 22, 32, 42, 52])
        refused = [begins(1001), begins(MOST), left(1001), left(10), right(1001), right(10),
                   check(0), check(1, 0, 2, 3, 4), check(0, 1, 2, 3, 6)]
        answered = ask(*filled, *refused, best(), plain(), needs(6), needs(5))
        self.assertEqual(answered[len(filled):], [
            [-1], [-1], [-1], [-5], [-1], [-5], [-1], [-6, 0], [-1],
            [5, 10, 1, 0, 1, 2, 3, 4], [5, 10, 0, 1, 2, 3, 4], [-6], [2],
        ])


class Form(unittest.TestCase):
    def test_the_plan_of_best_has_no_count_of_its_own(self):
        self.assertEqual(answers(best()), [3, 0, 0, 1])
        self.assertEqual(answers(line(left(5), best())), [1, 0, 4, 0, 0, 1, 0])
        self.assertEqual(answers(line(left(5), right(5), best())), [1, 0, 1, 0, 4, 1, 0, 1, 0])
        self.assertEqual(answers(line(*[left(5)] * 2, right(5), best())),
                         [1, 0, 1, 1, 1, 0, 5, 1, 0, 2, 0, 1])

    def test_the_plan_of_plain_has_no_count_of_its_own(self):
        self.assertEqual(answers(plain()), [2, 0, 0])
        self.assertEqual(answers(line(left(5), plain())), [1, 0, 3, 0, 0, 0])
        self.assertEqual(answers(line(left(5), right(5), plain())), [1, 0, 1, 0, 3, 1, 0, 0])

    def test_a_refusal_of_needs_is_its_number_alone(self):
        self.assertEqual(answers(needs(0)), [1, 0])
        self.assertEqual(answers(needs(1)), [1, -6])
        self.assertEqual(answers(line(left(5), needs(MOST))), [1, 0, 1, -6])

    def test_there_is_a_number_in_the_plan_for_each_left_one(self):
        for lefts, rights in itertools.product(range(6), repeat=2):
            with self.subTest(lefts=lefts, rights=rights):
                filled = box(5, [10] * lefts, [10] * rights)
                self.assertEqual(len(last(*filled, best())), 3 + lefts)
                self.assertEqual(len(last(*filled, plain())), 2 + lefts)


if __name__ == "__main__":
    unittest.main()
