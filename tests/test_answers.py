"""Point 1 and the interface: the start, the form of the answers, what is handed in stays as it was."""

import io
import unittest
from contextlib import redirect_stdout

from cabinsgiven.purser import answers
from tests.helper import AGAIN, BACK, BETTER, FREES, LARGEST, MOST, PLAN, START, STATE, SUMS, TAKE
from tests.helper import beside, cabin, check_refused, choices, does, flatten, give, last, leave, look, move, party, pay, see
from tests.helper import shut, split, swap, told, who, would

SOME_CALLS = [
    START, cabin(0, 0, 1, 2, 1), cabin(0, 1, 2, 4, 0), party(2, 1, 1), party(3, 0, 0), does(0, 1), MOST, PLAN,
    give(1, 1), TAKE, MOST, PLAN, leave(0), pay(1, 2), swap(0, 1), shut(1, 1), move(1, 0), would(0), BACK, choices(1),
    beside(0), who(1), look(1), see(1), FREES, BETTER, SUMS, STATE, AGAIN, would(1), START, MOST,
]


class Form(unittest.TestCase):
    def test_each_answer_has_its_count_before_it(self):
        self.assertEqual(answers(flatten(SOME_CALLS)), [
            1, 0, 1, 0, 1, 1, 1, 0, 1, 1, 2, 0, 1, 3, 2, 2, 2, 9, 2, 1, 2, 0, 0, 0, 0, 0, 0,
            1, 1, 1, 1, 3, 0, 0, 0, 9, 0, 0, 0, 0, 0, 0, 0, 0, 0, 1, 1, 1, 0, 1, -2, 1, -16, 1, -33, 1, -2, 1, 7, 3, 1, 2, 0,
            3, 1, 2, 0, 2, 1, 3, 4, 3, 0, 0, 2, 6, 2, 4, 0, 1, 0, 0, 3, 1, 1, 0, 2, 1, 2, 3, 1, 3, 1, 5, 2, 2, 1, 7, 1,
            1, 0, 1, -17, 1, 0, 3, 0, 0, 0])

    def test_all_calls_are_among_them(self):
        self.assertEqual({call[0] for call in SOME_CALLS}, set(range(25)))

    def test_a_start_alone(self):
        self.assertEqual(answers([0]), [1, 0])

    def test_what_is_handed_in_is_as_it_was(self):
        calls = flatten(SOME_CALLS)
        before = list(calls)
        answers(calls)
        self.assertEqual(calls, before)

    def test_nothing_is_kept_from_one_time_to_the_next(self):
        calls = flatten(SOME_CALLS)
        first = answers(calls)
        answers(flatten([START, cabin(0, 5), party(), TAKE]))
        self.assertEqual(answers(calls), first)

    def test_an_answer_is_a_list_of_its_own(self):
        first = answers([0, 11])
        first.append(7)
        self.assertEqual(answers([0, 11]), [1, 0, 3, 0, 0, 0])

    def test_answers_are_whole_numbers_never_true_or_false(self):
        found = answers(flatten(SOME_CALLS))
        self.assertIs(type(found), list)
        self.assertEqual({type(number) for number in found}, {int})

    def test_nothing_is_printed(self):
        with redirect_stdout(io.StringIO()) as printed:
            answers(flatten(SOME_CALLS))
        self.assertEqual(printed.getvalue(), "")


class Start(unittest.TestCase):
    def test_a_new_ship_has_neither_cabins_nor_parties(self):
        self.assertEqual(told([MOST, PLAN, TAKE]), [[0, 0, 0], [0] * 9, [-6]])
        self.assertEqual(told([FREES, BETTER, SUMS, STATE, BACK, AGAIN]), [[0] * 3, [0] * 2, [0] * 3, [0] * 5, [-2], [-2]])

    def test_a_second_start_takes_all_away(self):
        calls = [cabin(0, 0), party(), give(0, 0), party(), START, MOST, does(0, 0), leave(0), shut(0, 1)]
        self.assertEqual(told(calls)[4:], [[0], [0, 0, 0], [-2], [-2], [-2]])

    def test_behind_a_second_start_numbers_and_places_begin_anew(self):
        calls = [cabin(0, place) for place in range(12)] + [party() for p in range(8)] + [START]
        calls += [cabin(0, 0), party(), give(0, 0)]
        self.assertEqual(told(calls)[-4:], [[0], [0], [0], [0]])

    def test_a_start_may_come_many_times(self):
        self.assertEqual(answers([0] * 1000), [1, 0] * 1000)


class NoneThere(unittest.TestCase):
    def setUp(self):
        self.calls = [cabin(0, 0), cabin(0, 1), party(), party(), party(), give(0, 0), give(2, 1), leave(2)]

    def test_no_such_party_or_one_that_is_gone(self):
        for p in (2, 3, 8, LARGEST):
            for call in (give(p, 1), leave(p), move(p, 1), swap(p, 0), swap(0, p), pay(p, 1), does(p, 0), would(p),
                         choices(p), look(p)):
                with self.subTest(call=call):
                    check_refused(self, self.calls, call, -2)

    def test_no_such_cabin(self):
        for k in (2, 12, LARGEST):
            for call in (give(1, k), shut(k, 1), shut(k, 0), move(0, k), does(0, k), beside(k), who(k), see(k)):
                with self.subTest(call=call):
                    check_refused(self, self.calls, call, -2)

    def test_it_is_looked_at_before_all_else(self):
        for call in (give(0, 2), give(2, 0), give(2, 2), shut(2, 2), shut(2, LARGEST), move(1, 2), move(2, 0),
                     swap(2, 2), swap(3, 3), swap(1, 2), swap(2, 1), pay(2, 4), pay(2, 0), pay(3, LARGEST)):
            with self.subTest(call=call):
                check_refused(self, self.calls, call, -2)

    def test_on_a_ship_without_any(self):
        for call in (give(0, 0), leave(0), shut(0, 0), move(0, 0), swap(0, 0), swap(0, 1), pay(0, 0), does(0, 0), would(0),
                     choices(0), beside(0), who(0), look(0), see(0), BACK):
            with self.subTest(call=call):
                check_refused(self, [], call, -2)

    def test_a_refusal_is_its_number_alone(self):
        self.assertEqual(split(answers(flatten([START, does(0, 0), MOST]))), [[0], [-2], [0, 0, 0]])
        self.assertEqual(last([party(), does(0, 0)]), [-2])
        self.assertEqual(last([cabin(0, 0), does(0, 0)]), [-2])
