"""Points 6 and 7: cg_choices, cg_beside, cg_who, cg_look, cg_see, cg_frees, cg_better, cg_sums."""

import unittest

from tests.helper import BACK, BETTER, FREES, LARGEST, MOST, STATE, SUMS, TAKE
from tests.helper import beside, cabin, check_refused, choices, give, last, leave, look, move, party, pay, see, seen, shut
from tests.helper import swap, told, who

TWELVE = [cabin(0, 2 * k) for k in range(12)]
EIGHT = [party() for p in range(8)]

# Three cabins and four parties: party 0 has cabin 2, party 1 waits, party 2 is gone, party 3 has cabin 0.
SHIP = [cabin(4, 7, 2, 3, 0), cabin(20, 500, 0, 1, 1), cabin(4, 8, 3, 6, 1), party(5, 1, 1), party(1, 0, 0), party(2, 3, 1),
        party(3, 2, 0), give(0, 2), give(3, 0), leave(2)]


class Refused(unittest.TestCase):
    def test_no_such_party_or_one_that_is_gone(self):
        for p in (2, 4, 7, 8, LARGEST):
            for call in (choices(p), look(p)):
                with self.subTest(call=call):
                    check_refused(self, SHIP, call, -2)

    def test_no_such_cabin(self):
        for k in (3, 11, 12, LARGEST):
            for call in (beside(k), who(k), see(k)):
                with self.subTest(call=call):
                    check_refused(self, SHIP, call, -2)

    def test_on_a_ship_without_any(self):
        for call in (choices(0), look(0), beside(0), who(0), see(0)):
            with self.subTest(call=call):
                check_refused(self, [], call, -2)

    def test_nobody_has_it(self):
        check_refused(self, SHIP, who(1), -6)
        check_refused(self, SHIP + [leave(0)], who(2), -6)
        check_refused(self, [cabin(0, 0), party(), shut(0, 1)], who(0), -6)

    def test_a_cabin_that_is_not_there_is_told_before_that_nobody_has_it(self):
        check_refused(self, [cabin(0, 0), party()], who(1), -2)

    def test_a_party_that_waits_has_no_cabin_whatever_its_number(self):
        self.assertEqual(last([cabin(0, 0), party(), who(0)]), [-6])

    def test_asking_changes_nothing(self):
        calls = SHIP + [party(), BACK]
        asked = [choices(0), beside(0), who(0), look(0), see(0), FREES, BETTER, SUMS, STATE]
        self.assertEqual(seen(calls + asked), seen(calls))
        self.assertEqual(told(calls + asked + asked)[-9:], told(calls + asked)[-9:])


class Choices(unittest.TestCase):
    def test_those_that_do_and_those_of_them_that_are_free(self):
        calls = SHIP + [choices(0), choices(1), choices(3)]
        self.assertEqual(told(calls)[-3:], [[1, 4, 0], [3, 7, 2], [2, 5, 0]])

    def test_one_out_of_order_is_free_and_does_not_do(self):
        calls = [cabin(0, 0), cabin(0, 1), party(), choices(0), shut(1, 1), choices(0), shut(0, 1), choices(0), FREES]
        self.assertEqual(told(calls)[3:], [[2, 3, 3], [2], [1, 1, 1], [2], [0, 0, 0], [2, 3, 1]])

    def test_berths_class_and_steps(self):
        calls = [cabin(0, 0, 1, 2, 1), cabin(0, 1, 1, 1, 1), cabin(0, 2, 0, 2, 1), cabin(0, 3, 1, 2, 0),
                 cabin(0, 4, 3, 6, 1), party(2, 1, 1), party(2, 1, 0), party(1, 0, 0), party(6, 3, 1)]
        found = told(calls + [choices(p) for p in range(4)])
        self.assertEqual(found[-4:], [[2, 17, 17], [3, 25, 25], [5, 31, 31], [1, 16, 16]])

    def test_its_own_cabin_does_and_is_not_free(self):
        calls = [cabin(0, 0), cabin(0, 1), party(), party(), give(0, 1), choices(0), choices(1)]
        self.assertEqual(told(calls)[-2:], [[2, 3, 1], [2, 3, 1]])

    def test_what_they_paid_for_last_counts(self):
        calls = [cabin(0, 0, 1), cabin(0, 1, 2), party(), choices(0), pay(0, 2), choices(0), pay(0, 3), choices(0)]
        self.assertEqual(told(calls)[3:], [[2, 3, 3], [0], [1, 2, 2], [2], [0, 0, 0]])

    def test_the_twelfth_cabin(self):
        calls = [cabin(0, k, 0) for k in range(11)] + [cabin(1, 0, 1), party(1, 1), party(), choices(0), choices(1)]
        self.assertEqual(told(calls)[-2:], [[1, 2048, 2048], [12, 4095, 4095]])
        self.assertEqual(told(calls + [give(0, 11), choices(0), choices(1)])[-2:], [[1, 2048, 0], [12, 4095, 2047]])

    def test_no_cabins(self):
        self.assertEqual(last([party(), choices(0)]), [0, 0, 0])


class Beside(unittest.TestCase):
    def test_one_apart_on_one_deck(self):
        calls = [cabin(0, 10), cabin(0, 11), cabin(0, 12), cabin(0, 14), cabin(0, 8)]
        found = told(calls + [beside(k) for k in range(5)])
        self.assertEqual(found[5:], [[1, 2, 2], [2, 5, 5], [1, 2, 2], [0, 0, 0], [0, 0, 0]])

    def test_not_on_another_deck(self):
        calls = [cabin(0, 10), cabin(1, 11), cabin(1, 10), cabin(2, 9), cabin(1, 9)]
        found = told(calls + [beside(k) for k in range(5)])
        self.assertEqual(found[5:], [[0, 0, 0], [1, 4, 4], [2, 18, 18], [0, 0, 0], [1, 4, 4]])

    def test_the_first_and_the_last_place(self):
        calls = [cabin(0, 0), cabin(0, 1), cabin(0, 499), cabin(0, 500), cabin(1, 0), cabin(1, 500), cabin(20, 499)]
        found = told(calls + [beside(k) for k in range(7)])
        self.assertEqual(found[7:], [[1, 2, 2], [1, 1, 1], [1, 8, 8], [1, 4, 4], [0, 0, 0], [0, 0, 0], [0, 0, 0]])

    def test_the_end_of_a_deck_is_not_beside_the_beginning_of_the_next(self):
        calls = [cabin(0, 500), cabin(1, 0), cabin(1, 499), cabin(2, 500), cabin(2, 499), cabin(3, 0)]
        found = told(calls + [beside(k) for k in range(6)])
        self.assertEqual(found[6:], [[0, 0, 0], [0, 0, 0], [0, 0, 0], [1, 16, 16], [1, 8, 8], [0, 0, 0]])

    def test_deck_and_place_are_not_mistaken_for_one_another(self):
        self.assertEqual(told([cabin(3, 7), cabin(4, 7), cabin(7, 4), beside(0), beside(1)])[3:], [[0, 0, 0], [0, 0, 0]])

    def test_those_of_them_that_are_free(self):
        calls = [cabin(0, 4), cabin(0, 5), cabin(0, 6), party(), party(), give(0, 0), beside(1), give(1, 2), beside(1)]
        self.assertEqual(told(calls + [leave(0), beside(1)])[6:], [[2, 5, 4], [0], [2, 5, 0], [1], [2, 5, 1]])

    def test_how_many_there_are_whether_free_or_not(self):
        calls = [cabin(0, 4), cabin(0, 5), party(), give(0, 0), beside(1), beside(0)]
        self.assertEqual(told(calls)[-2:], [[1, 1, 0], [1, 2, 2]])

    def test_one_out_of_order_is_beside_and_free(self):
        calls = [cabin(0, 4), cabin(0, 5), shut(0, 1), beside(1), beside(0)]
        self.assertEqual(told(calls)[-2:], [[1, 1, 1], [1, 2, 2]])

    def test_the_twelfth_cabin(self):
        calls = [cabin(0, 3 * k) for k in range(11)] + [cabin(0, 31), beside(10), beside(11), party(), give(0, 11)]
        self.assertEqual(told(calls + [beside(10)])[12:], [[1, 2048, 2048], [1, 1024, 1024], [0], [0], [1, 2048, 0]])

    def test_a_cabin_alone_is_not_beside_itself(self):
        self.assertEqual(last([cabin(0, 0), beside(0)]), [0, 0, 0])


class Who(unittest.TestCase):
    def test_which_party_and_how_many_persons(self):
        self.assertEqual(told(SHIP + [who(0), who(2)])[-2:], [[3, 3], [0, 5]])

    def test_behind_a_move_a_swap_and_a_take(self):
        calls = [cabin(0, 0), cabin(0, 1), cabin(0, 2), party(1), party(2), party(3), give(0, 0), give(1, 1)]
        found = told(calls + [swap(0, 1), who(0), who(1), move(0, 2), who(1), who(2), TAKE, who(1)])
        self.assertEqual(found[8:], [[0], [1, 2], [0, 1], [1], [-6], [0, 1], [1], [2, 3]])

    def test_the_eighth_party_and_the_twelfth_cabin(self):
        self.assertEqual(last(TWELVE + EIGHT[:7] + [party(6), give(7, 11), who(11)]), [7, 6])

    def test_a_party_with_more_berths_than_persons(self):
        self.assertEqual(last([cabin(0, 0, 3, 6), party(2), give(0, 0), who(0)]), [0, 2])


class Look(unittest.TestCase):
    def test_persons_class_steps_cabin(self):
        self.assertEqual(told(SHIP + [look(0), look(1), look(3)])[-3:], [[5, 1, 1, 3], [1, 0, 0, 0], [3, 2, 0, 1]])

    def test_the_class_they_paid_for_not_the_one_they_have(self):
        calls = [cabin(0, 0, 3), party(1, 1), give(0, 0), look(0), pay(0, 2), look(0)]
        self.assertEqual(told(calls)[3:], [[1, 1, 0, 1], [1], [1, 2, 0, 1]])

    def test_the_twelfth_cabin(self):
        self.assertEqual(last(TWELVE + [party(6, 0, 1), give(0, 11), look(0)]), [6, 0, 1, 12])

    def test_the_least_and_the_greatest_that_may_be(self):
        self.assertEqual(told([party(1, 0, 0), party(6, 3, 1), look(0), look(1)])[2:], [[1, 0, 0, 0], [6, 3, 1, 0]])


class See(unittest.TestCase):
    def test_class_berths_deck_place_steps_order(self):
        found = told(SHIP + [see(0), see(1), see(2)])
        self.assertEqual(found[-3:], [[2, 3, 4, 7, 0, 0], [0, 1, 20, 500, 1, 0], [3, 6, 4, 8, 1, 0]])

    def test_out_of_order_and_in_order_again(self):
        calls = [cabin(1, 2, 3, 4, 0), see(0), shut(0, 1), see(0), shut(0, 0), see(0)]
        self.assertEqual(told(calls)[1:], [[3, 4, 1, 2, 0, 0], [1], [3, 4, 1, 2, 0, 1], [1], [3, 4, 1, 2, 0, 0]])

    def test_who_has_it_does_not_matter(self):
        calls = [cabin(5, 6, 1, 2, 1), party(), give(0, 0), see(0)]
        self.assertEqual(last(calls), [1, 2, 5, 6, 1, 0])

    def test_the_twelfth(self):
        self.assertEqual(last(TWELVE[:11] + [cabin(20, 499, 3, 5, 0), see(11)]), [3, 5, 20, 499, 0, 0])


class Frees(unittest.TestCase):
    def test_the_free_cabins_and_the_parties_that_wait(self):
        self.assertEqual(last(SHIP + [FREES]), [1, 2, 2])

    def test_a_cabin_out_of_order_is_free(self):
        calls = [cabin(0, 0), cabin(0, 1), cabin(0, 2), party(), give(0, 1), shut(2, 1), FREES]
        self.assertEqual(last(calls), [2, 5, 0])

    def test_none_and_all(self):
        self.assertEqual(last([FREES]), [0, 0, 0])
        self.assertEqual(last(TWELVE + EIGHT + [FREES]), [12, 4095, 255])
        self.assertEqual(last(TWELVE + EIGHT + [TAKE, FREES]), [4, 3840, 0])

    def test_the_eighth_party_and_the_twelfth_cabin(self):
        calls = TWELVE + EIGHT + [give(p, p) for p in range(7)] + [FREES, give(7, 11), FREES, leave(7), FREES]
        self.assertEqual(told(calls)[27:], [[5, 3968, 128], [0], [4, 1920, 0], [12], [5, 3968, 0]])

    def test_a_party_that_is_gone_does_not_wait(self):
        self.assertEqual(told([party(), party(), leave(0), FREES])[-1], [0, 0, 2])

    def test_as_many_as_are_told_elsewhere(self):
        calls = SHIP + [MOST, FREES, shut(1, 1), MOST]
        self.assertEqual(told(calls)[-4:], [[1, 1, 1], [1, 2, 2], [1], [0, 1, 1]])


class Better(unittest.TestCase):
    def test_whose_cabin_is_of_a_better_class_than_they_paid_for(self):
        self.assertEqual(last(SHIP + [BETTER]), [1, 1])

    def test_it_is_what_they_paid_for_last_that_counts(self):
        calls = [cabin(0, 0, 2), party(), give(0, 0), BETTER, pay(0, 1), BETTER, pay(0, 2), BETTER, pay(0, 1), BETTER]
        self.assertEqual(told(calls)[3:], [[1, 1], [0], [1, 1], [1], [0, 0], [2], [1, 1]])

    def test_it_is_the_cabin_they_have_now_that_counts(self):
        calls = [cabin(0, 0, 0), cabin(0, 1, 1), party(), party(), give(0, 0), BETTER, move(0, 1), BETTER, give(1, 0)]
        calls += [swap(0, 1), BETTER, leave(1), BETTER]
        self.assertEqual(told(calls)[5:], [[0, 0], [0], [1, 1], [0], [0], [1, 2], [2], [0, 0]])

    def test_those_who_wait_are_not_among_them(self):
        self.assertEqual(last([cabin(0, 0, 3), party(), BETTER]), [0, 0])

    def test_more_berths_or_no_steps_are_no_better_class(self):
        self.assertEqual(last([cabin(0, 0, 1, 6, 1), party(1, 1, 0), give(0, 0), BETTER]), [0, 0])

    def test_all_eight_and_the_eighth_alone(self):
        better = [cabin(0, k, 1) for k in range(8)] + EIGHT
        self.assertEqual(last(better + [TAKE, BETTER]), [8, 255])
        self.assertEqual(last(better + [give(7, 0), BETTER]), [1, 128])

    def test_none(self):
        self.assertEqual(last([BETTER]), [0, 0])


class Sums(unittest.TestCase):
    def test_parties_persons_cabins(self):
        self.assertEqual(last(SHIP + [SUMS]), [2, 8, 2])

    def test_none_and_all(self):
        self.assertEqual(last([SUMS]), [0, 0, 0])
        self.assertEqual(last(TWELVE + EIGHT + [SUMS]), [0, 0, 0])
        self.assertEqual(last(TWELVE + [party(6) for p in range(8)] + [TAKE, SUMS]), [8, 48, 8])

    def test_neither_those_who_wait_nor_those_who_are_gone(self):
        calls = [cabin(0, 0), cabin(0, 1), party(2), party(4), party(5), give(0, 0), give(1, 1), SUMS, leave(0), SUMS]
        self.assertEqual(told(calls)[7:], [[2, 6, 2], [1], [1, 4, 1]])

    def test_a_cabin_out_of_order_is_free(self):
        self.assertEqual(last([cabin(0, 0), cabin(0, 1), party(), give(0, 0), shut(1, 1), SUMS]), [1, 1, 1])
