"""Point 2: mix, rework; and which lots are in a batch."""

import unittest

from tests.helper import GREATEST, CallTest, all_batches, ask, batches_left, begun, lots_in, lots_left, parts


def stocked(*calls):
    """Two materials with a lot of 10,000 each, then these calls."""
    return begun(2) + [("buy", 0, 10000), ("buy", 1, 10000)] + list(calls)


def recipe(share=50, some=(1, 1), rest=0, good=10):
    return ("recipe", rest, good, share, parts(*some))


class Mix(CallTest):
    def test_numbers_rise_over_all_recipes(self):
        calls = stocked(recipe(), recipe(some=(1,)), ("mix", 0, 10), ("minutes", 3), ("mix", 1, 4), ("mix", 0, 3))
        self.assertEqual(ask(calls)[-4:], [[0], [3], [1], [2]])
        self.assertEqual(lots_left(calls), [10000 - 5 - 4 - 2, 10000 - 5 - 1])
        self.assertEqual([told[:3] for told in all_batches(calls)], [[0, 10, 0], [1, 4, 3], [0, 3, 3]])

    def test_no_such_recipe(self):
        self.refused(stocked(), ("mix", 0, 1), -2)
        self.refused(stocked(recipe()), ("mix", 1, 1), -2)
        self.refused(stocked(recipe()), ("mix", GREATEST, 1), -2)

    def test_kilograms(self):
        self.refused(stocked(recipe()), ("mix", 0, 0), -22)
        self.answered(stocked(recipe()), ("mix", 0, 1), [0])
        self.answered(stocked(recipe()), ("mix", 0, 1000), [0])
        self.refused(stocked(recipe()), ("mix", 0, 1001), -22)
        self.refused(stocked(recipe()), ("mix", 0, GREATEST), -22)

    def test_40_batches_and_no_more(self):
        full = stocked(recipe(), *[("mix", 0, 1)] * 40)
        self.assertEqual(ask(full)[6:], [[number] for number in range(40)])
        self.refused(full, ("mix", 0, 1), -28)

    def test_batches_that_are_used_up_count_too(self):
        full = stocked(recipe(), *[("mix", 0, 1)] * 40) + [("draw", 0, 40)]
        self.refused(full, ("mix", 0, 1), -28)

    def test_too_little_of_a_material(self):
        before = begun(2) + [recipe(), ("buy", 0, 5), ("buy", 1, 4)]
        self.refused(before, ("mix", 0, 10), -12)
        self.answered(before, ("mix", 0, 9), [0])
        self.answered(before + [("buy", 1, 1)], ("mix", 0, 10), [0])
        self.refused(begun(2) + [recipe()], ("mix", 0, 1), -12)

    def test_the_first_material_is_not_taken_where_the_last_lacks(self):
        before = begun(2) + [recipe(), ("buy", 0, 5)]
        self.assertEqual(ask(before + [("mix", 0, 10), ("buy", 1, 5), ("mix", 0, 10)])[-3:], [[-12], [1], [0]])

    def test_a_greater_mix_may_do_where_a_lesser_does_not(self):
        # Of 3, 3, 1 parts: 2 kilograms are 1, 1, 0; 3 are 1, 1, 1; 4 are 2, 2, 0.
        before = begun(3) + [recipe(some=(3, 3, 1)), ("buy", 0, 5), ("buy", 1, 5)]
        self.refused(before, ("mix", 0, 3), -12)
        self.answered(before, ("mix", 0, 4), [0])

    def test_a_material_with_no_parts_is_not_asked_for(self):
        before = begun(3) + [recipe(some=(1, 0, 1)), ("buy", 0, 5), ("buy", 2, 5)]
        self.answered(before, ("mix", 0, 10), [0])

    def test_order_of_refusals(self):
        full = stocked(recipe(), *[("mix", 0, 1)] * 40)
        spent = begun(1) + [recipe(some=(1,)), ("buy", 0, 40)] + [("mix", 0, 1)] * 40
        self.refused(full, ("mix", 1, 0), -2)
        self.refused(full, ("mix", 1, 1), -2)
        self.refused(full, ("mix", 0, 0), -22)
        self.refused(full, ("mix", 0, 1001), -22)
        self.refused(begun(2) + [recipe()], ("mix", 0, 0), -22)
        self.refused(begun(2) + [recipe()], ("mix", 0, 1001), -22)
        self.refused(spent, ("mix", 0, 1), -28)


class LotsOfAMix(CallTest):
    def test_the_lesser_number_first(self):
        calls = begun(2) + [recipe(), ("buy", 1, 3), ("buy", 0, 4), ("buy", 1, 9), ("buy", 0, 9), ("mix", 0, 10)]
        self.assertEqual(lots_left(calls), [0, 0, 7, 8])
        self.assertEqual(lots_in(calls), [[0, 1, 2, 3]])

    def test_a_lot_that_ends_within_a_batch_and_one_that_ends_with_it(self):
        calls = begun(1) + [recipe(some=(1,)), ("buy", 0, 5), ("buy", 0, 5), ("buy", 0, 5)]
        calls += [("mix", 0, 3), ("mix", 0, 7), ("mix", 0, 5)]
        self.assertEqual(ask(calls)[-3:], [[0], [1], [2]])
        self.assertEqual(lots_left(calls), [0, 0, 0])
        self.assertEqual(lots_in(calls), [[0], [0, 1], [2]])

    def test_only_lots_that_something_was_taken_of(self):
        calls = begun(3) + [recipe(some=(1, 0, 1)), ("buy", 0, 9), ("buy", 1, 9), ("buy", 2, 9), ("mix", 0, 1)]
        self.assertEqual(lots_in(calls), [[0]])

    def test_a_mix_over_all_40_lots(self):
        calls = begun(1) + [recipe(some=(1,))] + [("buy", 0, 2)] * 40
        self.refused(calls, ("mix", 0, 81), -12)
        self.assertEqual(lots_in(calls + [("mix", 0, 80)]), [list(range(40))])


class Rework(CallTest):
    def test_takes_of_the_batch_and_of_the_lots(self):
        calls = stocked(recipe(), ("mix", 0, 10), ("minutes", 4), ("rework", 0, 7, 0, 2))
        self.assertEqual(ask(calls)[-1], [1])
        self.assertEqual(batches_left(calls), [8, 7])
        self.assertEqual(lots_left(calls), [10000 - 5 - 3, 10000 - 5 - 2])
        self.assertEqual(all_batches(calls)[1][:3], [0, 7, 4])

    def test_no_such_recipe_or_batch(self):
        before = stocked(recipe(), ("mix", 0, 10))
        self.refused(before, ("rework", 1, 2, 0, 1), -2)
        self.refused(before, ("rework", 0, 2, 1, 1), -2)
        self.refused(before, ("rework", GREATEST, 2, 0, 1), -2)
        self.refused(before, ("rework", 0, 2, GREATEST, 1), -2)

    def test_kilograms(self):
        before = stocked(recipe(100), ("mix", 0, 1000))
        self.refused(before, ("rework", 0, 0, 0, 1), -22)
        self.refused(before, ("rework", 0, 0, 0, 0), -22)
        self.answered(before, ("rework", 0, 1, 0, 1), [1])
        self.answered(before, ("rework", 0, 1000, 0, 1), [1])
        self.refused(before, ("rework", 0, 1001, 0, 1), -22)
        self.refused(before, ("rework", 0, GREATEST, 0, 1), -22)

    def test_kilograms_worked_in_again(self):
        before = stocked(recipe(100), ("mix", 0, 1000))
        self.refused(before, ("rework", 0, 10, 0, 0), -22)
        self.answered(before, ("rework", 0, 10, 0, 1), [1])
        self.answered(before, ("rework", 0, 10, 0, 10), [1])
        self.refused(before, ("rework", 0, 10, 0, 11), -22)
        self.answered(before, ("rework", 0, 1000, 0, 1000), [1])
        self.refused(before, ("rework", 0, 1000, 0, 1001), -22)
        self.refused(before, ("rework", 0, 10, 0, GREATEST), -22)

    def test_a_batch_of_another_recipe(self):
        before = stocked(recipe(), recipe(), ("mix", 0, 10), ("mix", 1, 10))
        self.refused(before, ("rework", 1, 4, 0, 1), -16)
        self.refused(before, ("rework", 0, 4, 1, 1), -16)
        self.answered(before, ("rework", 1, 4, 1, 1), [2])

    def test_a_batch_that_has_less(self):
        before = stocked(recipe(), ("mix", 0, 10), ("use", 0, 4))
        self.answered(before, ("rework", 0, 100, 0, 6), [1])
        self.refused(before, ("rework", 0, 100, 0, 7), -6)
        self.refused(before + [("use", 0, 6)], ("rework", 0, 100, 0, 1), -6)

    def test_hundredths_that_just_do(self):
        for share, kilograms, most in ((30, 10, 3), (33, 100, 33), (33, 10, 3), (1, 100, 1), (1, 199, 1),
                                       (1, 200, 2), (99, 1000, 990), (99, 999, 989), (50, 3, 1)):
            before = stocked(recipe(share), ("mix", 0, 1000))
            self.answered(before, ("rework", 0, kilograms, 0, most), [1])
            self.refused(before, ("rework", 0, kilograms, 0, most + 1), -75)

    def test_no_hundredths_and_all_hundredths(self):
        self.refused(stocked(recipe(0), ("mix", 0, 1000)), ("rework", 0, 1000, 0, 1), -75)
        self.refused(stocked(recipe(1), ("mix", 0, 1000)), ("rework", 0, 99, 0, 1), -75)
        self.answered(stocked(recipe(100), ("mix", 0, 1000)), ("rework", 0, 1000, 0, 1000), [1])

    def test_all_of_it_worked_in_again_asks_for_no_material(self):
        calls = begun(1) + [recipe(100, (1,)), ("buy", 0, 10), ("mix", 0, 10), ("rework", 0, 10, 0, 10)]
        self.assertEqual(ask(calls)[-1], [1])
        self.assertEqual(batches_left(calls), [0, 10])
        self.assertEqual(lots_in(calls), [[0], [0]])

    def test_40_batches_and_no_more(self):
        before = stocked(recipe(), ("mix", 0, 100), *[("mix", 0, 1)] * 38)
        self.answered(before, ("rework", 0, 2, 0, 1), [39])
        self.refused(before + [("mix", 0, 1)], ("rework", 0, 2, 0, 1), -28)

    def test_too_little_of_a_material(self):
        before = begun(1) + [recipe(50, (1,)), ("buy", 0, 15), ("mix", 0, 10)]
        self.answered(before, ("rework", 0, 8, 0, 3), [1])
        self.refused(before, ("rework", 0, 9, 0, 3), -12)
        self.assertEqual(ask(before + [("rework", 0, 9, 0, 3), ("use", 0, 10)])[-1], [0])

    def test_however_old_the_batch_is(self):
        mixed = stocked(recipe(rest=5, good=10), ("mix", 0, 10))
        for minutes in (1, 4, 5, 10, 11, 10000):
            self.answered(mixed + [("minutes", minutes)], ("rework", 0, 4, 0, 2), [1])

    def test_the_new_batch_rests_and_ages_from_its_own_minute(self):
        calls = stocked(recipe(rest=5, good=10), ("mix", 0, 10), ("minutes", 11), ("rework", 0, 4, 0, 2))
        self.refused(calls + [("minutes", 4)], ("use", 1, 1), -13)
        self.answered(calls + [("minutes", 5)], ("use", 1, 1), [3])
        self.answered(calls + [("minutes", 10)], ("use", 1, 1), [3])
        self.refused(calls + [("minutes", 11)], ("use", 1, 1), -14)

    def test_order_of_refusals(self):
        # Batch 0 of recipe 0 has 3 yet, batch 1 is of recipe 1; there are 38 more and nothing in lots.
        full = begun(1) + [recipe(10, (1,)), recipe(10, (1,)), ("buy", 0, 42), ("mix", 0, 3)]
        full += [("mix", 1, 1)] * 39
        self.refused(full, ("rework", 2, 0, 0, 0), -2)
        self.refused(full, ("rework", 0, 0, 40, 0), -2)
        self.refused(full, ("rework", 2, 10, 40, 1), -2)
        self.refused(full, ("rework", 0, 0, 1, 9), -22)
        self.refused(full, ("rework", 0, 1001, 1, 9), -22)
        self.refused(full, ("rework", 0, 5, 1, 6), -22)
        self.refused(full, ("rework", 0, 5, 1, 0), -22)
        self.refused(full, ("rework", 0, 5, 1, 5), -16)
        self.refused(full, ("rework", 0, 5, 1, 1), -16)
        self.refused(full, ("rework", 0, 5, 0, 4), -6)
        self.refused(full, ("rework", 0, 100, 0, 4), -6)
        self.refused(full, ("rework", 0, 5, 0, 3), -75)
        self.refused(full, ("rework", 0, 100, 0, 3), -28)
        self.refused(full[:-1] + [("use", 1, 1)], ("rework", 0, 100, 0, 3), -12)


class LotsOfARework(CallTest):
    def test_what_is_worked_in_again_brings_its_lots(self):
        calls = begun(1) + [recipe(50, (1,)), ("buy", 0, 6), ("buy", 0, 4), ("buy", 0, 9), ("mix", 0, 10)]
        calls += [("rework", 0, 4, 0, 1)]
        self.assertEqual(lots_in(calls), [[0, 1], [0, 1, 2]])

    def test_lots_of_one_batch_are_told_once_and_rising(self):
        calls = begun(2) + [("buy", 1, 9), ("buy", 0, 5), recipe(50, (1, 1)), ("mix", 0, 10), ("buy", 0, 9)]
        calls += [("rework", 0, 4, 0, 2)]
        self.assertEqual(lots_in(calls), [[0, 1], [0, 1, 2]])

    def test_worked_in_again_what_was_worked_in_again(self):
        calls = begun(1) + [recipe(50, (1,)), ("buy", 0, 4), ("buy", 0, 2), ("buy", 0, 2), ("buy", 0, 2)]
        calls += [("mix", 0, 4), ("rework", 0, 4, 0, 2), ("rework", 0, 4, 1, 2), ("rework", 0, 4, 2, 2)]
        self.assertEqual(ask(calls)[-4:], [[0], [1], [2], [3]])
        self.assertEqual(lots_in(calls), [[0], [0, 1], [0, 1, 2], [0, 1, 2, 3]])
        self.assertEqual(batches_left(calls), [2, 2, 2, 4])

    def test_the_earlier_batch_keeps_its_own_lots_alone(self):
        calls = begun(1) + [recipe(50, (1,)), ("buy", 0, 4), ("buy", 0, 9), ("mix", 0, 4), ("rework", 0, 4, 0, 1)]
        self.assertEqual(lots_in(calls)[0], [0])


if __name__ == "__main__":
    unittest.main()
