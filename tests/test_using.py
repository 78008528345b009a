"""Point 3: use, draw, scrap; and when a batch must rest, is ripe, is too old."""

import unittest

from tests.helper import GREATEST, CallTest, ask, batches_left, begun, later, mixed


class Use(CallTest):
    def test_tells_how_much_it_has_yet(self):
        calls = later(mixed(10, 20), 5) + [("use", 1, 4), ("use", 1, 6), ("use", 0, 10), ("use", 1, 10)]
        self.assertEqual(ask(calls)[-4:], [[16], [10], [0], [0]])

    def test_no_such_batch(self):
        self.refused(begun(), ("use", 0, 1), -2)
        self.refused(later(mixed(10), 5), ("use", 1, 1), -2)
        self.refused(later(mixed(10), 5), ("use", GREATEST, 1), -2)

    def test_kilograms(self):
        ripe = later(mixed(10), 5)
        self.refused(ripe, ("use", 0, 0), -22)
        self.answered(ripe, ("use", 0, 1), [9])
        self.answered(ripe, ("use", 0, 10), [0])
        self.refused(ripe, ("use", 0, 11), -6)
        self.refused(ripe, ("use", 0, GREATEST), -6)
        self.refused(ripe + [("use", 0, 10)], ("use", 0, 1), -6)

    def test_it_must_rest_until_its_minutes_have_gone(self):
        self.refused(mixed(10), ("use", 0, 1), -13)
        self.refused(later(mixed(10), 4), ("use", 0, 1), -13)
        self.answered(later(mixed(10), 5), ("use", 0, 1), [9])

    def test_the_last_good_minute_and_the_one_behind_it(self):
        self.answered(later(mixed(10), 10), ("use", 0, 1), [9])
        self.refused(later(mixed(10), 11), ("use", 0, 1), -14)
        self.refused(later(mixed(10), 10000), ("use", 0, 1), -14)

    def test_one_that_neednt_rest(self):
        self.answered(mixed(10, rest=0), ("use", 0, 1), [9])
        self.answered(mixed(10, rest=0, good=0), ("use", 0, 1), [9])
        self.refused(later(mixed(10, rest=0, good=0), 1), ("use", 0, 1), -14)

    def test_one_that_is_good_for_a_single_minute(self):
        same = mixed(10, rest=7, good=7)
        self.refused(later(same, 6), ("use", 0, 1), -13)
        self.answered(later(same, 7), ("use", 0, 1), [9])
        self.refused(later(same, 8), ("use", 0, 1), -14)

    def test_the_greatest_rest_and_good(self):
        same = mixed(10, rest=10000, good=100000)
        self.refused(later(same, 9999), ("use", 0, 1), -13)
        self.answered(later(same, 10000), ("use", 0, 1), [9])
        self.answered(same + [("minutes", 10000)] * 10, ("use", 0, 1), [9])
        self.refused(same + [("minutes", 10000)] * 10 + [("minutes", 1)], ("use", 0, 1), -14)

    def test_minutes_count_from_when_it_was_mixed(self):
        calls = later(later(mixed(), 100) + [("mix", 0, 10)], 4)
        self.refused(calls, ("use", 0, 1), -13)
        self.answered(later(calls, 1), ("use", 0, 1), [9])
        self.answered(later(calls, 6), ("use", 0, 1), [9])
        self.refused(later(calls, 7), ("use", 0, 1), -14)

    def test_order_of_refusals(self):
        self.refused(mixed(10), ("use", 1, 0), -2)
        self.refused(mixed(10), ("use", 0, 0), -22)
        self.refused(later(mixed(10), 11), ("use", 0, 0), -22)
        self.refused(mixed(10), ("use", 0, 11), -6)
        self.refused(later(mixed(10), 11), ("use", 0, 11), -6)


class Draw(CallTest):
    def test_the_lesser_number_first(self):
        ripe = later(mixed(10, 20, 30), 5)
        self.answered(ripe, ("draw", 0, 1), [1, 0, 1])
        self.answered(ripe, ("draw", 0, 10), [1, 0, 10])
        self.answered(ripe, ("draw", 0, 11), [2, 0, 10, 1, 1])
        self.answered(ripe, ("draw", 0, 60), [3, 0, 10, 1, 20, 2, 30])

    def test_what_is_drawn_is_gone(self):
        calls = later(mixed(10, 20), 5) + [("draw", 0, 14), ("draw", 0, 16), ("draw", 0, 1)]
        self.assertEqual(ask(calls)[-3:], [[2, 0, 10, 1, 4], [1, 1, 16], [-12]])
        self.assertEqual(batches_left(calls), [0, 0])

    def test_a_ripe_batch_with_nothing_in_it(self):
        calls = later(mixed(10, 20, 30), 5) + [("use", 0, 10), ("use", 2, 30)]
        self.answered(calls, ("draw", 0, 20), [1, 1, 20])
        self.refused(calls + [("draw", 0, 20)], ("draw", 0, 1), -12)

    def test_no_such_recipe(self):
        self.refused(begun(), ("draw", 0, 1), -2)
        self.refused(later(mixed(10), 5), ("draw", 2, 1), -2)
        self.refused(later(mixed(10), 5), ("draw", GREATEST, 1), -2)

    def test_kilograms(self):
        ripe = later(mixed(10, 20), 5)
        self.refused(ripe, ("draw", 0, 0), -22)
        self.answered(ripe, ("draw", 0, 30), [2, 0, 10, 1, 20])
        self.refused(ripe, ("draw", 0, 31), -12)
        self.refused(ripe, ("draw", 0, GREATEST), -12)

    def test_more_than_a_thousand_may_be_drawn(self):
        ripe = later(mixed(1000, 1000, 1000), 5)
        self.answered(ripe, ("draw", 0, 2500), [3, 0, 1000, 1, 1000, 2, 500])

    def test_only_what_has_rested_and_isnt_too_old(self):
        # Mixed in minutes 0, 6 and 12; in minute 12 they are too old, ripe and at rest.
        calls = later(later(mixed(10), 6) + [("mix", 0, 20)], 6) + [("mix", 0, 30)]
        self.answered(calls, ("draw", 0, 20), [1, 1, 20])
        self.refused(calls, ("draw", 0, 21), -12)
        self.answered(later(calls, 4), ("draw", 0, 20), [1, 1, 20])
        self.refused(later(calls, 4), ("draw", 0, 21), -12)
        self.answered(later(calls, 5), ("draw", 0, 30), [1, 2, 30])
        self.refused(later(calls, 5), ("draw", 0, 31), -12)

    def test_edges_of_ripeness(self):
        self.refused(later(mixed(10), 4), ("draw", 0, 1), -12)
        self.answered(later(mixed(10), 5), ("draw", 0, 1), [1, 0, 1])
        self.answered(later(mixed(10), 10), ("draw", 0, 1), [1, 0, 1])
        self.refused(later(mixed(10), 11), ("draw", 0, 1), -12)
        self.answered(mixed(10, rest=0, good=0), ("draw", 0, 10), [1, 0, 10])

    def test_only_batches_of_the_recipe(self):
        calls = later(mixed(10) + [("mix", 1, 20), ("mix", 0, 30)], 5)
        self.answered(calls, ("draw", 0, 40), [2, 0, 10, 2, 30])
        self.answered(calls, ("draw", 1, 20), [1, 1, 20])
        self.refused(calls, ("draw", 1, 21), -12)

    def test_all_40_batches(self):
        calls = later(mixed(*[2] * 40), 5)
        wanted = [number for batch in range(40) for number in (batch, 2)]
        self.answered(calls, ("draw", 0, 80), [40] + wanted)

    def test_order_of_refusals(self):
        self.refused(mixed(10), ("draw", 2, 0), -2)
        self.refused(mixed(10), ("draw", 2, 100), -2)
        self.refused(mixed(10), ("draw", 0, 0), -22)
        self.refused(mixed(), ("draw", 1, 0), -22)


class Scrap(CallTest):
    def test_tells_how_much_was_scrapped(self):
        calls = later(mixed(10, 20), 5) + [("use", 1, 3), ("minutes", 6), ("scrap", 1), ("scrap", 0)]
        self.assertEqual(ask(calls)[-2:], [[17], [10]])
        self.assertEqual(batches_left(calls), [0, 0])

    def test_no_such_batch(self):
        self.refused(begun(), ("scrap", 0), -2)
        self.refused(later(mixed(10), 11), ("scrap", 1), -2)
        self.refused(later(mixed(10), 11), ("scrap", GREATEST), -2)

    def test_one_that_has_none(self):
        self.refused(later(mixed(10), 11) + [("scrap", 0)], ("scrap", 0), -6)
        self.refused(later(mixed(10), 5) + [("use", 0, 10), ("minutes", 6)], ("scrap", 0), -6)
        self.refused(mixed(10) + [("rework", 0, 10, 0, 10), ("minutes", 11)], ("scrap", 0), -6)

    def test_one_that_isnt_too_old(self):
        self.refused(mixed(10), ("scrap", 0), -16)
        self.refused(later(mixed(10), 5), ("scrap", 0), -16)
        self.refused(later(mixed(10), 10), ("scrap", 0), -16)
        self.answered(later(mixed(10), 11), ("scrap", 0), [10])
        self.refused(mixed(10, rest=0, good=0), ("scrap", 0), -16)
        self.answered(later(mixed(10, rest=0, good=0), 1), ("scrap", 0), [10])

    def test_having_none_goes_ahead_of_not_being_too_old(self):
        self.refused(later(mixed(10), 5) + [("use", 0, 10)], ("scrap", 0), -6)

    def test_what_is_scrapped_cant_be_worked_in_again(self):
        self.refused(later(mixed(10), 11) + [("scrap", 0)], ("rework", 0, 10, 0, 1), -6)


if __name__ == "__main__":
    unittest.main()
