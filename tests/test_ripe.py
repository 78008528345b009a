"""Points 4 and 5: ripe, next, old, look."""

import unittest

from tests.helper import GREATEST, CallTest, begun, later, mixed, parts

RIPE, NEXT, OLD, LOOK = ("ripe", 0), ("next", 0), ("old",), ("look", 0)


def two_ages():
    """Batch 0 of 10 kilograms, mixed in minute 0, and batch 1 of 20, mixed in minute 3, in which it ends."""
    return later(mixed(10), 3) + [("mix", 0, 20)]


def worked_in(minutes):
    """So many minutes behind batch 0, all of it is worked in again to batch 1."""
    return later(mixed(10), minutes) + [("rework", 0, 10, 0, 10)]


def of_two_recipes():
    """Batches 0 and 2 of recipe 0, at rest for 5 minutes; 1 and 3 of recipe 1, at rest for 2 and good for 4."""
    return begun(1) + [("buy", 0, 200), ("recipe", 5, 10, 0, parts(1)), ("recipe", 2, 4, 0, parts(1)),
                       ("mix", 0, 10), ("mix", 1, 20), ("mix", 0, 30), ("mix", 1, 40)]


class NoneSuch(CallTest):
    def test_no_such_recipe(self):
        for name in ("ripe", "next"):
            self.refused([("begin",)], (name, 0), -2)
            self.refused(begun(8), (name, 0), -2)
            self.refused(mixed(10), (name, 2), -2)
            self.refused(later(mixed(10), 5), (name, 2), -2)
            self.refused(mixed(10), (name, GREATEST), -2)

    def test_no_such_batch(self):
        self.refused([("begin",)], LOOK, -2)
        self.refused(mixed(), LOOK, -2)
        self.refused(mixed(10), ("look", 1), -2)
        self.refused(mixed(10), ("look", GREATEST), -2)


class TheAgesOfABatch(CallTest):
    """Each question through a batch's minutes."""

    def ages(self, before, phase, wait=None):
        """What all four tell of batch 0, of 10 kilograms, mixed in minute 0: the only one there is."""
        self.told(before, LOOK, [0, 10, 0, phase])
        self.told(before, RIPE, [10, 0] if phase == 1 else [0])
        self.told(before, NEXT, [wait] if phase == 0 else [-6])
        self.told(before, OLD, [1, 0] if phase == 2 else [0])

    def test_at_rest_ripe_and_too_old(self):
        self.ages(mixed(10), 0, 5)
        self.ages(later(mixed(10), 1), 0, 4)
        self.ages(later(mixed(10), 4), 0, 1)
        self.ages(later(mixed(10), 5), 1)
        self.ages(later(mixed(10), 10), 1)
        self.ages(later(mixed(10), 11), 2)
        self.ages(later(mixed(10), 10000), 2)

    def test_one_that_neednt_rest(self):
        self.ages(mixed(10, rest=0), 1)
        self.ages(later(mixed(10, rest=0), 10), 1)
        self.ages(later(mixed(10, rest=0), 11), 2)
        self.ages(mixed(10, rest=0, good=0), 1)
        self.ages(later(mixed(10, rest=0, good=0), 1), 2)

    def test_one_that_is_good_for_a_single_minute(self):
        self.ages(later(mixed(10, rest=7, good=7), 6), 0, 1)
        self.ages(later(mixed(10, rest=7, good=7), 7), 1)
        self.ages(later(mixed(10, rest=7, good=7), 8), 2)

    def test_the_greatest_rest_and_good(self):
        same = mixed(10, rest=10000, good=100000)
        self.ages(same, 0, 10000)
        self.ages(later(same, 9999), 0, 1)
        self.ages(later(same, 10000), 1)
        self.ages(same + [("minutes", 10000)] * 10, 1)
        self.ages(same + [("minutes", 10000)] * 10 + [("minutes", 1)], 2)


class Ripe(CallTest):
    def test_no_batch_at_all(self):
        self.told(mixed(), RIPE, [0])

    def test_ripe_batches_of_two_ages(self):
        self.told(later(two_ages(), 1), RIPE, [0])
        self.told(later(two_ages(), 2), RIPE, [10, 0])
        self.told(later(two_ages(), 4), RIPE, [10, 0])
        self.told(later(two_ages(), 5), RIPE, [30, 0, 1])
        self.told(later(two_ages(), 7), RIPE, [30, 0, 1])
        self.told(later(two_ages(), 8), RIPE, [20, 1])
        self.told(later(two_ages(), 10), RIPE, [20, 1])
        self.told(later(two_ages(), 11), RIPE, [0])

    def test_what_is_used_is_not_told(self):
        before = later(mixed(10, 20, 30), 5)
        self.told(before, RIPE, [60, 0, 1, 2])
        self.told(before + [("use", 1, 5)], RIPE, [55, 0, 1, 2])
        self.told(before + [("use", 1, 20)], RIPE, [40, 0, 2])
        self.told(before + [("draw", 0, 31)], RIPE, [29, 2])
        self.told(before + [("draw", 0, 60)], RIPE, [0])

    def test_one_that_was_worked_in_again(self):
        self.told(later(worked_in(5), 4), RIPE, [0])
        self.told(later(worked_in(5), 5), RIPE, [10, 1])
        self.told(later(mixed(10), 5) + [("rework", 0, 4, 0, 3)], RIPE, [7, 0])

    def test_batches_of_other_recipes(self):
        self.told(later(of_two_recipes(), 2), ("ripe", 1), [60, 1, 3])
        self.told(later(of_two_recipes(), 2), RIPE, [0])
        self.told(later(of_two_recipes(), 5), RIPE, [40, 0, 2])
        self.told(later(of_two_recipes(), 5), ("ripe", 1), [0])

    def test_it_tells_what_can_be_drawn(self):
        before = later(two_ages(), 5)
        self.answered(before, ("draw", 0, 30), [2, 0, 10, 1, 20])
        self.refused(before, ("draw", 0, 31), -12)

    def test_all_40_batches(self):
        self.told(later(mixed(*[3] * 40), 5), RIPE, [120] + list(range(40)))


class Next(CallTest):
    def test_no_batch_at_all(self):
        self.told(mixed(), NEXT, [-6])

    def test_the_first_of_two_that_must_rest(self):
        self.told(two_ages(), NEXT, [2])
        self.told(later(two_ages(), 1), NEXT, [1])
        self.told(later(two_ages(), 2), NEXT, [3])
        self.told(later(two_ages(), 4), NEXT, [1])
        self.told(later(two_ages(), 5), NEXT, [-6])

    def test_the_one_that_was_mixed_first_has_nothing_in_it(self):
        self.told(worked_in(2), NEXT, [5])
        self.told(later(worked_in(2), 1), NEXT, [4])
        self.told(later(worked_in(2), 4), NEXT, [1])
        self.told(later(worked_in(2), 5), NEXT, [-6])

    def test_the_one_that_was_mixed_first_has_a_kilogram_yet(self):
        self.told(later(mixed(11), 2) + [("rework", 0, 10, 0, 10)], NEXT, [3])

    def test_ahead_of_it_are_ripe_ones_and_too_old_ones(self):
        self.told(later(mixed(10), 7) + [("mix", 0, 20)], NEXT, [5])
        self.told(later(mixed(10), 70) + [("mix", 0, 20)], NEXT, [5])

    def test_batches_of_other_recipes(self):
        self.told(of_two_recipes(), NEXT, [5])
        self.told(of_two_recipes(), ("next", 1), [2])
        self.told(later(of_two_recipes(), 2), NEXT, [3])
        self.told(later(of_two_recipes(), 2), ("next", 1), [-6])
        self.told(mixed(10), ("next", 1), [-6])

    def test_then_it_is_ripe_and_a_minute_ahead_of_it_is_not(self):
        self.refused(later(two_ages(), 1), ("use", 0, 1), -13)
        self.answered(later(two_ages(), 2), ("use", 0, 1), [9])


class Old(CallTest):
    def test_no_batch_at_all(self):
        self.told([("begin",)], OLD, [0])
        self.told(mixed(), OLD, [0])

    def test_batches_of_two_ages(self):
        self.told(later(two_ages(), 7), OLD, [0])
        self.told(later(two_ages(), 8), OLD, [1, 0])
        self.told(later(two_ages(), 10), OLD, [1, 0])
        self.told(later(two_ages(), 11), OLD, [2, 0, 1])

    def test_batches_of_all_recipes(self):
        self.told(later(of_two_recipes(), 4), OLD, [0])
        self.told(later(of_two_recipes(), 5), OLD, [2, 1, 3])
        self.told(later(of_two_recipes(), 11), OLD, [4, 0, 1, 2, 3])

    def test_one_that_was_used_up_scrapped_or_worked_in_again(self):
        before = later(mixed(10, 20, 30), 5) + [("use", 1, 20), ("use", 2, 1), ("minutes", 6)]
        self.told(before, OLD, [2, 0, 2])
        self.told(before + [("scrap", 0)], OLD, [1, 2])
        self.told(before + [("rework", 0, 29, 2, 29)], OLD, [1, 0])
        self.told(before + [("rework", 0, 28, 2, 28)], OLD, [2, 0, 2])

    def test_it_tells_what_can_be_scrapped(self):
        before = later(two_ages(), 8)
        self.answered(before, ("scrap", 0), [10])
        self.refused(before, ("scrap", 1), -16)

    def test_all_40_batches(self):
        self.told(later(mixed(*[3] * 40), 11), OLD, [40] + list(range(40)))


class Look(CallTest):
    def test_its_recipe_and_its_minute(self):
        before = later(of_two_recipes(), 3) + [("mix", 1, 7)]
        for number, wanted in enumerate(([0, 10, 0, 0], [1, 20, 0, 1], [0, 30, 0, 0], [1, 40, 0, 1], [1, 7, 3, 0])):
            self.told(before, ("look", number), wanted)
        for number, wanted in enumerate(([0, 10, 0, 1], [1, 20, 0, 2], [0, 30, 0, 1], [1, 40, 0, 2], [1, 7, 3, 1])):
            self.told(later(before, 2), ("look", number), wanted)

    def test_how_much_there_is_yet(self):
        before = later(mixed(10, 20), 5)
        self.told(before + [("use", 0, 4)], LOOK, [0, 6, 0, 1])
        self.told(before + [("draw", 0, 13)], ("look", 1), [0, 17, 0, 1])
        self.told(before + [("rework", 0, 9, 0, 2)], LOOK, [0, 8, 0, 1])
        self.told(before + [("rework", 0, 9, 0, 2)], ("look", 2), [0, 9, 5, 0])

    def test_one_with_nothing_in_it(self):
        used = later(mixed(10), 5) + [("use", 0, 10)]
        self.told(used, LOOK, [0, 0, 0, 1])
        self.told(later(used, 5), LOOK, [0, 0, 0, 1])
        self.told(later(used, 6), LOOK, [0, 0, 0, 2])
        self.told(worked_in(2), LOOK, [0, 0, 0, 0])
        self.told(later(mixed(10), 11) + [("scrap", 0)], LOOK, [0, 0, 0, 2])

    def test_one_with_nothing_in_it_is_in_none_of_the_others(self):
        for before in (worked_in(2), worked_in(5), worked_in(11)):
            for minutes in (1, 3, 4, 5, 6, 9):
                with_one = later(before, minutes)
                self.told(with_one, RIPE, [10, 1] if minutes >= 5 else [0])
                self.told(with_one, NEXT, [5 - minutes] if minutes < 5 else [-6])
                self.told(with_one, OLD, [0])


if __name__ == "__main__":
    unittest.main()
