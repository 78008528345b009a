"""Point 5: lots, has, stock, lot."""

import unittest

from tests.helper import GREATEST, CallTest, ask, begun, later, mixed, parts

ONE = ("recipe", 0, 10, 50, parts(1))
ALL = ("recipe", 0, 10, 100, parts(1))
BOTH = ("recipe", 0, 10, 50, parts(1, 1))


class LotsTest(CallTest):
    def traced(self, before, batches, lots):
        """What lots tells of each batch, and has of each lot: these, and nothing changes."""
        for number, wanted in enumerate(batches):
            self.told(before, ("lots", number), [len(wanted)] + wanted)
        for number, wanted in enumerate(lots):
            self.told(before, ("has", number), [len(wanted)] + wanted)
        self.refused(before, ("lots", len(batches)), -2)
        self.refused(before, ("has", len(lots)), -2)


class LotsAndHas(LotsTest):
    def test_no_such_batch_or_lot(self):
        self.traced([("begin",)], [], [])
        self.traced(begun(8), [], [])
        self.refused(mixed(10), ("lots", GREATEST), -2)
        self.refused(mixed(10), ("has", GREATEST), -2)

    def test_a_lot_that_is_in_no_batch(self):
        bought = begun(2) + [ONE, ("buy", 0, 5), ("buy", 1, 5), ("buy", 0, 5)]
        self.traced(bought, [], [[], [], []])
        self.traced(bought + [("mix", 0, 5)], [[0]], [[0], [], []])

    def test_a_lot_that_is_in_many_batches(self):
        before = begun(1) + [ONE, ("buy", 0, 9)] + [("mix", 0, 3)] * 3
        self.traced(before, [[0], [0], [0]], [[0, 1, 2]])

    def test_a_batch_of_two_lots_of_a_material(self):
        self.traced(begun(1) + [ONE, ("buy", 0, 4), ("buy", 0, 6), ("mix", 0, 7)], [[0, 1]], [[0], [0]])

    def test_a_lot_that_ends_within_a_batch_and_one_that_ends_with_it(self):
        before = begun(1) + [ONE, ("buy", 0, 5), ("buy", 0, 5), ("buy", 0, 5), ("mix", 0, 3), ("mix", 0, 7)]
        self.traced(before, [[0], [0, 1]], [[0, 1], [1], []])
        self.traced(before + [("mix", 0, 5)], [[0], [0, 1], [2]], [[0, 1], [1], [2]])

    def test_lots_of_many_materials_rising(self):
        before = begun(2) + [BOTH, ("buy", 1, 3), ("buy", 0, 4), ("buy", 1, 9), ("buy", 0, 9), ("mix", 0, 10)]
        self.traced(before, [[0, 1, 2, 3]], [[0], [0], [0], [0]])

    def test_a_material_that_comes_to_no_kilogram(self):
        before = begun(2) + [BOTH, ("buy", 0, 9), ("buy", 1, 9), ("mix", 0, 1), ("mix", 0, 2)]
        self.traced(before, [[0], [0, 1]], [[0, 1], [1]])

    def test_what_is_worked_in_again_brings_its_lots(self):
        before = begun(1) + [ONE, ("buy", 0, 6), ("buy", 0, 4), ("buy", 0, 9), ("mix", 0, 10), ("rework", 0, 4, 0, 1)]
        self.traced(before, [[0, 1], [0, 1, 2]], [[0, 1], [0, 1], [1]])

    def test_a_lot_that_comes_fresh_and_worked_in_again_is_told_once(self):
        before = begun(2) + [BOTH, ("buy", 1, 9), ("buy", 0, 5), ("mix", 0, 10), ("buy", 0, 9), ("rework", 0, 4, 0, 2)]
        self.traced(before, [[0, 1], [0, 1, 2]], [[0, 1], [0, 1], [1]])

    def test_worked_in_again_what_was_worked_in_again(self):
        before = begun(1) + [ONE] + [("buy", 0, 4)] + [("buy", 0, 2)] * 3 + [("mix", 0, 4)]
        before += [("rework", 0, 4, number, 2) for number in range(3)]
        self.traced(before, [[0], [0, 1], [0, 1, 2], [0, 1, 2, 3]], [[0, 1, 2, 3], [1, 2, 3], [2, 3], [3]])

    def test_of_a_batch_that_was_worked_in_again_its_own_lots_alone(self):
        before = begun(1) + [ONE, ("buy", 0, 4), ("buy", 0, 9), ("mix", 0, 4), ("rework", 0, 4, 0, 1), ("mix", 0, 1)]
        self.traced(before, [[0], [0, 1], [1]], [[0, 1], [1, 2]])

    def test_nothing_fresh(self):
        before = begun(1) + [ALL, ("buy", 0, 4), ("buy", 0, 9), ("mix", 0, 4), ("rework", 0, 4, 0, 4)]
        self.traced(before, [[0], [0]], [[0, 1], []])
        self.traced(before + [("rework", 0, 3, 1, 3)], [[0], [0], [0]], [[0, 1, 2], []])

    def test_a_batch_that_is_used_up_or_scrapped_is_told_all_the_same(self):
        before = begun(1) + [ONE, ("buy", 0, 9), ("mix", 0, 2), ("mix", 0, 3), ("mix", 0, 4)]
        before += [("use", 0, 2), ("draw", 0, 3), ("minutes", 11), ("scrap", 2)]
        self.answered(before, ("sums",), [0, 9, 0, 0, 5, 4])
        self.traced(before, [[0], [0], [0]], [[0, 1, 2]])

    def test_what_is_worked_in_is_told_when_it_is_used_up(self):
        before = begun(1) + [ALL, ("buy", 0, 4), ("mix", 0, 4), ("rework", 0, 4, 0, 4), ("use", 1, 4)]
        self.traced(before, [[0], [0]], [[0, 1]])

    def test_what_is_refused_brings_no_lots(self):
        before = begun(1) + [ONE, ("buy", 0, 4), ("buy", 0, 1), ("mix", 0, 4), ("rework", 0, 4, 0, 2), ("mix", 0, 2)]
        self.assertEqual(ask(before)[-2:], [[-12], [-12]])
        self.traced(before, [[0]], [[0], []])

    def test_40_lots_and_40_batches(self):
        before = begun(1) + [ALL] + [("buy", 0, 1)] * 40 + [("mix", 0, 40)]
        before += [("rework", 0, 40, number, 40) for number in range(39)]
        self.told(before, ("lots", 39), [40] + list(range(40)))
        self.told(before, ("has", 39), [40] + list(range(40)))
        self.refused(before, ("lots", 40), -2)
        self.refused(before, ("has", 40), -2)


class StockAndLot(CallTest):
    def test_no_such_material(self):
        self.refused([("begin",)], ("stock", 0), -2)
        self.refused(begun(2) + [("buy", 0, 5)] * 3, ("stock", 2), -2)
        self.refused(begun(8), ("stock", 8), -2)
        self.refused(begun(8), ("stock", GREATEST), -2)

    def test_no_such_lot(self):
        self.refused([("begin",)], ("lot", 0), -2)
        self.refused(begun(2), ("lot", 0), -2)
        self.refused(begun(2) + [("buy", 0, 5)], ("lot", 1), -2)
        self.refused(begun(2) + [("buy", 0, 5)], ("lot", GREATEST), -2)

    def test_a_material_with_no_lot(self):
        self.told(begun(2), ("stock", 1), [0])
        self.told(begun(2) + [("buy", 0, 5)], ("stock", 1), [0])
        self.told(begun(8), ("stock", 7), [0])

    def test_all_its_lots(self):
        before = begun(2) + [("buy", 1, 5), ("buy", 0, 7), ("buy", 1, 10000)]
        self.told(before, ("stock", 0), [7, 1])
        self.told(before, ("stock", 1), [10005, 0, 2])
        for number, wanted in enumerate(([1, 5, 5], [0, 7, 7], [1, 10000, 10000])):
            self.told(before, ("lot", number), wanted)

    def test_a_lot_of_which_some_is_left(self):
        before = begun(2) + [BOTH, ("buy", 0, 9), ("buy", 1, 9), ("mix", 0, 7)]
        self.told(before, ("stock", 0), [5, 0])
        self.told(before, ("stock", 1), [6, 1])
        self.told(before, ("lot", 0), [0, 9, 5])
        self.told(before, ("lot", 1), [1, 9, 6])

    def test_a_lot_with_nothing_left(self):
        before = begun(1) + [ONE, ("buy", 0, 5), ("buy", 0, 6), ("buy", 0, 7), ("mix", 0, 11)]
        self.told(before, ("stock", 0), [7, 2])
        for number, wanted in enumerate(([0, 5, 0], [0, 6, 0], [0, 7, 7])):
            self.told(before, ("lot", number), wanted)
        self.told(before + [("mix", 0, 7)], ("stock", 0), [0])
        self.told(before + [("mix", 0, 7)], ("lot", 2), [0, 7, 0])

    def test_a_lot_with_a_kilogram_left(self):
        before = begun(1) + [ONE, ("buy", 0, 5), ("buy", 0, 6), ("mix", 0, 4)]
        self.told(before, ("stock", 0), [7, 0, 1])
        self.told(before, ("lot", 0), [0, 5, 1])

    def test_what_is_used_scrapped_or_worked_in_again_does_not_come_back(self):
        before = begun(1) + [ALL, ("buy", 0, 50), ("mix", 0, 20)]
        for change in ([("use", 0, 5)], [("minutes", 11), ("scrap", 0)], [("rework", 0, 20, 0, 20)]):
            self.told(before + change, ("stock", 0), [30, 0])
            self.told(before + change, ("lot", 0), [0, 50, 30])

    def test_all_40_lots(self):
        before = begun(1) + [("buy", 0, 10000)] * 40
        self.told(before, ("stock", 0), [400000] + list(range(40)))
        self.told(before, ("lot", 39), [0, 10000, 10000])

    def test_minutes_change_nothing_of_them(self):
        before = begun(1) + [("buy", 0, 10)]
        self.told(later(before, 10000), ("stock", 0), [10, 0])
        self.told(later(before, 10000), ("lot", 0), [0, 10, 10])


if __name__ == "__main__":
    unittest.main()
