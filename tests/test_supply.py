"""Point 1: material, buy, recipe, minutes."""

import unittest

from tests.helper import GREATEST, CallTest, all_lots, ask, begun, parts


class Material(CallTest):
    def test_numbers_rise_from_0_to_7_and_no_more(self):
        self.assertEqual(ask(begun(8)), [[0]] + [[number] for number in range(8)])
        self.refused(begun(8), ("material",), -28)
        self.assertEqual(ask(begun(10))[-2:], [[-28], [-28]])


class Buy(CallTest):
    def test_numbers_rise_over_all_materials(self):
        calls = [("buy", 1, 5), ("buy", 0, 7), ("buy", 1, 9)]
        self.assertEqual(ask(begun(2) + calls)[3:], [[0], [1], [2]])
        self.assertEqual(all_lots(begun(2) + calls), [[1, 5, 5], [0, 7, 7], [1, 9, 9]])

    def test_no_such_material(self):
        self.refused(begun(0), ("buy", 0, 5), -2)
        self.refused(begun(2), ("buy", 2, 5), -2)
        self.refused(begun(8), ("buy", 8, 5), -2)
        self.refused(begun(8), ("buy", GREATEST, 5), -2)

    def test_kilograms(self):
        self.refused(begun(), ("buy", 0, 0), -22)
        self.answered(begun(), ("buy", 0, 1), [0])
        self.answered(begun(), ("buy", 0, 10000), [0])
        self.refused(begun(), ("buy", 0, 10001), -22)
        self.refused(begun(), ("buy", 0, GREATEST), -22)

    def test_40_lots_and_no_more(self):
        full = begun() + [("buy", number % 2, 10) for number in range(40)]
        self.assertEqual(ask(full)[3:], [[number] for number in range(40)])
        self.refused(full, ("buy", 1, 10), -28)

    def test_lots_that_are_used_up_count_too(self):
        full = begun(1) + [("recipe", 0, 0, 0, parts(1))] + [("buy", 0, 1)] * 40 + [("mix", 0, 40)]
        self.refused(full, ("buy", 0, 1), -28)

    def test_order_of_refusals(self):
        full = begun() + [("buy", 0, 10)] * 40
        self.refused(begun(), ("buy", 2, 0), -2)
        self.refused(full, ("buy", 2, 10), -2)
        self.refused(full, ("buy", 2, 10001), -2)
        self.refused(full, ("buy", 0, 0), -22)
        self.refused(full, ("buy", 0, 10001), -22)


class Recipe(CallTest):
    def test_numbers_rise_from_0_to_5_and_no_more(self):
        full = begun() + [("recipe", 0, 0, 0, parts(1))] * 6
        self.assertEqual(ask(full)[3:], [[number] for number in range(6)])
        self.refused(full, ("recipe", 0, 0, 0, parts(1)), -28)

    def test_what_it_keeps(self):
        """Rest, good, hundredths and parts, each by a call that goes by it."""
        before = begun() + [("recipe", 5, 9, 30, parts(3, 4)), ("buy", 0, 90), ("buy", 1, 90), ("mix", 0, 70)]
        self.answered(before, ("needs", 0, 7), [7] + parts(3, 4))
        self.answered(before, ("rework", 0, 10, 0, 3), [1])
        self.refused(before, ("rework", 0, 10, 0, 4), -75)
        for minutes, phase in ((4, 0), (5, 1), (9, 1), (10, 2)):
            self.answered(before + [("minutes", minutes)], ("look", 0), [0, 70, 0, phase])

    def test_rest(self):
        self.answered(begun(), ("recipe", 0, 100000, 0, parts(1)), [0])
        self.answered(begun(), ("recipe", 10000, 100000, 0, parts(1)), [0])
        self.refused(begun(), ("recipe", 10001, 100000, 0, parts(1)), -22)
        self.refused(begun(), ("recipe", GREATEST, GREATEST, 0, parts(1)), -22)

    def test_good(self):
        self.refused(begun(), ("recipe", 50, 49, 0, parts(1)), -22)
        self.answered(begun(), ("recipe", 50, 50, 0, parts(1)), [0])
        self.answered(begun(), ("recipe", 0, 0, 0, parts(1)), [0])
        self.answered(begun(), ("recipe", 50, 100000, 0, parts(1)), [0])
        self.refused(begun(), ("recipe", 50, 100001, 0, parts(1)), -22)
        self.refused(begun(), ("recipe", 50, GREATEST, 0, parts(1)), -22)

    def test_hundredths(self):
        self.answered(begun(), ("recipe", 0, 0, 0, parts(1)), [0])
        self.answered(begun(), ("recipe", 0, 0, 100, parts(1)), [0])
        self.refused(begun(), ("recipe", 0, 0, 101, parts(1)), -22)
        self.refused(begun(), ("recipe", 0, 0, GREATEST, parts(1)), -22)

    def test_other_than_eight_parts(self):
        for count in (0, 1, 7, 9, 10):
            self.refused(begun(), ("recipe", 0, 0, 0, ([1] + [0] * 9)[:count]), -22)
        self.answered(begun(), ("recipe", 0, 0, 0, parts(1)), [0])

    def test_the_calls_behind_a_refused_row_are_still_read(self):
        for count in range(11):
            told = ask(begun() + [("recipe", 0, 0, 0, [0] * count), ("minutes", 7)])
            self.assertEqual(told[-2:], [[-22], [7]])

    def test_greatest_part(self):
        self.answered(begun(), ("recipe", 0, 0, 0, parts(1000, 1000)), [0])
        self.refused(begun(), ("recipe", 0, 0, 0, parts(1001)), -22)
        self.refused(begun(), ("recipe", 0, 0, 0, parts(1, 1001)), -22)
        self.refused(begun(), ("recipe", 0, 0, 0, parts(1, GREATEST)), -22)

    def test_all_parts_0(self):
        self.refused(begun(), ("recipe", 0, 0, 0, parts()), -22)
        self.refused(begun(8), ("recipe", 0, 0, 0, parts()), -22)
        self.answered(begun(), ("recipe", 0, 0, 0, parts(0, 1)), [0])

    def test_parts_of_a_material_that_there_isnt(self):
        self.refused(begun(0), ("recipe", 0, 0, 0, parts(1)), -22)
        self.refused(begun(2), ("recipe", 0, 0, 0, parts(1, 1, 1)), -22)
        self.refused(begun(2), ("recipe", 0, 0, 0, [1, 0, 0, 0, 0, 0, 0, 1]), -22)
        self.refused(begun(7), ("recipe", 0, 0, 0, [1] * 8), -22)
        self.answered(begun(8), ("recipe", 0, 0, 0, [1] * 8), [0])
        self.answered(begun(8), ("recipe", 0, 0, 0, [0] * 7 + [1]), [0])

    def test_a_material_that_comes_later_does_then(self):
        wanted = ("recipe", 0, 0, 0, parts(0, 0, 1))
        self.assertEqual(ask(begun(2) + [wanted, ("material",), wanted])[3:], [[-22], [2], [0]])

    def test_out_of_range_goes_ahead_of_too_many(self):
        full = begun() + [("recipe", 0, 0, 0, parts(1))] * 6
        self.refused(full, ("recipe", 10001, 100000, 0, parts(1)), -22)
        self.refused(full, ("recipe", 1, 0, 0, parts(1)), -22)
        self.refused(full, ("recipe", 0, 100001, 0, parts(1)), -22)
        self.refused(full, ("recipe", 0, 0, 101, parts(1)), -22)
        self.refused(full, ("recipe", 0, 0, 0, [1]), -22)
        self.refused(full, ("recipe", 0, 0, 0, parts()), -22)
        self.refused(full, ("recipe", 0, 0, 0, parts(1001)), -22)
        self.refused(full, ("recipe", 0, 0, 0, parts(0, 0, 1)), -22)


class Minutes(CallTest):
    def test_tells_which_minute_it_is(self):
        self.assertEqual(ask([("begin",), ("minutes", 3), ("minutes", 4)]), [[0], [3], [7]])

    def test_bounds(self):
        self.refused(begun(), ("minutes", 0), -22)
        self.answered(begun(), ("minutes", 1), [1])
        self.answered(begun(), ("minutes", 10000), [10000])
        self.refused(begun(), ("minutes", 10001), -22)
        self.refused(begun(), ("minutes", GREATEST), -22)

    def test_as_many_as_a_line_holds(self):
        self.assertEqual(ask([("begin",)] + [("minutes", 10000)] * 399)[-1], [3990000])


if __name__ == "__main__":
    unittest.main()
