"""Point 4, its first sentence: needs; and what holds of whole kilograms."""

import random
import unittest
from fractions import Fraction

from tests.helper import GREATEST, MOST_CALLS, CallTest, ask, begun, parts


def recipe_of(*some):
    return begun(8) + [("recipe", 0, 0, 0, parts(*some))]


class Needs(CallTest):
    def needs(self, some, kilograms, *wanted):
        self.told(recipe_of(*some), ("needs", 0, kilograms), [kilograms] + parts(*wanted))

    def test_shares_that_come_out_even(self):
        self.needs((1, 1), 10, 5, 5)
        self.needs((3, 1, 0, 1), 10, 6, 2, 0, 2)

    def test_what_is_lacking_goes_to_the_greatest_remainders(self):
        self.needs((5, 3, 2), 7, 4, 2, 1)
        self.needs((1, 2), 10, 3, 7)
        self.needs((2, 5, 3), 4, 1, 2, 1)
        self.needs((70, 20, 10), 3, 2, 1, 0)

    def test_of_alike_remainders_the_lesser_number(self):
        self.needs((1, 1), 1, 1, 0)
        self.needs((1, 1, 1), 1, 1, 0, 0)
        self.needs((1, 1, 1), 2, 1, 1, 0)
        self.needs((0, 1, 0, 1), 5, 0, 3, 0, 2)
        self.needs((1, 2, 1), 2, 1, 1, 0)
        self.needs((1,) * 8, 11, 2, 2, 2, 1, 1, 1, 1, 1)

    def test_a_recipe_of_one_material(self):
        self.needs((7,), 1, 1)
        self.needs((0, 0, 0, 0, 0, 0, 0, 3), 1000, 0, 0, 0, 0, 0, 0, 0, 1000)

    def test_bounds(self):
        self.needs((3, 4), 0, 0, 0)
        self.needs((1, 2), 1, 0, 1)
        self.needs((999, 1), 1000, 999, 1)
        self.needs((1000, 1000, 1), 1000, 500, 500, 0)
        self.refused(recipe_of(3, 4), ("needs", 0, 1001), -22)
        self.refused(recipe_of(3, 4), ("needs", 0, GREATEST), -22)

    def test_no_such_recipe(self):
        self.refused(begun(), ("needs", 0, 5), -2)
        self.refused(recipe_of(1), ("needs", 1, 5), -2)
        self.refused(recipe_of(1), ("needs", GREATEST, 0), -2)
        self.refused(recipe_of(1), ("needs", 1, 1001), -2)

    def test_it_asks_for_nothing_that_there_is_and_takes_nothing(self):
        before = begun(1) + [("buy", 0, 10), ("recipe", 0, 0, 0, parts(1))]
        self.answered(before, ("needs", 0, 1000), [1000] + parts(1000))
        self.assertEqual(ask(before + [("needs", 0, 10), ("mix", 0, 10)])[-1], [0])

    def test_each_recipe_has_its_own(self):
        two = begun(2) + [("recipe", 0, 0, 0, parts(1)), ("recipe", 0, 0, 0, parts(0, 1))]
        self.answered(two, ("needs", 0, 4), [4] + parts(4))
        self.answered(two, ("needs", 1, 4), [4] + parts(0, 4))

    def test_it_tells_what_a_mix_takes(self):
        before = begun(3) + [("recipe", 0, 0, 0, parts(5, 3, 2)), ("buy", 0, 4), ("buy", 1, 2), ("buy", 2, 1)]
        self.answered(before, ("mix", 0, 7), [0])
        for lacking in range(3):
            amounts = [4, 2, 1]
            amounts[lacking] -= 1
            bought = [("buy", m, n) for m, n in enumerate(amounts) if n > 0]
            self.refused(before[:5] + bought, ("mix", 0, 7), -12)


class WholeKilograms(unittest.TestCase):
    """Point b of what holds, over long lists of needs."""

    def test_they_hold_to_the_exact_shares(self):
        source = random.Random(11)
        for turn in range(20):
            rows = [self.some_parts(source) for recipe in range(6)]
            before = begun(8) + [("recipe", 0, 0, 0, row) for row in rows]
            asked = [("needs", source.randrange(6), source.choice((0, 1, 2, 7, 999, 1000, source.randint(0, 1000))))
                     for place in range(MOST_CALLS - len(before))]
            for call, told in zip(asked, ask(before + asked)[len(before):], strict=True):
                self.assertEqual(told[0], call[2], call)
                self.holds(rows[call[1]], call[2], told[1:])

    def some_parts(self, source):
        some = [source.choice((0, 1, 2, 3, 10, 999, 1000, source.randint(0, 1000))) for place in range(8)]
        return some if any(some) else parts(1)

    def holds(self, some, kilograms, found):
        exact = [Fraction(kilograms * part, sum(some)) for part in some]
        self.assertEqual(len(found), 8)
        self.assertEqual(sum(found), kilograms)
        for part, whole, share in zip(some, found, exact):
            self.assertLess(abs(whole - share), 1)
            self.assertIn(whole - share.__floor__(), (0, 1))
            if part == 0:
                self.assertEqual(whole, 0)
        more = [(share.__floor__() - share, place) for place, share in enumerate(exact)
                if found[place] > share.__floor__()]
        fewer = [(share.__floor__() - share, place) for place, share in enumerate(exact)
                 if found[place] == share.__floor__()]
        if more and fewer:
            self.assertLess(max(more), min(fewer))


if __name__ == "__main__":
    unittest.main()
