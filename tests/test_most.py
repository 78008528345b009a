"""Point 4: most."""

import random
import unittest

from tests.helper import GREATEST, MOST_CALLS, CallTest, ask, begun, last, parts


def stocked(some, *amounts):
    """Eight materials, recipe 0 of these parts, and a lot of each of these kilograms above 0."""
    bought = [("buy", material, amount) for material, amount in enumerate(amounts) if amount > 0]
    return begun(8) + [("recipe", 0, 0, 100, parts(*some))] + bought


def by_needs(before, recipe):
    """The greatest mix whose needs, asked one by one, are none more than what is in stock."""
    stock = [told[0] for told in ask(before + [("stock", material) for material in range(8)])[len(before):]]
    possible = [0]
    room = MOST_CALLS - len(before)
    for start in range(1, 1001, room):
        asked = [("needs", recipe, n) for n in range(start, min(start + room, 1001))]
        for told in ask(before + asked)[len(before):]:
            if all(has >= wants for has, wants in zip(stock, told[1:], strict=True)):
                possible.append(told[0])
    return max(possible)


class Most(CallTest):
    def most(self, before, kilograms, recipe=0):
        """So much is told, nothing changes; so much can be mixed, and not a kilogram more."""
        self.told(before, ("most", recipe), [kilograms])
        self.assertEqual(by_needs(before, recipe), kilograms)
        again = ("most", recipe)
        told = ask(before + [again, ("mix", recipe, kilograms + 1), again, ("mix", recipe, kilograms)])[-4:]
        self.assertEqual(told[:3], [[kilograms], [-12] if kilograms < 1000 else [-22], [kilograms]])
        self.assertEqual(told[3], last(before + [("state",)])[4:] if kilograms > 0 else [-22])

    def test_no_such_recipe(self):
        self.refused([("begin",)], ("most", 0), -2)
        self.refused(begun(8), ("most", 0), -2)
        self.refused(stocked((1,), 10), ("most", 1), -2)
        self.refused(stocked((1,), 10), ("most", GREATEST), -2)

    def test_a_recipe_of_one_material(self):
        for amount in (1, 2, 55, 999, 1000):
            self.most(stocked((1,), amount), amount)
            self.most(stocked((7,), amount), amount)
            self.most(stocked((0, 0, 0, 0, 0, 0, 0, 1000), 0, 0, 0, 0, 0, 0, 0, amount), amount)

    def test_a_recipe_of_many_materials(self):
        self.most(stocked((5, 3, 2), 4, 2, 1), 7)
        self.most(stocked((5, 3, 2), 5, 3, 2), 10)
        self.most(stocked((5, 3, 2), 50, 3, 20), 11)
        self.most(stocked((1, 1), 5, 4), 9)
        self.most(stocked((1, 1), 4, 5), 8)
        self.most(stocked((1,) * 8, 3, 3, 3, 2, 2, 2, 2, 2), 19)

    def test_too_little_for_a_single_kilogram(self):
        self.most(stocked((1,)), 0)
        self.most(stocked((1, 1)), 0)
        self.most(stocked((1, 1), 0, 10000), 0)
        self.most(stocked((1, 2), 10000), 0)
        self.most(stocked((0, 1), 10000, 0, 10000), 0)

    def test_just_enough_for_a_single_kilogram(self):
        self.most(stocked((1, 1), 1), 1)
        self.most(stocked((1, 2), 0, 1), 1)
        self.most(stocked((1,) * 8, 1), 1)

    def test_a_thousand_where_there_is_enough_for_more(self):
        self.most(stocked((1,), 1001), 1000)
        self.most(stocked((1,), 10000), 1000)
        self.most(stocked((1, 1), 500, 500), 1000)
        self.most(stocked((1, 1), 10000, 10000), 1000)
        self.most(stocked((1000, 1000, 1), 10000, 10000), 1000)
        self.most(stocked((999, 1), 999, 1), 1000)
        self.most(stocked((999, 1), 998, 1), 999)

    def test_the_greatest_though_a_lesser_one_isnt_possible(self):
        for some, amounts, most, lesser in (
                ((3, 3, 1), (5, 5), 4, 3),
                ((3, 3, 1), (10000, 10000, 142), 998, 997),
                ((5, 5, 2), (417, 417, 166), 1000, 999),
                ((1000, 333, 1), (10000, 10000), 888, 886)):
            self.most(stocked(some, *amounts), most)
            self.refused(stocked(some, *amounts), ("mix", 0, lesser), -12)

    def test_a_tiny_part_that_there_is_nothing_of(self):
        self.most(stocked((1, 999), 0, 10000), 499)
        self.most(stocked((999, 1), 10000), 500)
        self.most(stocked((1, 1000), 0, 10000), 500)

    def test_over_all_lots_of_a_material(self):
        self.most(stocked((1,)) + [("buy", 0, 3)] * 40, 120)

    def test_what_there_is_now(self):
        before = stocked((1, 1), 30, 20) + [("mix", 0, 10)]
        self.most(before, 31)
        self.most(before + [("use", 0, 10), ("buy", 1, 5)], 41)
        self.most(before + [("rework", 0, 10, 0, 10)], 31)
        self.most(before + [("rework", 0, 10, 0, 2)], 23)
        self.most(before + [("mix", 0, 31)], 1)
        self.most(before + [("mix", 0, 31), ("mix", 0, 1)], 1)
        self.most(stocked((1, 1), 16, 15) + [("mix", 0, 31)], 0)

    def test_each_recipe_has_its_own(self):
        before = stocked((1,), 5, 7) + [("recipe", 0, 0, 0, parts(0, 1)), ("recipe", 0, 0, 0, parts(1, 1))]
        self.most(before, 5)
        self.most(before, 7, recipe=1)
        self.most(before, 10, recipe=2)

    def test_it_asks_for_no_room_for_a_batch(self):
        before = stocked((1,), 50) + [("mix", 0, 1)] * 40
        self.told(before, ("most", 0), [10])
        self.refused(before, ("mix", 0, 10), -28)

    def test_all_needs_up_to_a_thousand_say_the_same(self):
        source = random.Random(5)
        for turn in range(60):
            some = [source.choice((0, 1, 1, 2, 3, 10, 333, 1000, source.randint(1, 1000))) for place in range(8)]
            some[source.randrange(8)] = source.randint(1, 1000)
            scale = source.choice((1, 10, 100, 300))
            amounts = [source.choice((0, 1, 2, source.randint(0, scale), scale * 2)) for place in range(8)]
            self.most(stocked(some, *amounts), by_needs(stocked(some, *amounts), 0))


if __name__ == "__main__":
    unittest.main()
