"""Materials, lots and recipes as they come, and the minutes that go by."""

from tyremixes.records import Lot, Recipe, no_material
from tyremixes.refusals import NONE_SUCH, OUT_OF_RANGE, TOO_MANY

MOST_MATERIALS = 8
MOST_LOTS = 40
MOST_RECIPES = 6
MOST_BOUGHT = 10000
MOST_MINUTES = 10000
MOST_REST = 10000
MOST_GOOD = 100000
MOST_SHARE = 100
MOST_PARTS = 1000


def add_material(works):
    if works.materials >= MOST_MATERIALS:
        return [TOO_MANY]
    works.materials += 1
    return [works.materials - 1]


def buy_lot(works, material, kilograms):
    if no_material(works, material):
        return [NONE_SUCH]
    if kilograms < 1 or kilograms > MOST_BOUGHT:
        return [OUT_OF_RANGE]
    if len(works.lots) >= MOST_LOTS:
        return [TOO_MANY]
    works.lots.append(Lot(material, kilograms))
    return [len(works.lots) - 1]


def parts_are_right(parts, materials):
    """Whether there are eight parts, none too great, none of a material that there isn't, not all 0."""
    if len(parts) != MOST_MATERIALS:
        return False
    if max(parts) > MOST_PARTS or sum(parts) == 0:
        return False
    return sum(parts[materials:]) == 0


def add_recipe(works, rest, good, share, parts):
    if rest > MOST_REST or good < rest or good > MOST_GOOD or share > MOST_SHARE:
        return [OUT_OF_RANGE]
    if not parts_are_right(parts, works.materials):
        return [OUT_OF_RANGE]
    if len(works.recipes) >= MOST_RECIPES:
        return [TOO_MANY]
    works.recipes.append(Recipe(rest, good, share, parts))
    return [len(works.recipes) - 1]


def pass_minutes(works, count):
    if count < 1 or count > MOST_MINUTES:
        return [OUT_OF_RANGE]
    works.minute += count
    return [works.minute]
