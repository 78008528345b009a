"""Batches as they are mixed, with what is worked in again; what they need, and how much could be mixed."""

from tyremixes.kilograms import whole_kilograms
from tyremixes.records import Batch, no_batch, no_recipe
from tyremixes.refusals import (
    MORE_THAN_MAY_BE, NONE_OR_LESS, NONE_SUCH, NOT_SO, OUT_OF_RANGE, TOO_LITTLE, TOO_MANY,
)
from tyremixes.supply import MOST_MATERIALS

MOST_BATCHES = 40
MOST_MIXED = 1000


def in_stock(works, material):
    """How many kilograms of a material there are in all its lots."""
    return sum([lot.left for lot in works.lots if lot.material == material])


def all_stock(works):
    return [in_stock(works, material) for material in range(MOST_MATERIALS)]


def is_enough(stock, needed):
    for there_is, kilograms in zip(stock, needed):
        if there_is < kilograms:
            return False
    return True


def take_from_lots(works, needed):
    """Takes what is needed of each material, the lesser lot first; tells the lots it took something of."""
    lacking = list(needed)
    taken = []
    for number, lot in enumerate(works.lots):
        kilograms = min(lot.left, lacking[lot.material])
        if kilograms > 0:
            lot.left -= kilograms
            lacking[lot.material] -= kilograms
            taken.append(number)
    return taken


def mix_batch(works, recipe, kilograms):
    if no_recipe(works, recipe):
        return [NONE_SUCH]
    if kilograms < 1 or kilograms > MOST_MIXED:
        return [OUT_OF_RANGE]
    if len(works.batches) >= MOST_BATCHES:
        return [TOO_MANY]
    needed = whole_kilograms(works.recipes[recipe].parts, kilograms)
    if not is_enough(all_stock(works), needed):
        return [TOO_LITTLE]
    lots = take_from_lots(works, needed)
    works.batches.append(Batch(recipe, kilograms, works.minute, lots))
    return [len(works.batches) - 1]


def rework_batch(works, recipe, kilograms, batch, again):
    """Mixes a batch of so many kilograms, some of them worked in again from an earlier batch."""
    if no_recipe(works, recipe) or no_batch(works, batch):
        return [NONE_SUCH]
    if kilograms < 1 or kilograms > MOST_MIXED or again < 1 or again > kilograms:
        return [OUT_OF_RANGE]
    earlier = works.batches[batch]
    if earlier.recipe != recipe:
        return [NOT_SO]
    if earlier.left < again:
        return [NONE_OR_LESS]
    # Both sides times a hundred: nothing is rounded, so hundredths that just do are not refused.
    if again * 100 > works.recipes[recipe].share * kilograms:
        return [MORE_THAN_MAY_BE]
    if len(works.batches) >= MOST_BATCHES:
        return [TOO_MANY]
    needed = whole_kilograms(works.recipes[recipe].parts, kilograms - again)
    if not is_enough(all_stock(works), needed):
        return [TOO_LITTLE]
    taken = take_from_lots(works, needed)
    earlier.left -= again
    lots = sorted(set(taken) | set(earlier.lots))
    works.batches.append(Batch(recipe, kilograms, works.minute, lots))
    return [len(works.batches) - 1]


def tell_needs(works, recipe, kilograms):
    if no_recipe(works, recipe):
        return [NONE_SUCH]
    if kilograms > MOST_MIXED:
        return [OUT_OF_RANGE]
    return [kilograms] + whole_kilograms(works.recipes[recipe].parts, kilograms)


def highest_to_try(stock, parts):
    """The greatest mix for which no share, rounded down, is more than there is of its material."""
    all_parts = sum(parts)
    highest = MOST_MIXED
    for there_is, part in zip(stock, parts):
        if part > 0:
            highest = min(highest, ((there_is + 1) * all_parts - 1) // part)
    return highest


def tell_most(works, recipe):
    if no_recipe(works, recipe):
        return [NONE_SUCH]
    parts = works.recipes[recipe].parts
    stock = all_stock(works)
    kilograms = highest_to_try(stock, parts)
    # One by one: a mix may need what it lacks where both a greater and a lesser one do not.
    while not is_enough(stock, whole_kilograms(parts, kilograms)):
        kilograms -= 1
    return [kilograms]
