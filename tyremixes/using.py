"""Batches as they are used, when they have rested and aren't too old, and scrapped when they are."""

from tyremixes.records import no_batch, no_recipe
from tyremixes.refusals import HAS_LESS, MUST_REST, NONE_SUCH, NOT_SO, OUT_OF_RANGE, TOO_LITTLE, TOO_OLD


def must_rest(works, batch):
    return works.minute - batch.mixed < works.recipes[batch.recipe].rest


def is_too_old(works, batch):
    return works.minute - batch.mixed > works.recipes[batch.recipe].good


def is_ripe(works, batch):
    return not must_rest(works, batch) and not is_too_old(works, batch)


def ripe_kilograms(works, recipe):
    """How many kilograms there are in all ripe batches of a recipe."""
    return sum([batch.left for batch in works.batches if batch.recipe == recipe and is_ripe(works, batch)])


def use_batch(works, number, kilograms):
    if no_batch(works, number):
        return [NONE_SUCH]
    if kilograms == 0:
        return [OUT_OF_RANGE]
    batch = works.batches[number]
    if batch.left < kilograms:
        return [HAS_LESS]
    if must_rest(works, batch):
        return [MUST_REST]
    if is_too_old(works, batch):
        return [TOO_OLD]
    batch.left -= kilograms
    return [batch.left]


def draw_recipe(works, recipe, kilograms):
    if no_recipe(works, recipe):
        return [NONE_SUCH]
    if kilograms == 0:
        return [OUT_OF_RANGE]
    if ripe_kilograms(works, recipe) < kilograms:
        return [TOO_LITTLE]
    lacking = kilograms
    drawn = []
    for number, batch in enumerate(works.batches):
        if batch.recipe == recipe and is_ripe(works, batch):
            taken = min(batch.left, lacking)
            # A ripe batch with nothing in it, or behind the last one needed, is not told.
            if taken > 0:
                batch.left -= taken
                lacking -= taken
                drawn.extend([number, taken])
    return [len(drawn) // 2] + drawn


def scrap_batch(works, number):
    if no_batch(works, number):
        return [NONE_SUCH]
    batch = works.batches[number]
    if batch.left == 0:
        return [HAS_LESS]
    if not is_too_old(works, batch):
        return [NOT_SO]
    scrapped = batch.left
    batch.left = 0
    return [scrapped]
