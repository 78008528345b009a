"""Batches as they rest, are ripe and too old: what may be used of them, when, and what is scrapped."""

from tyremixes.records import no_batch, no_recipe
from tyremixes.refusals import MUST_REST, NONE_OR_LESS, NONE_SUCH, NOT_SO, OUT_OF_RANGE, TOO_LITTLE, TOO_OLD


def minutes_to_rest(works, batch):
    """How many minutes a batch must rest yet; 0 or less if it needn't."""
    return batch.mixed + works.recipes[batch.recipe].rest - works.minute


def must_rest(works, batch):
    return minutes_to_rest(works, batch) > 0


def is_too_old(works, batch):
    return works.minute - batch.mixed > works.recipes[batch.recipe].good


def is_ripe(works, batch):
    return not must_rest(works, batch) and not is_too_old(works, batch)


def ripe_batches(works, recipe):
    """The numbers of a recipe's ripe batches that have some, rising."""
    ripe = []
    for number, batch in enumerate(works.batches):
        if batch.recipe == recipe and batch.left > 0 and is_ripe(works, batch):
            ripe.append(number)
    return ripe


def kilograms_in(works, numbers):
    return sum([works.batches[number].left for number in numbers])


def use_batch(works, number, kilograms):
    if no_batch(works, number):
        return [NONE_SUCH]
    if kilograms == 0:
        return [OUT_OF_RANGE]
    batch = works.batches[number]
    if batch.left < kilograms:
        return [NONE_OR_LESS]
    if must_rest(works, batch):
        return [MUST_REST]
    if is_too_old(works, batch):
        return [TOO_OLD]
    batch.left -= kilograms
    works.used += kilograms
    return [batch.left]


def draw_recipe(works, recipe, kilograms):
    if no_recipe(works, recipe):
        return [NONE_SUCH]
    if kilograms == 0:
        return [OUT_OF_RANGE]
    ripe = ripe_batches(works, recipe)
    if kilograms_in(works, ripe) < kilograms:
        return [TOO_LITTLE]
    lacking = kilograms
    drawn = []
    for number in ripe:
        taken = min(works.batches[number].left, lacking)
        # A batch behind the last one needed is not told.
        if taken > 0:
            use_batch(works, number, taken)
            lacking -= taken
            drawn.extend([number, taken])
    return [len(drawn) // 2] + drawn


def scrap_batch(works, number):
    if no_batch(works, number):
        return [NONE_SUCH]
    batch = works.batches[number]
    if batch.left == 0:
        return [NONE_OR_LESS]
    if not is_too_old(works, batch):
        return [NOT_SO]
    scrapped = batch.left
    batch.left = 0
    works.scrapped += scrapped
    return [scrapped]


def tell_ripe(works, recipe):
    if no_recipe(works, recipe):
        return [NONE_SUCH]
    ripe = ripe_batches(works, recipe)
    return [kilograms_in(works, ripe)] + ripe


def tell_next(works, recipe):
    """In how many minutes the first batch of a recipe that must rest, and has some, needn't any more."""
    if no_recipe(works, recipe):
        return [NONE_SUCH]
    waits = []
    for batch in works.batches:
        if batch.recipe == recipe and batch.left > 0 and must_rest(works, batch):
            waits.append(minutes_to_rest(works, batch))
    if len(waits) == 0:
        return [NONE_OR_LESS]
    return [min(waits)]


def tell_old(works):
    """How many batches of all recipes that have some are too old; then these."""
    old = [number for number, batch in enumerate(works.batches) if batch.left > 0 and is_too_old(works, batch)]
    return [len(old)] + old
