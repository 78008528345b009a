"""What is told of lots, batches and all there is, with nothing changed."""

from tyremixes.mixing import in_stock
from tyremixes.records import no_batch, no_lot, no_material
from tyremixes.refusals import NONE_SUCH
from tyremixes.using import is_too_old, must_rest

AT_REST = 0
RIPE = 1
PAST_ITS_TIME = 2


def tell_lots(works, number):
    if no_batch(works, number):
        return [NONE_SUCH]
    lots = works.batches[number].lots
    return [len(lots)] + lots


def tell_has(works, number):
    """In how many batches a lot is, however much they have yet; then these."""
    if no_lot(works, number):
        return [NONE_SUCH]
    batches = [place for place, batch in enumerate(works.batches) if number in batch.lots]
    return [len(batches)] + batches


def tell_stock(works, material):
    if no_material(works, material):
        return [NONE_SUCH]
    lots = [number for number, lot in enumerate(works.lots) if lot.material == material and lot.left > 0]
    return [in_stock(works, material)] + lots


def age_of(works, batch):
    if must_rest(works, batch):
        return AT_REST
    if is_too_old(works, batch):
        return PAST_ITS_TIME
    return RIPE


def tell_look(works, number):
    if no_batch(works, number):
        return [NONE_SUCH]
    batch = works.batches[number]
    return [batch.recipe, batch.left, batch.mixed, age_of(works, batch)]


def tell_lot(works, number):
    if no_lot(works, number):
        return [NONE_SUCH]
    lot = works.lots[number]
    return [lot.material, lot.bought, lot.left]


def tell_sums(works):
    """0; then how much was bought in all, is in lots, in batches, was used, was scrapped."""
    # Each is counted by itself, none from the others, so that a lost kilogram would show.
    bought = sum([lot.bought for lot in works.lots])
    in_lots = sum([lot.left for lot in works.lots])
    in_batches = sum([batch.left for batch in works.batches])
    return [0, bought, in_lots, in_batches, works.used, works.scrapped]


def tell_state(works):
    return [works.minute, works.materials, len(works.lots), len(works.recipes), len(works.batches)]
