"""Reads a list of calls, makes them on one works in order, and lists what they answer."""

from tyremixes.mixing import mix_batch, rework_batch, tell_most, tell_needs
from tyremixes.records import Works
from tyremixes.refusals import NOT_BEGUN
from tyremixes.supply import add_material, add_recipe, buy_lot, pass_minutes
from tyremixes.telling import tell_has, tell_look, tell_lot, tell_lots, tell_state, tell_stock, tell_sums
from tyremixes.using import draw_recipe, scrap_batch, tell_next, tell_old, tell_ripe, use_batch

BEGIN = 0
MATERIAL = 1
BUY = 2
RECIPE = 3
MIX = 4
REWORK = 5
USE = 6
DRAW = 7
SCRAP = 8
MINUTES = 9
NEEDS = 10
MOST = 11
RIPE = 12
NEXT = 13
OLD = 14
LOTS = 15
HAS = 16
STOCK = 17
LOOK = 18
LOT = 19
SUMS = 20
# The last call, state, is 21.

# How many whole numbers stand behind each call's number, ahead of a recipe's row of parts.
WHOLE_NUMBERS = (0, 0, 2, 3, 2, 4, 2, 2, 1, 1, 2, 1, 1, 1, 0, 1, 1, 1, 1, 1, 0, 0)


def end_of_call(calls, start):
    """The place behind the last number of the call that stands at start."""
    end = start + 1 + WHOLE_NUMBERS[calls[start]]
    if calls[start] == RECIPE:
        end += 1 + calls[end]
    return end


def answer_change(works, call, given):
    """Makes one of the calls that may change something, minutes the last of them."""
    if call == MATERIAL:
        return add_material(works)
    if call == BUY:
        return buy_lot(works, given[0], given[1])
    if call == RECIPE:
        # given[3] only says how many parts follow.
        return add_recipe(works, given[0], given[1], given[2], given[4:])
    if call == MIX:
        return mix_batch(works, given[0], given[1])
    if call == REWORK:
        return rework_batch(works, given[0], given[1], given[2], given[3])
    if call == USE:
        return use_batch(works, given[0], given[1])
    if call == DRAW:
        return draw_recipe(works, given[0], given[1])
    if call == SCRAP:
        return scrap_batch(works, given[0])
    return pass_minutes(works, given[0])


def answer_question(works, call, given):
    """Answers one of the calls that only tell something, state the last of them."""
    if call == NEEDS:
        return tell_needs(works, given[0], given[1])
    if call == MOST:
        return tell_most(works, given[0])
    if call == RIPE:
        return tell_ripe(works, given[0])
    if call == NEXT:
        return tell_next(works, given[0])
    if call == OLD:
        return tell_old(works)
    if call == LOTS:
        return tell_lots(works, given[0])
    if call == HAS:
        return tell_has(works, given[0])
    if call == STOCK:
        return tell_stock(works, given[0])
    if call == LOOK:
        return tell_look(works, given[0])
    if call == LOT:
        return tell_lot(works, given[0])
    if call == SUMS:
        return tell_sums(works)
    return tell_state(works)


def answer_call(works, call, given):
    """What a call answers once there is a begin: its number, then what else is told."""
    if call <= MINUTES:
        return answer_change(works, call, given)
    return answer_question(works, call, given)


def answers(calls):
    """For each call, in order: how many numbers it answers, then these."""
    works = None
    told = []
    start = 0
    while start < len(calls):
        end = end_of_call(calls, start)
        if calls[start] == BEGIN:
            works = Works()
            answer = [0]
        elif works is None:
            answer = [NOT_BEGUN]
        else:
            answer = answer_call(works, calls[start], calls[start + 1:end])
        told.append(len(answer))
        told.extend(answer)
        start = end
    return told
