"""Reads a list of calls, makes them on one works in order, and lists what they answer."""

from tyremixes.mixing import mix_batch, rework_batch, tell_needs
from tyremixes.records import Works
from tyremixes.refusals import NOT_BEGUN
from tyremixes.supply import add_material, add_recipe, buy_lot, pass_minutes
from tyremixes.using import draw_recipe, scrap_batch, use_batch

BEGIN = 0
MATERIAL = 1
BUY = 2
RECIPE = 3
MIX = 4
REWORK = 5
USE = 6
DRAW = 7
SCRAP = 8
MINUTES = 9
NEEDS = 10

# How many whole numbers stand behind each call's number, ahead of a recipe's row of parts.
WHOLE_NUMBERS = (0, 0, 2, 3, 2, 4, 2, 2, 1, 1, 2, 1, 1, 1, 0, 1, 1, 1, 1, 1, 0, 0)


def end_of_call(calls, start):
    """The place behind the last number of the call that stands at start."""
    end = start + 1 + WHOLE_NUMBERS[calls[start]]
    if calls[start] == RECIPE:
        end += 1 + calls[end]
    return end


def answer_call(works, call, given):
    """What a call answers once there is a begin: its number, then what else is told."""
    if call == MATERIAL:
        return add_material(works)
    if call == BUY:
        return buy_lot(works, given[0], given[1])
    if call == RECIPE:
        # given[3] only says how many parts follow.
        return add_recipe(works, given[0], given[1], given[2], given[4:])
    if call == MIX:
        return mix_batch(works, given[0], given[1])
    if call == REWORK:
        return rework_batch(works, given[0], given[1], given[2], given[3])
    if call == USE:
        return use_batch(works, given[0], given[1])
    if call == DRAW:
        return draw_recipe(works, given[0], given[1])
    if call == SCRAP:
        return scrap_batch(works, given[0])
    if call == MINUTES:
        return pass_minutes(works, given[0])
    if call == NEEDS:
        return tell_needs(works, given[0], given[1])
    # A wrong answer would be worse than none.
    raise NotImplementedError(f"call {call} is not built yet")


def answers(calls):
    """For each call, in order: how many numbers it answers, then these."""
    works = None
    told = []
    start = 0
    while start < len(calls):
        end = end_of_call(calls, start)
        if calls[start] == BEGIN:
            works = Works()
            answer = [0]
        elif works is None:
            answer = [NOT_BEGUN]
        else:
            answer = answer_call(works, calls[start], calls[start + 1:end])
        told.append(len(answer))
        told.extend(answer)
        start = end
    return told
