"""Lists of calls written by name, their answers one by one, and what is kept behind them."""

import unittest

from tyremixes.mixer import BEGIN, answer_call, answers
from tyremixes.records import Works

NAMES = (
    "begin", "material", "buy", "recipe", "mix", "rework", "use", "draw", "scrap", "minutes", "needs",
    "most", "ripe", "next", "old", "lots", "has", "stock", "look", "lot", "sums", "state",
)

GREATEST = 4294967295


def flat(call):
    """One call as it stands in the list, a row with its length before it."""
    numbers = [NAMES.index(call[0])]
    for given in call[1:]:
        if isinstance(given, list):
            numbers.append(len(given))
            numbers.extend(given)
        else:
            numbers.append(given)
    return numbers


def line(calls):
    return [number for call in calls for number in flat(call)]


def split(told):
    """The answers' list, call by call; fails where the counts don't come out even."""
    found = []
    place = 0
    while place < len(told):
        count = told[place]
        answer = told[place + 1:place + 1 + count]
        if count < 1 or len(answer) != count:
            raise AssertionError(f"a count of {count} at {place} of {len(told)} numbers")
        found.append(answer)
        place += 1 + count
    return found


def ask(calls):
    """What each call answers, in order."""
    found = split(answers(line(calls)))
    if len(found) != len(calls):
        raise AssertionError(f"{len(found)} answers to {len(calls)} calls")
    return found


def works_after(calls):
    """The works as it is kept behind these calls, the first of which is a begin."""
    works = None
    for call in calls:
        numbers = flat(call)
        if numbers[0] == BEGIN:
            works = Works()
        else:
            answer_call(works, numbers[0], numbers[1:])
    return works


def snapshot(value):
    """All that an object keeps, as plain values that later changes don't reach."""
    if isinstance(value, list):
        return [snapshot(one) for one in value]
    if isinstance(value, int):
        return value
    return {name: snapshot(one) for name, one in vars(value).items()}


def parts(*some):
    """Eight parts: these, then 0."""
    return list(some) + [0] * (8 - len(some))


def begun(materials=2):
    return [("begin",)] + [("material",)] * materials


class CallTest(unittest.TestCase):
    """Checks on a call that stands behind others."""

    def answered(self, before, call, answer):
        self.assertEqual(ask(before + [call])[-1], answer, call)

    def refused(self, before, call, number):
        """The refusal is answered alone, and nothing that is kept changes."""
        self.answered(before, call, [number])
        works = works_after(before)
        kept = snapshot(works)
        numbers = flat(call)
        self.assertEqual(answer_call(works, numbers[0], numbers[1:]), [number], call)
        self.assertEqual(snapshot(works), kept, call)
