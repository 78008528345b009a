"""What holds over all calls together, a to f, by what the calls themselves tell, over long lists."""

import random
import unittest

from tests.helper import (
    MOST_CALLS, QUESTIONS, CallTest, all_batches, all_lots, ask, begun, last, lots_in, parts, questions, some_calls,
    told_of,
)


def steps(seeds, *names, count=120):
    """Each call of these names in long lists, with the calls ahead of it since nothing was begun and its answer."""
    found = []
    for seed in range(seeds):
        calls = some_calls(seed, count, 0)
        for place, (call, told) in enumerate(zip(calls, ask(calls), strict=True)):
            if call[0] in names and told != [-11]:
                found.append((calls[:place], call, told))
    return found


class EveryKilogram(unittest.TestCase):
    """a, and what sums tells."""

    def test_behind_every_call(self):
        seen = set()
        for seed in range(60):
            calls = some_calls(seed, MOST_CALLS // 2, 0.1)
            told = ask([one for call in calls for one in (call, ("sums",))])
            before = [-11]
            for call, answer, sums in zip(calls, told[::2], told[1::2], strict=True):
                self.assertEqual(sums, self.wanted(call, answer, before), (seed, call, answer))
                if answer[0] >= 0:
                    seen.add(call[0])
                if sums != [-11]:
                    bought, in_lots, in_batches, used, scrapped = sums[1:]
                    self.assertEqual(bought, in_lots + in_batches + used + scrapped, (seed, call))
                before = sums
        self.assertLessEqual({"begin", "buy", "mix", "rework", "use", "draw", "scrap", "minutes"}, seen)

    def wanted(self, call, answer, before):
        """The sums behind a call, from those ahead of it and what it answered."""
        name, given = call[0], call[1:]
        if name == "begin":
            return [0] * 6
        if answer[0] < 0:
            return before
        change = {
            "buy": lambda: (given[1], given[1], 0, 0, 0),
            "mix": lambda: (0, -given[1], given[1], 0, 0),
            "rework": lambda: (0, given[3] - given[1], given[1] - given[3], 0, 0),
            "use": lambda: (0, 0, -given[1], given[1], 0),
            "draw": lambda: (0, 0, -given[1], given[1], 0),
            "scrap": lambda: (0, 0, -answer[0], 0, answer[0]),
        }.get(name, lambda: (0, 0, 0, 0, 0))()
        return [0] + [had + more for had, more in zip(before[1:], change, strict=True)]


class HowMany(unittest.TestCase):
    """What state tells, behind every call."""

    def test_behind_every_call(self):
        counts = {"material": 1, "buy": 2, "recipe": 3, "mix": 4, "rework": 4}
        for seed in range(30):
            calls = some_calls(seed, MOST_CALLS // 2, 0.1)
            told = ask([one for call in calls for one in (call, ("state",))])
            wanted = [-11]
            for call, answer, state in zip(calls, told[::2], told[1::2], strict=True):
                if call[0] == "begin":
                    wanted = [0] * 5
                elif answer[0] >= 0 and call[0] == "minutes":
                    wanted[0] += call[1]
                elif answer[0] >= 0 and call[0] in counts:
                    # What is new has the number of how many there were.
                    self.assertEqual(answer, [wanted[counts[call[0]]]], (seed, call))
                    wanted[counts[call[0]]] += 1
                self.assertEqual(state, wanted, (seed, call))


class WholeKilograms(CallTest):
    """b, by what a mix takes of the lots; the shares themselves are held to in test_needs."""

    def test_a_mix_takes_what_needs_tells_the_lesser_lot_first(self):
        done = 0
        for before, call, told in steps(25, "mix", "rework"):
            if told[0] < 0:
                continue
            fresh = call[2] - (call[4] if call[0] == "rework" else 0)
            needed = last(before + [("needs", call[1], fresh)])[1:]
            self.assertEqual(sum(needed), fresh)
            lots, behind = all_lots(before), all_lots(before + [call])
            for material, kilograms in enumerate(needed):
                own = [(one[2], two[2]) for one, two in zip(lots, behind, strict=True) if one[0] == material]
                self.assertEqual(sum(had - has for had, has in own), kilograms)
                for place, (had, has) in enumerate(own):
                    if has < had and place > 0:
                        self.assertEqual(own[place - 1][1], 0, (call, own))
            done += 1
        self.assertGreater(done, 150)


class SoMuchCanBeMixed(unittest.TestCase):
    """c: asked again and again, so much is mixed and a kilogram more is refused."""

    def test_over_long_lists(self):
        found = []
        for seed in range(25):
            source = random.Random(seed)
            calls = begun(8) + [("recipe", 1, 5, 50, self.some_parts(source)) for recipe in range(6)]
            for batch in range(40):
                calls += [("buy", source.randrange(8), source.choice((1, 3, 20, 300)))]
                recipe = source.randrange(6)
                most = last(calls + [("most", recipe)])[0]
                told = ask(calls + [("mix", recipe, most + 1), ("mix", recipe, most)])[-2:]
                self.assertEqual(told[0], [-12] if most < 1000 else [-22])
                self.assertEqual(told[1], last(calls + [("state",)])[-1:] if most > 0 else [-22])
                found.append(most)
                calls += [("most", recipe), ("mix", recipe, most if batch % 5 == 0 else source.randint(0, most))]
        self.assertIn(0, found)
        self.assertIn(1, found)
        self.assertGreater(max(found), 500)

    def some_parts(self, source):
        some = [source.choice((0, 0, 0, 1, 1, 2, 5, 300)) for place in range(8)]
        return some if any(some) else parts(1)


class OnlyWhatIsRipe(unittest.TestCase):
    """d, by what look tells of every batch ahead of a call and behind it."""

    def taken(self, before, call):
        """Of each batch what it has less behind the call; all else that look tells is as it was."""
        ahead, behind = all_batches(before), all_batches(before + [call])
        self.assertEqual([one[:1] + one[2:] for one in ahead], [one[:1] + one[2:] for one in behind])
        return {number: one[1] - two[1] for number, (one, two) in enumerate(zip(ahead, behind)) if one != two}

    def test_use(self):
        seen = set()
        for before, call, told in steps(25, "use"):
            batches = all_batches(before)
            taken = self.taken(before, call)
            if told[0] >= 0:
                self.assertEqual(taken, {call[1]: call[2]})
                self.assertEqual(batches[call[1]][3], 1)
                self.assertEqual(told, [batches[call[1]][1] - call[2]])
            else:
                self.assertEqual(taken, {})
            if told in ([-13], [-14]):
                self.assertEqual(batches[call[1]][3], {-13: 0, -14: 2}[told[0]])
            seen.add(min(told[0], 0))
        self.assertEqual(seen, {0, -2, -6, -13, -14, -22})

    def test_draw(self):
        many = 0
        for before, call, told in steps(60, "draw"):
            taken = self.taken(before, call)
            if told[0] < 0:
                self.assertEqual(taken, {})
                continue
            self.assertEqual(told, [len(taken)] + [number for pair in sorted(taken.items()) for number in pair])
            self.assertEqual(sum(taken.values()), call[2])
            ripe = last(before + [("ripe", call[1])])[1:]
            self.assertEqual(sorted(taken), ripe[:len(taken)])
            batches = all_batches(before)
            minutes = [batches[number][2] for number in sorted(taken)]
            self.assertEqual(minutes, sorted(minutes))
            for number in sorted(taken)[:-1]:
                self.assertEqual(taken[number], batches[number][1])
            many += len(taken) > 1
        self.assertGreater(many, 5)

    def test_ripe_next_and_old_say_what_look_says(self):
        waited = 0
        for before, call, told in steps(12, "minutes"):
            batches = list(enumerate(all_batches(before)))
            with_some = [(number, one) for number, one in batches if one[1] > 0]
            old = [number for number, one in with_some if one[3] == 2]
            self.assertEqual(last(before + [("old",)]), [len(old)] + old)
            for recipe in range(last(before + [("state",)])[3]):
                own = [(number, one) for number, one in with_some if one[0] == recipe]
                ripe = [(number, one[1]) for number, one in own if one[3] == 1]
                wanted = [sum(has for number, has in ripe)] + [number for number, has in ripe]
                self.assertEqual(last(before + [("ripe", recipe)]), wanted)
                resting = [number for number, one in own if one[3] == 0]
                wait = last(before + [("next", recipe)])
                self.assertEqual(wait == [-6], not resting)
                if resting:
                    self.waits(before, resting, wait[0])
                    waited += 1
        self.assertGreater(waited, 50)

    def waits(self, before, resting, wait):
        """All rest a minute ahead of it; then at least one does not."""
        self.assertIn(wait, range(1, 10001))
        if wait > 1:
            ahead = all_batches(before + [("minutes", wait - 1)])
            self.assertEqual({ahead[number][3] for number in resting}, {0})
        then = all_batches(before + [("minutes", wait)])
        self.assertIn(1, [then[number][3] for number in resting])


class WhateverLot(unittest.TestCase):
    """e, by what is taken of every lot, and what is told of the batch that was worked in."""

    def test_lots_of_every_batch(self):
        deep = 0
        for before, call, told in steps(60, "mix", "rework", count=150):
            ahead = lots_in(before)
            if told[0] < 0:
                self.assertEqual(lots_in(before + [call]), ahead)
                continue
            pairs = zip(all_lots(before), all_lots(before + [call]), strict=True)
            taken = [number for number, (one, two) in enumerate(pairs) if one != two]
            brought = ahead[call[3]] if call[0] == "rework" else []
            behind = lots_in(before + [call])
            self.assertEqual(behind[:-1], ahead)
            self.assertEqual(behind[-1], sorted(set(taken) | set(brought)))
            deep += bool(set(brought) - set(taken))
        self.assertGreater(deep, 20)

    def test_has_is_the_other_side_of_lots(self):
        for seed in range(40):
            before = some_calls(seed, 300, 0.1)
            batches = lots_in(before)
            count = len(all_lots(before))
            told = ask(before + [("has", number) for number in range(count)])[len(before):]
            for number, answer in enumerate(told):
                having = [batch for batch, lots in enumerate(batches) if number in lots]
                self.assertEqual(answer, [len(having)] + having)


class WhatIsRefused(CallTest):
    """f"""

    def test_all_that_can_be_asked_is_the_same_behind_it(self):
        seen = set()
        for seed in range(12):
            calls = some_calls(seed, 150, 0.1)
            for place, (call, told) in enumerate(zip(calls, ask(calls), strict=True)):
                if told[0] < 0:
                    self.unchanged(calls[:place], call)
                    seen.add(told[0])
        self.assertEqual(seen, {-2, -6, -11, -12, -13, -14, -16, -22, -28, -75})

    def test_without_it_the_rest_answers_the_same(self):
        for seed in range(60):
            calls = some_calls(seed)
            kept = [(call, told) for call, told in zip(calls, ask(calls)) if told[0] >= 0]
            self.assertEqual(ask([call for call, told in kept]), [told for call, told in kept])

    def test_nor_do_questions_change_anything(self):
        for seed in range(6):
            before = some_calls(seed, 120, 0)
            asked = questions(before)
            told = told_of(before, asked)
            for name in QUESTIONS:
                some = [call for call in asked if call[0] == name]
                self.assertEqual(told_of(before + some, asked), told, name)


if __name__ == "__main__":
    unittest.main()
