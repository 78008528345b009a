"""Long lists of all sorts of calls, held against a plain model that counts kilogram by kilogram."""

import random
import unittest
from fractions import Fraction

from tests.helper import GREATEST, NAMES, ask, begun, line, parts, works_after
from tyremixes.mixer import answers


class Model:
    """The document's words, told as slowly and as plainly as can be: a kilogram is one entry of a list."""

    def __init__(self):
        self.begun = False

    def call(self, name, *given):
        if name == "begin":
            self.begun = True
            self.minute, self.materials = 0, 0
            self.lots, self.recipes, self.batches = [], [], []
            self.bought, self.used, self.scrapped = 0, 0, 0
            return [0]
        if not self.begun:
            return [-11]
        return getattr(self, name)(*given)

    def first(self, *refusals):
        """The first refusal that is due, or None; each is a question that's asked only in its turn."""
        for number, due in refusals:
            if due():
                return [number]
        return None

    def shares(self, recipe, kilograms):
        some = self.recipes[recipe][3]
        exact = [Fraction(kilograms * part, sum(some)) for part in some]
        whole = [share.numerator // share.denominator for share in exact]
        over = [share - low for share, low in zip(exact, whole)]
        while sum(whole) < kilograms:
            place = over.index(max(over))
            whole[place] += 1
            over[place] = Fraction(-1)
        return whole

    def short(self, recipe, kilograms):
        pile = [0] * 8
        for material, left in self.lots:
            pile[material] += len(left)
        return any(has < wants for has, wants in zip(pile, self.shares(recipe, kilograms)))

    def take(self, recipe, kilograms):
        """The lot of each kilogram that is taken, one after another."""
        taken = []
        for material, wants in enumerate(self.shares(recipe, kilograms)):
            for one in range(wants):
                number = min(n for n, (of, left) in enumerate(self.lots) if of == material and left)
                self.lots[number][1].pop()
                taken.append(number)
        return taken

    def phase(self, number):
        batch = self.batches[number]
        rest, good = self.recipes[batch["recipe"]][:2]
        gone = self.minute - batch["mixed"]
        return "rests" if gone < rest else "old" if gone > good else "ripe"

    def remove(self, number, kilograms):
        for one in range(kilograms):
            self.batches[number]["left"].pop()

    def add_batch(self, recipe, kilograms, lots):
        batch = {"recipe": recipe, "left": [1] * kilograms, "mixed": self.minute, "lots": sorted(set(lots))}
        self.batches.append(batch)
        return [len(self.batches) - 1]

    def material(self):
        if self.materials == 8:
            return [-28]
        self.materials += 1
        return [self.materials - 1]

    def buy(self, m, n):
        refused = self.first((-2, lambda: m not in range(self.materials)), (-22, lambda: n not in range(1, 10001)),
                             (-28, lambda: len(self.lots) == 40))
        if refused:
            return refused
        self.lots.append((m, [1] * n))
        self.bought += n
        return [len(self.lots) - 1]

    def recipe(self, rest, good, share, some):
        right = (rest <= 10000 and rest <= good <= 100000 and share <= 100 and len(some) == 8
                 and all(part <= 1000 for part in some) and any(some) and not any(some[self.materials:]))
        if not right:
            return [-22]
        if len(self.recipes) == 6:
            return [-28]
        self.recipes.append((rest, good, share, list(some)))
        return [len(self.recipes) - 1]

    def mix(self, r, n):
        refused = self.first((-2, lambda: r not in range(len(self.recipes))), (-22, lambda: n not in range(1, 1001)),
                             (-28, lambda: len(self.batches) == 40), (-12, lambda: self.short(r, n)))
        return refused or self.add_batch(r, n, self.take(r, n))

    def rework(self, r, n, b, k):
        refused = self.first(
            (-2, lambda: r not in range(len(self.recipes)) or b not in range(len(self.batches))),
            (-22, lambda: n not in range(1, 1001) or k not in range(1, n + 1)),
            (-16, lambda: self.batches[b]["recipe"] != r),
            (-6, lambda: len(self.batches[b]["left"]) < k),
            (-75, lambda: k > Fraction(self.recipes[r][2] * n, 100)),
            (-28, lambda: len(self.batches) == 40),
            (-12, lambda: self.short(r, n - k)))
        if refused:
            return refused
        self.remove(b, k)
        return self.add_batch(r, n, self.take(r, n - k) + self.batches[b]["lots"])

    def use(self, b, n):
        refused = self.first(
            (-2, lambda: b not in range(len(self.batches))), (-22, lambda: n == 0),
            (-6, lambda: len(self.batches[b]["left"]) < n),
            (-13, lambda: self.phase(b) == "rests"), (-14, lambda: self.phase(b) == "old"))
        if refused:
            return refused
        self.remove(b, n)
        self.used += n
        return [len(self.batches[b]["left"])]

    def draw(self, r, n):
        ripe = [b for b, batch in enumerate(self.batches) if batch["recipe"] == r and self.phase(b) == "ripe"]
        refused = self.first((-2, lambda: r not in range(len(self.recipes))), (-22, lambda: n == 0),
                             (-12, lambda: sum(len(self.batches[b]["left"]) for b in ripe) < n))
        if refused:
            return refused
        drawn = {}
        for one in range(n):
            number = min(b for b in ripe if self.batches[b]["left"])
            self.remove(number, 1)
            drawn[number] = drawn.get(number, 0) + 1
        self.used += n
        return [len(drawn)] + [number for pair in sorted(drawn.items()) for number in pair]

    def scrap(self, b):
        refused = self.first((-2, lambda: b not in range(len(self.batches))),
                             (-6, lambda: not self.batches[b]["left"]), (-16, lambda: self.phase(b) != "old"))
        if refused:
            return refused
        had = len(self.batches[b]["left"])
        self.remove(b, had)
        self.scrapped += had
        return [had]

    def minutes(self, n):
        if n not in range(1, 10001):
            return [-22]
        self.minute += n
        return [self.minute]

    def needs(self, r, n):
        refused = self.first((-2, lambda: r not in range(len(self.recipes))), (-22, lambda: n > 1000))
        return refused or [n] + self.shares(r, n)


class Caller:
    """Writes calls that mostly do what they're asked, by a model of what there is, and now and then do not."""

    def __init__(self, seed):
        self.source = random.Random(seed)
        self.model = Model()
        self.calls = []

    def put(self, *call):
        self.calls.append(call)
        self.model.call(*call)

    def pick(self, *some):
        return self.source.choice(some)

    def seldom(self, share=0.08):
        return self.source.random() < share

    def one_of(self, count):
        """A number of those there are, the next one or one far out."""
        if count == 0 or self.seldom():
            return self.pick(count, count + 1, GREATEST)
        return self.source.randrange(count)

    def kilograms(self):
        if self.seldom(0.15):
            return self.pick(0, 1, 1000, 1001, GREATEST)
        return self.pick(1, 2, 3, 10, self.source.randint(1, 60), self.source.randint(1, 60))

    def parts(self):
        if self.seldom():
            return [self.pick(0, 1, 1000, 1001, GREATEST) for place in range(self.source.randint(0, 10))]
        some = [self.pick(0, 1, 1, 2, 3, 7, 100, 999) for place in range(self.model.materials)]
        return (some + [0] * 8)[:8]

    def recipe(self):
        rest = self.pick(10000, 10001) if self.seldom() else self.pick(0, 0, 1, 3, 5)
        good = self.pick(rest, rest + 1, rest + 4, rest + 10, rest + 20)
        if self.seldom():
            good = self.pick(100000, 100001, max(rest - 1, 0), GREATEST)
        self.put("recipe", rest, good, self.pick(0, 10, 33, 50, 100, 100, 101), self.parts())

    def rework(self):
        batch = self.one_of(len(self.model.batches))
        recipe = self.one_of(len(self.model.recipes))
        if batch < len(self.model.batches) and not self.seldom():
            recipe = self.model.batches[batch]["recipe"]
        kilograms = self.kilograms()
        self.put("rework", recipe, kilograms, batch, self.pick(0, 1, 1, 2, 5, kilograms // 3, kilograms, kilograms + 1))

    def other(self, name):
        if name == "material":
            self.put("material")
        elif name == "buy":
            amount = self.pick(0, 1, 10000, 10001) if self.seldom() else self.pick(1, 5, 20, 40, 100)
            self.put("buy", self.one_of(self.model.materials), amount)
        elif name == "use":
            self.put("use", self.one_of(len(self.model.batches)), self.kilograms())
        elif name == "scrap":
            self.put("scrap", self.one_of(len(self.model.batches)))
        elif name == "minutes":
            self.put("minutes", self.pick(0, 10000, 10001) if self.seldom(0.04) else self.pick(1, 1, 2, 3))
        else:
            self.put(name, self.one_of(len(self.model.recipes)), self.kilograms())

    def some(self):
        name = self.pick("buy", "buy", "mix", "mix", "rework", "use", "draw", "scrap", "minutes", "minutes", "needs",
                         "material" if self.seldom(0.3) else "recipe")
        if name == "recipe":
            self.recipe()
        elif name == "rework":
            self.rework()
        else:
            self.other(name)


def some_calls(seed):
    """As a rule 400 calls; some stand before the begin, and in every third list more begins follow."""
    caller = Caller(seed)
    before = [("material",), ("buy", 0, 5), ("recipe", 0, 0, 0, parts(1)), ("mix", 0, 1), ("needs", 0, 1)]
    for call in before[:caller.pick(0, 0, 5)]:
        caller.put(*call)
    count = caller.pick(400, 400, 400, 60)
    while len(caller.calls) < count:
        if not caller.model.begun or (seed % 3 == 0 and caller.seldom(0.01)):
            for call in begun(caller.source.randint(1, 8)):
                caller.put(*call)
        else:
            caller.some()
    return caller.calls[:count]


# What each call may answer below 0 once there is a begin.
REFUSALS = {
    "material": {-28}, "buy": {-2, -22, -28}, "recipe": {-22, -28}, "mix": {-2, -22, -28, -12},
    "rework": {-2, -22, -16, -6, -75, -28, -12}, "use": {-2, -22, -6, -13, -14}, "draw": {-2, -22, -12},
    "scrap": {-2, -6, -16}, "minutes": {-22}, "needs": {-2, -22},
}


class ManyCalls(unittest.TestCase):
    def test_the_lists_answer_as_the_model_does(self):
        seen = {name: set() for name in REFUSALS}
        done = set()
        for seed in range(120):
            calls = some_calls(seed)
            model = Model()
            for place, (call, told) in enumerate(zip(calls, ask(calls), strict=True)):
                self.assertEqual(told, model.call(*call), (seed, place, call))
                if told[0] >= 0:
                    done.add(call[0])
                elif told[0] != -11:
                    seen[call[0]].add(told[0])
            self.keeps_the_same(calls, model)
        self.assertEqual(seen, REFUSALS)
        self.assertEqual(done, set(NAMES[:11]))

    def keeps_the_same(self, calls, model):
        """What is in lots and batches is as in the model, and no kilogram is lost or won."""
        begin = calls.index(("begin",))
        works = works_after(calls[begin:])
        lots = [(lot.material, lot.left) for lot in works.lots]
        self.assertEqual(lots, [(material, len(left)) for material, left in model.lots])
        batches = [(one.recipe, one.left, one.mixed, one.lots) for one in works.batches]
        wanted = [(one["recipe"], len(one["left"]), one["mixed"], one["lots"]) for one in model.batches]
        self.assertEqual(batches, wanted)
        there = sum(lot.left for lot in works.lots) + sum(batch.left for batch in works.batches)
        self.assertEqual(there + model.used + model.scrapped, model.bought)

    def test_the_lists_are_up_to_400_calls_and_8000_numbers(self):
        lengths = [len(some_calls(seed)) for seed in range(120)]
        self.assertEqual(max(lengths), 400)
        self.assertLess(min(lengths), 400)
        self.assertLess(max(len(line(some_calls(seed))) for seed in range(120)), 8001)

    def test_a_list_is_left_as_it_was_and_answers_the_same_again(self):
        for seed in range(40):
            numbers = line(some_calls(seed))
            kept = list(numbers)
            once = answers(numbers)
            self.assertEqual(numbers, kept)
            self.assertEqual(answers(line(some_calls(seed + 1))), answers(line(some_calls(seed + 1))))
            self.assertEqual(answers(numbers), once)

    def test_what_is_given_back_is_the_callers_own(self):
        numbers = line(some_calls(1))
        first = answers(numbers)
        wanted = list(first)
        first.clear()
        self.assertEqual(answers(numbers), wanted)

    def test_all_that_is_answered_is_whole_numbers(self):
        for seed in range(40):
            told = answers(line(some_calls(seed)))
            self.assertIs(type(told), list)
            self.assertEqual({type(number) for number in told}, {int})

    def test_without_what_was_refused_the_rest_answers_the_same(self):
        for seed in range(40):
            calls = some_calls(seed)
            kept = [(call, told) for call, told in zip(calls, ask(calls)) if told[0] >= 0]
            self.assertEqual(ask([call for call, told in kept]), [told for call, told in kept])


class TheListsForm(unittest.TestCase):
    def test_calls_and_answers_number_by_number(self):
        calls = [0, 1, 1, 2, 0, 30, 2, 1, 20, 3, 2, 4, 50, 8, 2, 1, 0, 0, 0, 0, 0, 0, 10, 0, 10, 4, 0, 10, 7, 0, 1,
                 9, 2, 5, 0, 6, 0, 3, 6, 0, 2, 7, 0, 5, 9, 5, 8, 1]
        wanted = [1, 0, 1, 0, 1, 1, 1, 0, 1, 1, 1, 0, 9, 10, 7, 3, 0, 0, 0, 0, 0, 0, 1, 0, 1, -12,
                  1, 2, 1, 1, 1, 5, 3, 1, 0, 5, 1, 7, 1, 6]
        self.assertEqual(answers(calls), wanted)

    def test_one_call_alone(self):
        self.assertEqual(answers([0]), [1, 0])
        self.assertEqual(answers([1]), [1, -11])

    def test_rows_of_0_to_10_are_read_to_their_end(self):
        for count in range(11):
            self.assertEqual(answers([0, 3, 0, 0, 0, count] + [9] * count + [9, 4]), [1, 0, 1, -22, 1, 4])
            self.assertEqual(answers([3, 0, 0, 0, count] + [0] * count + [1]), [1, -11, 1, -11])

    def test_400_recipes_of_ten_parts(self):
        calls = [("begin",)] + [("recipe", GREATEST, GREATEST, GREATEST, [GREATEST] * 10)] * 399
        self.assertEqual(ask(calls), [[0]] + [[-22]] * 399)

    def test_400_calls_of_one_sort(self):
        self.assertEqual(ask([("begin",)] * 400), [[0]] * 400)
        stock = begun(8) + [("recipe", 0, 0, 0, [1] * 8)]
        told = ask(stock + [("needs", 0, 9)] * (400 - len(stock)))
        self.assertEqual(told[len(stock):], [[9] + [2] + [1] * 7] * (400 - len(stock)))

    def test_arguments_of_the_greatest_number(self):
        most = GREATEST
        stock = begun(1) + [("buy", 0, 10), ("recipe", 0, 0, 100, parts(1)), ("mix", 0, 10)]
        calls = [("buy", most, most), ("recipe", most, most, most, [most] * 8), ("mix", most, most),
                 ("rework", most, most, most, most), ("use", most, most), ("draw", most, most), ("scrap", most),
                 ("minutes", most), ("needs", most, most), ("buy", 0, most), ("mix", 0, most),
                 ("rework", 0, most, 0, most), ("use", 0, most), ("draw", 0, most), ("needs", 0, most)]
        wanted = [-2, -22, -2, -2, -2, -2, -2, -22, -2, -22, -22, -22, -6, -12, -22]
        self.assertEqual(ask(stock + calls)[len(stock):], [[number] for number in wanted])


if __name__ == "__main__":
    unittest.main()
