"""Lists of calls written by name, their answers one by one, a plain model of them, and a writer of long lists."""

import functools
import random
import unittest
from fractions import Fraction

from tyremixes.mixer import answers

NAMES = (
    "begin", "material", "buy", "recipe", "mix", "rework", "use", "draw", "scrap", "minutes", "needs",
    "most", "ripe", "next", "old", "lots", "has", "stock", "look", "lot", "sums", "state",
)

# The calls that only tell something.
QUESTIONS = NAMES[10:]

GREATEST = 4294967295
MOST_CALLS = 400


def flat(call):
    """One call as it stands in the list, a row with its length before it."""
    numbers = [NAMES.index(call[0])]
    for given in call[1:]:
        if isinstance(given, list):
            numbers.append(len(given))
            numbers.extend(given)
        else:
            numbers.append(given)
    return numbers


def line(calls):
    return [number for call in calls for number in flat(call)]


def split(told):
    """The answers' list, call by call; fails where the counts don't come out even."""
    found = []
    place = 0
    while place < len(told):
        count = told[place]
        answer = told[place + 1:place + 1 + count]
        if count < 1 or len(answer) != count:
            raise AssertionError(f"a count of {count} at {place} of {len(told)} numbers")
        found.append(answer)
        place += 1 + count
    return found


def ask(calls):
    """What each call answers, in order."""
    if len(calls) > MOST_CALLS:
        raise AssertionError(f"{len(calls)} calls are more than a list may have")
    found = split(answers(line(calls)))
    if len(found) != len(calls):
        raise AssertionError(f"{len(found)} answers to {len(calls)} calls")
    return found


def last(calls):
    return ask(calls)[-1]


def questions(before):
    """All that can be asked behind these calls: of each thing there is, and of the one there isn't."""
    counts = (last(before + [("state",)]) + [0] * 4)[1:5]
    materials, lots, recipes, batches = [range(count + 1) for count in counts]
    asked = [("old",), ("sums",), ("state",)]
    asked += [("needs", r, n) for r in recipes for n in (1, 2, 7, 1000)]
    asked += [(name, r) for name in ("most", "ripe", "next") for r in recipes]
    asked += [(name, b) for name in ("lots", "look") for b in batches]
    asked += [(name, lot) for name in ("has", "lot") for lot in lots]
    return asked + [("stock", m) for m in materials]


def told_of(before, asked):
    """What each question answers behind these calls, in as many lists as they need."""
    found = []
    room = MOST_CALLS - len(before)
    for start in range(0, len(asked), room):
        found += ask(before + asked[start:start + room])[len(before):]
    return dict(zip(asked, found, strict=True))


def counted(before, place):
    """How many lots (2), recipes (3) or batches (4) there are, as state tells it."""
    return last(before + [("state",)])[place]


def all_lots(before):
    """Of each lot its material, how much was bought, how much is left."""
    count = counted(before, 2)
    return ask(before + [("lot", number) for number in range(count)])[len(before):]


def all_batches(before):
    """Of each batch its recipe, how much is left, its minute, 0 at rest, 1 ripe, 2 too old."""
    count = counted(before, 4)
    return ask(before + [("look", number) for number in range(count)])[len(before):]


def lots_left(before):
    return [lot[2] for lot in all_lots(before)]


def batches_left(before):
    return [batch[1] for batch in all_batches(before)]


def lots_in(before):
    """Of each batch the lots that are in it."""
    count = counted(before, 4)
    return [told[1:] for told in ask(before + [("lots", number) for number in range(count)])[len(before):]]


def parts(*some):
    """Eight parts: these, then 0."""
    return list(some) + [0] * (8 - len(some))


def begun(materials=2):
    return [("begin",)] + [("material",)] * materials


def later(calls, minutes):
    return calls + [("minutes", minutes)]


def mixed(*amounts, rest=5, good=10):
    """One material, recipes 0 and 1 alike, and batches of recipe 0 of these kilograms."""
    same = ("recipe", rest, good, 100, parts(1))
    return begun(1) + [("buy", 0, 10000), same, same] + [("mix", 0, amount) for amount in amounts]


class CallTest(unittest.TestCase):
    """Checks on a call that stands behind others."""

    def answered(self, before, call, answer):
        self.assertEqual(last(before + [call]), answer, call)

    def unchanged(self, before, call):
        """All that can be asked answers the same ahead of the call and behind it."""
        asked = questions(before)
        self.assertEqual(told_of(before + [call], asked), told_of(before, asked), call)

    def refused(self, before, call, number):
        """The refusal is answered alone, and nothing changes."""
        self.told(before, call, [number])

    def told(self, before, call, answer):
        """This is answered, and nothing changes."""
        self.answered(before, call, answer)
        self.unchanged(before, call)


@functools.lru_cache(maxsize=None)
def nearest_shares(some, kilograms):
    """A recipe's whole kilograms: one by one to where the most is over."""
    whole = [kilograms * part // sum(some) for part in some]
    over = [kilograms * part % sum(some) for part in some]
    while sum(whole) < kilograms:
        place = over.index(max(over))
        whole[place] += 1
        over[place] = -1
    return whole


class Model:
    """The document's words, told as slowly and as plainly as can be: a kilogram is one entry of a list."""

    def __init__(self):
        self.begun = False

    def call(self, name, *given):
        if name == "begin":
            self.begun = True
            self.minute, self.materials = 0, 0
            self.lots, self.recipes, self.batches = [], [], []
            self.bought, self.used, self.scrapped = 0, 0, 0
            return [0]
        if not self.begun:
            return [-11]
        return getattr(self, "on_" + name)(*given)

    def first(self, *refusals):
        """The first refusal that is due, or None; each is a question that's asked only in its turn."""
        for number, due in refusals:
            if due():
                return [number]
        return None

    def no_material(self, m):
        return (-2, lambda: m not in range(self.materials))

    def no_lot(self, number):
        return (-2, lambda: number not in range(len(self.lots)))

    def no_recipe(self, r):
        return (-2, lambda: r not in range(len(self.recipes)))

    def no_batch(self, b):
        return (-2, lambda: b not in range(len(self.batches)))

    def shares(self, recipe, kilograms):
        return list(nearest_shares(self.recipes[recipe][3], kilograms))

    def pile(self):
        pile = [0] * 8
        for material, bought, left in self.lots:
            pile[material] += len(left)
        return pile

    def short(self, recipe, kilograms):
        return any(has < wants for has, wants in zip(self.pile(), self.shares(recipe, kilograms)))

    def take(self, recipe, kilograms):
        """The lot of each kilogram that is taken, one after another."""
        taken = []
        for material, wants in enumerate(self.shares(recipe, kilograms)):
            for one in range(wants):
                number = min(n for n, (of, bought, left) in enumerate(self.lots) if of == material and left)
                self.lots[number][2].pop()
                taken.append(number)
        return taken

    def phase(self, number):
        batch = self.batches[number]
        rest, good = self.recipes[batch["recipe"]][:2]
        gone = self.minute - batch["mixed"]
        return 0 if gone < rest else 2 if gone > good else 1

    def with_some(self, phase):
        return [b for b, batch in enumerate(self.batches) if batch["left"] and self.phase(b) == phase]

    def of_recipe(self, r, batches):
        return [b for b in batches if self.batches[b]["recipe"] == r]

    def left_in(self, batches):
        return sum(len(self.batches[b]["left"]) for b in batches)

    def remove(self, number, kilograms):
        for one in range(kilograms):
            self.batches[number]["left"].pop()

    def add_batch(self, recipe, kilograms, lots):
        batch = {"recipe": recipe, "left": [1] * kilograms, "mixed": self.minute, "lots": sorted(set(lots))}
        self.batches.append(batch)
        return [len(self.batches) - 1]

    def on_material(self):
        if self.materials == 8:
            return [-28]
        self.materials += 1
        return [self.materials - 1]

    def on_buy(self, m, n):
        refused = self.first(self.no_material(m), (-22, lambda: n not in range(1, 10001)),
                             (-28, lambda: len(self.lots) == 40))
        if refused:
            return refused
        self.lots.append((m, n, [1] * n))
        self.bought += n
        return [len(self.lots) - 1]

    def on_recipe(self, rest, good, share, some):
        right = (rest <= 10000 and rest <= good <= 100000 and share <= 100 and len(some) == 8
                 and all(part <= 1000 for part in some) and any(some) and not any(some[self.materials:]))
        if not right:
            return [-22]
        if len(self.recipes) == 6:
            return [-28]
        self.recipes.append((rest, good, share, tuple(some)))
        return [len(self.recipes) - 1]

    def on_mix(self, r, n):
        refused = self.first(self.no_recipe(r), (-22, lambda: n not in range(1, 1001)),
                             (-28, lambda: len(self.batches) == 40), (-12, lambda: self.short(r, n)))
        return refused or self.add_batch(r, n, self.take(r, n))

    def on_rework(self, r, n, b, k):
        refused = self.first(
            self.no_recipe(r), self.no_batch(b),
            (-22, lambda: n not in range(1, 1001) or k not in range(1, n + 1)),
            (-16, lambda: self.batches[b]["recipe"] != r),
            (-6, lambda: len(self.batches[b]["left"]) < k),
            (-75, lambda: k > Fraction(self.recipes[r][2] * n, 100)),
            (-28, lambda: len(self.batches) == 40),
            (-12, lambda: self.short(r, n - k)))
        if refused:
            return refused
        self.remove(b, k)
        return self.add_batch(r, n, self.take(r, n - k) + self.batches[b]["lots"])

    def on_use(self, b, n):
        refused = self.first(
            self.no_batch(b), (-22, lambda: n == 0), (-6, lambda: len(self.batches[b]["left"]) < n),
            (-13, lambda: self.phase(b) == 0), (-14, lambda: self.phase(b) == 2))
        if refused:
            return refused
        self.remove(b, n)
        self.used += n
        return [len(self.batches[b]["left"])]

    def on_draw(self, r, n):
        ripe = self.of_recipe(r, self.with_some(1))
        refused = self.first(self.no_recipe(r), (-22, lambda: n == 0), (-12, lambda: self.left_in(ripe) < n))
        if refused:
            return refused
        drawn = {}
        for one in range(n):
            number = min(b for b in ripe if self.batches[b]["left"])
            self.remove(number, 1)
            drawn[number] = drawn.get(number, 0) + 1
        self.used += n
        return [len(drawn)] + [number for pair in sorted(drawn.items()) for number in pair]

    def on_scrap(self, b):
        refused = self.first(self.no_batch(b), (-6, lambda: not self.batches[b]["left"]),
                             (-16, lambda: self.phase(b) != 2))
        if refused:
            return refused
        had = len(self.batches[b]["left"])
        self.remove(b, had)
        self.scrapped += had
        return [had]

    def on_minutes(self, n):
        if n not in range(1, 10001):
            return [-22]
        self.minute += n
        return [self.minute]

    def on_needs(self, r, n):
        return self.first(self.no_recipe(r), (-22, lambda: n > 1000)) or [n] + self.shares(r, n)

    def on_most(self, r):
        # More than there is of all materials together can't be mixed; all up to there is tried.
        return self.first(self.no_recipe(r)) or [
            max(n for n in range(min(1000, sum(self.pile())) + 1) if not self.short(r, n))]

    def on_ripe(self, r):
        ripe = self.of_recipe(r, self.with_some(1))
        return self.first(self.no_recipe(r)) or [self.left_in(ripe)] + ripe

    def on_next(self, r):
        resting = self.of_recipe(r, self.with_some(0))
        refused = self.first(self.no_recipe(r), (-6, lambda: not resting))
        if refused:
            return refused
        return [min(self.recipes[r][0] - (self.minute - self.batches[b]["mixed"]) for b in resting)]

    def on_old(self):
        old = self.with_some(2)
        return [len(old)] + old

    def on_lots(self, b):
        return self.first(self.no_batch(b)) or [len(self.batches[b]["lots"])] + self.batches[b]["lots"]

    def on_has(self, number):
        having = [b for b, batch in enumerate(self.batches) if number in batch["lots"]]
        return self.first(self.no_lot(number)) or [len(having)] + having

    def on_stock(self, m):
        some = [number for number, (of, bought, left) in enumerate(self.lots) if of == m and left]
        return self.first(self.no_material(m)) or [self.pile()[m]] + some

    def on_look(self, b):
        refused = self.first(self.no_batch(b))
        if refused:
            return refused
        batch = self.batches[b]
        return [batch["recipe"], len(batch["left"]), batch["mixed"], self.phase(b)]

    def on_lot(self, number):
        refused = self.first(self.no_lot(number))
        if refused:
            return refused
        material, bought, left = self.lots[number]
        return [material, bought, len(left)]

    def on_sums(self):
        return [0, self.bought, sum(self.pile()), self.left_in(range(len(self.batches))), self.used, self.scrapped]

    def on_state(self):
        return [self.minute, self.materials, len(self.lots), len(self.recipes), len(self.batches)]


class Caller:
    """Writes calls that mostly do what they're asked, by a model of what there is, and now and then do not."""

    def __init__(self, seed):
        self.source = random.Random(seed)
        self.model = Model()
        self.calls = []

    def put(self, *call):
        self.calls.append(call)
        if call[0] not in QUESTIONS:
            self.model.call(*call)

    def pick(self, *some):
        return self.source.choice(some)

    def seldom(self, share=0.08):
        return self.source.random() < share

    def one_of(self, count):
        """A number of those there are, the next one or one far out."""
        if count == 0 or self.seldom():
            return self.pick(count, count + 1, GREATEST)
        return self.source.randrange(count)

    def a_material(self):
        return self.one_of(self.model.materials)

    def a_lot(self):
        return self.one_of(len(self.model.lots))

    def a_recipe(self):
        return self.one_of(len(self.model.recipes))

    def a_batch(self):
        return self.one_of(len(self.model.batches))

    def kilograms(self):
        if self.seldom(0.15):
            return self.pick(0, 1, 1000, 1001, GREATEST)
        return self.pick(1, 2, 3, 10, self.source.randint(1, 60), self.source.randint(1, 60))

    def parts(self):
        if self.seldom():
            return [self.pick(0, 1, 1000, 1001, GREATEST) for place in range(self.source.randint(0, 10))]
        some = [self.pick(0, 1, 1, 2, 3, 7, 100, 999) for place in range(self.model.materials)]
        return (some + [0] * 8)[:8]

    def recipe(self):
        rest = self.pick(10000, 10001) if self.seldom() else self.pick(0, 0, 1, 3, 5)
        good = self.pick(rest, rest + 1, rest + 4, rest + 10, rest + 20)
        if self.seldom():
            good = self.pick(100000, 100001, max(rest - 1, 0), GREATEST)
        self.put("recipe", rest, good, self.pick(0, 10, 33, 50, 100, 100, 101), self.parts())

    def rework(self):
        batch = self.a_batch()
        recipe = self.a_recipe()
        if batch < len(self.model.batches) and not self.seldom():
            recipe = self.model.batches[batch]["recipe"]
        kilograms = self.kilograms()
        self.put("rework", recipe, kilograms, batch, self.pick(0, 1, 1, 2, 5, kilograms // 3, kilograms, kilograms + 1))

    def ask_something(self, name):
        if name in ("old", "sums", "state"):
            self.put(name)
        elif name == "needs":
            self.put(name, self.a_recipe(), self.kilograms())
        elif name in ("lots", "look"):
            self.put(name, self.a_batch())
        elif name in ("has", "lot"):
            self.put(name, self.a_lot())
        else:
            self.put(name, self.a_material() if name == "stock" else self.a_recipe())

    def change_something(self):
        name = self.pick("buy", "buy", "mix", "mix", "rework", "use", "draw", "scrap", "minutes", "minutes",
                         "material" if self.seldom(0.3) else "recipe")
        if name == "recipe":
            self.recipe()
        elif name == "rework":
            self.rework()
        elif name == "material":
            self.put("material")
        elif name == "buy":
            amount = self.pick(0, 1, 10000, 10001) if self.seldom() else self.pick(1, 5, 20, 40, 100)
            self.put("buy", self.a_material(), amount)
        elif name == "use":
            self.put("use", self.a_batch(), self.kilograms())
        elif name == "scrap":
            self.put("scrap", self.a_batch())
        elif name == "minutes":
            self.put("minutes", self.pick(0, 10000, 10001) if self.seldom(0.04) else self.pick(1, 1, 2, 3))
        else:
            self.put(name, self.a_recipe(), self.kilograms())


@functools.lru_cache(maxsize=None)
def written(seed, count, asking):
    """So many calls, such a share of them questions; some stand before the begin, and in every third list more
    begins follow."""
    caller = Caller(seed)
    before = [("material",), ("buy", 0, 5), ("recipe", 0, 0, 0, parts(1)), ("mix", 0, 1), ("needs", 0, 1), ("sums",)]
    for call in before[:caller.pick(0, 0, 6)]:
        caller.put(*call)
    while len(caller.calls) < count:
        if not caller.model.begun or (seed % 3 == 0 and caller.seldom(0.01)):
            for call in begun(caller.source.randint(1, 8)):
                caller.put(*call)
        elif caller.seldom(asking):
            caller.ask_something(caller.pick(*QUESTIONS))
        else:
            caller.change_something()
    return tuple(caller.calls[:count])


def some_calls(seed, count=MOST_CALLS, asking=0.3):
    return list(written(seed, count, asking))
