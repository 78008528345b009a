"""Long lists of all 22 sorts of calls, held against a plain model; and the form of the lists."""

import unittest

from tests.helper import GREATEST, MOST_CALLS, NAMES, QUESTIONS, Model, ask, begun, line, parts, some_calls
from tyremixes.mixer import answers

SEEDS = 120

# What each call may answer below 0 once there is a begin.
REFUSALS = {
    "material": {-28}, "buy": {-2, -22, -28}, "recipe": {-22, -28}, "mix": {-2, -22, -28, -12},
    "rework": {-2, -22, -16, -6, -75, -28, -12}, "use": {-2, -22, -6, -13, -14}, "draw": {-2, -22, -12},
    "scrap": {-2, -6, -16}, "minutes": {-22}, "needs": {-2, -22}, "most": {-2}, "ripe": {-2}, "next": {-2, -6},
    "lots": {-2}, "has": {-2}, "stock": {-2}, "look": {-2}, "lot": {-2}, "old": set(), "sums": set(), "state": set(),
}


def list_of(seed):
    """As a rule 400 calls, in every fourth list fewer."""
    return some_calls(seed, 60 if seed % 4 == 3 else MOST_CALLS, asking=(0.2, 0.5)[seed % 2])


class ManyCalls(unittest.TestCase):
    def test_the_lists_answer_as_the_model_does(self):
        seen = {name: set() for name in REFUSALS}
        done = set()
        for seed in range(SEEDS):
            calls = list_of(seed)
            model = Model()
            for place, (call, told) in enumerate(zip(calls, ask(calls), strict=True)):
                self.assertEqual(told, model.call(*call), (seed, place, call))
                if told[0] >= 0:
                    done.add(call[0])
                elif told[0] != -11:
                    seen[call[0]].add(told[0])
        self.assertEqual(seen, REFUSALS)
        self.assertEqual(done, set(NAMES))

    def test_the_lists_are_up_to_400_calls_and_8000_numbers(self):
        lengths = [len(list_of(seed)) for seed in range(SEEDS)]
        self.assertEqual(max(lengths), MOST_CALLS)
        self.assertLess(min(lengths), MOST_CALLS)
        self.assertLess(max(len(line(list_of(seed))) for seed in range(SEEDS)), 8001)

    def test_a_list_is_left_as_it_was_and_answers_the_same_again(self):
        for seed in range(40):
            numbers = line(list_of(seed))
            kept = list(numbers)
            once = answers(numbers)
            self.assertEqual(numbers, kept)
            self.assertEqual(answers(line(list_of(seed + 1))), answers(line(list_of(seed + 1))))
            self.assertEqual(answers(numbers), once)
            self.assertEqual(numbers, kept)

    def test_what_is_given_back_is_the_callers_own(self):
        numbers = line(list_of(1))
        first = answers(numbers)
        wanted = list(first)
        first.clear()
        self.assertEqual(answers(numbers), wanted)

    def test_all_that_is_answered_is_whole_numbers(self):
        for seed in range(40):
            told = answers(line(list_of(seed)))
            self.assertIs(type(told), list)
            self.assertEqual({type(number) for number in told}, {int})

    def test_a_list_may_not_be_changed_even_for_a_while(self):
        class Fixed(list):
            def refuse(self, *given):
                raise AssertionError("the list is changed")

            append = extend = insert = pop = remove = clear = sort = reverse = refuse
            __setitem__ = __delitem__ = __iadd__ = __imul__ = refuse

        for seed in range(5):
            numbers = line(list_of(seed))
            self.assertEqual(answers(Fixed(numbers)), answers(numbers))

    def test_how_many_numbers_each_call_answers(self):
        """A refusal is one number; else there are as many as the interface tells."""
        counts = {"needs": 9, "look": 4, "lot": 3, "sums": 6, "state": 5}
        for seed in range(40):
            calls = list_of(seed)
            for call, told in zip(calls, ask(calls), strict=True):
                if told[0] < 0:
                    self.assertEqual(len(told), 1, call)
                elif call[0] in ("old", "lots", "has"):
                    self.assertEqual(len(told), 1 + told[0], call)
                elif call[0] == "draw":
                    self.assertEqual(len(told), 1 + 2 * told[0], call)
                elif call[0] not in ("ripe", "stock"):
                    self.assertEqual(len(told), counts.get(call[0], 1), call)

    def test_without_the_questions_the_rest_answers_the_same(self):
        for seed in range(40):
            calls = list_of(seed)
            kept = [(call, told) for call, told in zip(calls, ask(calls)) if call[0] not in QUESTIONS]
            self.assertEqual(ask([call for call, told in kept]), [told for call, told in kept])


class TheListsForm(unittest.TestCase):
    def test_calls_and_answers_number_by_number(self):
        calls = [0, 1, 1, 2, 0, 30, 2, 1, 20, 3, 2, 4, 50, 8, 2, 1, 0, 0, 0, 0, 0, 0, 10, 0, 10, 4, 0, 10, 7, 0, 1,
                 9, 2, 5, 0, 6, 0, 3, 6, 0, 2, 7, 0, 5, 9, 5, 8, 1]
        wanted = [1, 0, 1, 0, 1, 1, 1, 0, 1, 1, 1, 0, 9, 10, 7, 3, 0, 0, 0, 0, 0, 0, 1, 0, 1, -12,
                  1, 2, 1, 1, 1, 5, 3, 1, 0, 5, 1, 7, 1, 6]
        self.assertEqual(answers(calls), wanted)

    def test_questions_and_answers_number_by_number(self):
        """Two lots; 10 kilograms mixed in minute 0 are too old in minute 5, 6 mixed in minute 3 are ripe then."""
        before = [0, 1, 1, 2, 0, 30, 2, 1, 20, 3, 2, 4, 50, 8, 2, 1, 0, 0, 0, 0, 0, 0, 4, 0, 10, 9, 3, 4, 0, 6, 9, 2]
        told = [1, 0, 1, 0, 1, 1, 1, 0, 1, 1, 1, 0, 1, 0, 1, 3, 1, 1, 1, 5]
        asked = [11, 0, 12, 0, 13, 0, 14, 15, 0, 16, 1, 17, 0, 18, 1, 19, 1, 20, 21]
        wanted = [1, 29, 2, 6, 1, 1, -6, 2, 1, 0, 3, 2, 0, 1, 3, 2, 0, 1, 2, 19, 0, 4, 0, 6, 3, 1, 3, 1, 20, 15,
                  6, 0, 50, 34, 16, 0, 0, 5, 5, 2, 2, 1, 2]
        self.assertEqual(answers(before + asked), told + wanted)

    def test_one_call_alone(self):
        self.assertEqual(answers([0]), [1, 0])
        self.assertEqual(answers([1]), [1, -11])
        self.assertEqual(answers([21]), [1, -11])

    def test_rows_of_0_to_10_are_read_to_their_end(self):
        for count in range(11):
            self.assertEqual(answers([0, 3, 0, 0, 0, count] + [9] * count + [9, 4]), [1, 0, 1, -22, 1, 4])
            self.assertEqual(answers([3, 0, 0, 0, count] + [0] * count + [1]), [1, -11, 1, -11])

    def test_400_recipes_of_ten_parts(self):
        calls = [("begin",)] + [("recipe", GREATEST, GREATEST, GREATEST, [GREATEST] * 10)] * 399
        self.assertEqual(ask(calls), [[0]] + [[-22]] * 399)

    def test_400_calls_of_one_sort(self):
        self.assertEqual(ask([("begin",)] * 400), [[0]] * 400)
        stock = begun(8) + [("recipe", 0, 0, 0, [1] * 8)]
        room = MOST_CALLS - len(stock)
        self.assertEqual(ask(stock + [("needs", 0, 9)] * room)[len(stock):], [[9] + [2] + [1] * 7] * room)
        self.assertEqual(ask(stock + [("most", 0)] * room)[len(stock):], [[0]] * room)

    def test_400_times_the_longest_answers(self):
        before = begun(1) + [("recipe", 0, 0, 100, parts(1))] + [("buy", 0, 1)] * 40 + [("mix", 0, 40)]
        before += [("rework", 0, 40, number, 40) for number in range(39)]
        room = MOST_CALLS - len(before)
        each = [40] + list(range(40))
        self.assertEqual(ask(before + [("lots", 39)] * room)[len(before):], [each] * room)
        self.assertEqual(ask(before + [("has", 39)] * room)[len(before):], [each] * room)

    def test_arguments_of_the_greatest_number(self):
        most = GREATEST
        stock = begun(1) + [("buy", 0, 10), ("recipe", 0, 0, 100, parts(1)), ("mix", 0, 10)]
        calls = [("buy", most, most), ("recipe", most, most, most, [most] * 8), ("mix", most, most),
                 ("rework", most, most, most, most), ("use", most, most), ("draw", most, most), ("scrap", most),
                 ("minutes", most), ("needs", most, most), ("buy", 0, most), ("mix", 0, most),
                 ("rework", 0, most, 0, most), ("use", 0, most), ("draw", 0, most), ("needs", 0, most)]
        wanted = [-2, -22, -2, -2, -2, -2, -2, -22, -2, -22, -22, -22, -6, -12, -22]
        calls += [(name, most) for name in ("most", "ripe", "next", "lots", "has", "stock", "look", "lot")]
        wanted += [-2] * 8
        self.assertEqual(ask(stock + calls)[len(stock):], [[number] for number in wanted])


if __name__ == "__main__":
    unittest.main()
