"""Point 5: sums, state; and that none of the calls that tell something changes anything."""

import unittest

from tests.helper import MOST_CALLS, QUESTIONS, CallTest, ask, begun, later, mixed, parts, questions, told_of

SUMS, STATE = ("sums",), ("state",)


def busy():
    """Two recipes, lots used up and begun, batches at rest, ripe, too old and with nothing in them."""
    return begun(3) + [
        ("buy", 0, 20), ("buy", 1, 50), ("buy", 0, 90), ("recipe", 2, 6, 50, parts(1)),
        ("recipe", 0, 3, 100, parts(3, 2)), ("mix", 0, 10), ("mix", 1, 25), ("use", 1, 5), ("minutes", 4),
        ("mix", 0, 8), ("draw", 0, 10), ("rework", 1, 9, 1, 4), ("minutes", 2), ("mix", 0, 6), ("scrap", 1),
        ("rework", 0, 4, 2, 2), ("minutes", 2), ("mix", 0, 3),
    ]


class Sums(CallTest):
    def test_nothing(self):
        self.told([("begin",)], SUMS, [0, 0, 0, 0, 0, 0])
        self.told(begun(8), SUMS, [0, 0, 0, 0, 0, 0])

    def test_bought_and_mixed(self):
        self.told(begun(2) + [("buy", 0, 5), ("buy", 1, 10000), ("buy", 0, 7)], SUMS, [0, 10012, 10012, 0, 0, 0])
        self.told(mixed(10, 20), SUMS, [0, 10000, 9970, 30, 0, 0])

    def test_worked_in_again(self):
        self.told(mixed(10) + [("rework", 0, 8, 0, 3)], SUMS, [0, 10000, 9985, 15, 0, 0])
        self.told(mixed(10) + [("rework", 0, 8, 0, 8)], SUMS, [0, 10000, 9990, 10, 0, 0])

    def test_used(self):
        ripe = later(mixed(10, 20), 5)
        self.told(ripe + [("use", 0, 4)], SUMS, [0, 10000, 9970, 26, 4, 0])
        self.told(ripe + [("use", 0, 4), ("use", 1, 20), ("use", 0, 1)], SUMS, [0, 10000, 9970, 5, 25, 0])

    def test_drawn(self):
        ripe = later(mixed(10, 20), 5)
        self.told(ripe + [("draw", 0, 4)], SUMS, [0, 10000, 9970, 26, 4, 0])
        self.told(ripe + [("draw", 0, 4), ("draw", 0, 26), ("use", 0, 1)], SUMS, [0, 10000, 9970, 0, 30, 0])

    def test_scrapped(self):
        before = later(mixed(10, 20), 5) + [("use", 0, 3), ("minutes", 6)]
        self.told(before, SUMS, [0, 10000, 9970, 27, 3, 0])
        self.told(before + [("scrap", 0)], SUMS, [0, 10000, 9970, 20, 3, 7])
        self.told(before + [("scrap", 1), ("scrap", 0)], SUMS, [0, 10000, 9970, 0, 3, 27])

    def test_what_is_refused_changes_none_of_them(self):
        before = later(mixed(10), 5) + [("use", 0, 1)]
        wrong = [("buy", 1, 5), ("buy", 0, 0), ("buy", 0, 10001), ("mix", 2, 5), ("mix", 0, 0), ("mix", 0, 1001),
                 ("rework", 0, 5, 0, 0), ("rework", 0, 50, 0, 10), ("use", 0, 0), ("use", 0, 10), ("use", 1, 1),
                 ("draw", 0, 0), ("draw", 0, 10), ("draw", 1, 1), ("scrap", 0), ("scrap", 1), ("minutes", 0)]
        for call in wrong:
            told = ask(before + [SUMS, STATE, call, SUMS, STATE])[len(before):]
            self.assertLess(told[2][0], 0, call)
            self.assertEqual(told[:2], told[3:], call)

    def test_the_most_that_can_be_bought(self):
        self.told(begun(1) + [("buy", 0, 10000)] * 40, SUMS, [0, 400000, 400000, 0, 0, 0])

    def test_a_second_begin_brings_all_to_0(self):
        before = later(mixed(10, 20), 5) + [("use", 0, 3), ("minutes", 6), ("scrap", 1)]
        self.told(before + [("begin",)], SUMS, [0, 0, 0, 0, 0, 0])
        self.told(before + begun(1) + [("buy", 0, 7)], SUMS, [0, 7, 7, 0, 0, 0])


class State(CallTest):
    def test_nothing(self):
        self.told([("begin",)], STATE, [0, 0, 0, 0, 0])

    def test_each_by_itself(self):
        self.told([("begin",), ("minutes", 7)], STATE, [7, 0, 0, 0, 0])
        self.told(begun(3), STATE, [0, 3, 0, 0, 0])
        self.told(begun(1) + [("buy", 0, 1)] * 5, STATE, [0, 1, 5, 0, 0])
        self.told(begun(1) + [("recipe", 0, 0, 0, parts(1))] * 4, STATE, [0, 1, 0, 4, 0])
        self.told(later(mixed(1, 2, 3), 9), STATE, [9, 1, 1, 2, 3])

    def test_a_batch_that_is_worked_in_counts_too(self):
        self.told(mixed(10) + [("rework", 0, 10, 0, 10)], STATE, [0, 1, 1, 2, 2])

    def test_what_is_used_up_or_scrapped_counts_too(self):
        before = later(mixed(10, 20), 5) + [("use", 0, 10), ("minutes", 6), ("scrap", 1)]
        self.told(before, STATE, [11, 1, 1, 2, 2])
        spent = begun(1) + [("recipe", 0, 0, 0, parts(1)), ("buy", 0, 5), ("mix", 0, 5)]
        self.told(spent, STATE, [0, 1, 1, 1, 1])

    def test_as_many_as_there_may_be(self):
        before = begun(8) + [("recipe", 0, 0, 0, parts(1))] * 6 + [("buy", 0, 1)] * 40 + [("mix", 0, 1)] * 40
        self.told(before, STATE, [0, 8, 40, 6, 40])
        more = [("material",), ("recipe", 0, 0, 0, parts(1)), ("buy", 0, 1), ("mix", 0, 1)]
        self.assertEqual(ask(before + more)[-4:], [[-28]] * 4)
        self.told(before + more, STATE, [0, 8, 40, 6, 40])

    def test_the_last_minute_of_a_list(self):
        self.answered([("begin",)] + [("minutes", 10000)] * 398, STATE, [3980000, 0, 0, 0, 0])

    def test_a_second_begin_brings_all_to_0(self):
        self.told(later(mixed(1, 2), 9) + [("begin",)], STATE, [0, 0, 0, 0, 0])


class NothingChanges(CallTest):
    def test_every_question_leaves_all_others_as_they_were(self):
        before = busy()
        self.assertTrue(all(told[0] >= 0 for told in ask(before)))
        asked = questions(before)
        self.assertEqual({call[0] for call in asked}, set(QUESTIONS))
        told = told_of(before, asked)
        for call in asked:
            self.assertEqual(told_of(before + [call], asked), told, call)

    def test_asked_forth_and_back(self):
        before = busy()
        asked = questions(before)
        found = ask(before + asked + asked[::-1])[len(before):]
        self.assertLessEqual(len(before) + 2 * len(asked), MOST_CALLS)
        self.assertEqual(found[:len(asked)], found[len(asked):][::-1])

    def test_what_the_busy_one_tells(self):
        """In minute 8, reckoned by hand."""
        wanted = {
            ("most", 0): [63], ("most", 1): [96], ("ripe", 0): [16, 2, 4, 5], ("ripe", 1): [0], ("next", 0): [2],
            ("next", 1): [-6], ("old",): [1, 3], ("lots", 0): [1, 0], ("lots", 3): [3, 0, 1, 2], ("lots", 5): [1, 2],
            ("has", 0): [3, 0, 1, 3], ("has", 1): [2, 1, 3], ("has", 2): [6, 1, 2, 3, 4, 5, 6],
            ("stock", 0): [63, 2], ("stock", 1): [38, 1], ("stock", 2): [0], ("look", 1): [1, 0, 0, 2],
            ("look", 2): [0, 6, 4, 1], ("look", 3): [1, 9, 4, 2], ("look", 6): [0, 3, 8, 0], ("lot", 0): [0, 20, 0],
            ("lot", 1): [1, 50, 38], ("sums",): [0, 160, 101, 28, 15, 16], ("state",): [8, 3, 3, 2, 7],
        }
        self.assertEqual(told_of(busy(), list(wanted)), wanted)


if __name__ == "__main__":
    unittest.main()
