"""The head of the promises, and begin: every call before one, straight behind one, behind a second one."""

import unittest

from tests.helper import GREATEST, NAMES, CallTest, ask, begun, parts, questions, told_of

EACH = [
    ("material",), ("buy", 0, 5), ("recipe", 0, 0, 0, parts(1)), ("mix", 0, 1), ("rework", 0, 1, 0, 1),
    ("use", 0, 1), ("draw", 0, 1), ("scrap", 0), ("minutes", 1), ("needs", 0, 1), ("most", 0), ("ripe", 0),
    ("next", 0), ("old",), ("lots", 0), ("has", 0), ("stock", 0), ("look", 0), ("lot", 0), ("sums",), ("state",),
]

# What each of them answers where there is nothing yet.
OF_NOTHING = [
    [0], [-2], [-22], [-2], [-2], [-2], [-2], [-2], [1], [-2], [-2], [-2], [-2], [0], [-2], [-2], [-2], [-2], [-2],
    [0, 0, 0, 0, 0, 0], [0, 0, 0, 0, 0],
]

# In minute 6: something bought, left, mixed, worked in again, used and scrapped; batch 2 rests.
FULL = begun(2) + [
    ("buy", 0, 100), ("buy", 1, 100), ("recipe", 0, 5, 100, parts(1, 1)), ("recipe", 3, 5, 0, parts(1)),
    ("mix", 0, 10), ("rework", 0, 4, 0, 2), ("use", 0, 1), ("draw", 0, 1), ("minutes", 6), ("mix", 1, 5), ("scrap", 0),
]


class BeforeBegin(CallTest):
    def test_each_call_is_here(self):
        self.assertEqual([call[0] for call in EACH], list(NAMES[1:]))

    def test_each_call_answers_not_begun(self):
        for call in EACH:
            self.assertEqual(ask([call]), [[-11]], call)

    def test_all_behind_one_another(self):
        self.assertEqual(ask(EACH + EACH), [[-11]] * 42)

    def test_not_begun_goes_ahead_of_every_other_refusal(self):
        wrong = [
            ("buy", 9, 0), ("buy", GREATEST, GREATEST), ("recipe", GREATEST, 0, 101, []),
            ("recipe", 0, 0, 0, [1] * 10), ("mix", 7, 0), ("rework", 7, 0, 99, 0), ("use", 99, 0),
            ("draw", 9, 0), ("scrap", 99), ("minutes", 0), ("minutes", GREATEST), ("needs", 9, 1001),
        ]
        wrong += [(name, GREATEST) for name in ("most", "ripe", "next", "lots", "has", "stock", "look", "lot")]
        self.assertEqual(ask(wrong), [[-11]] * len(wrong))

    def test_what_was_refused_then_is_not_there_behind_the_begin(self):
        calls = [("material",), ("minutes", 5), ("begin",), ("buy", 0, 1), ("minutes", 1), ("material",)]
        self.assertEqual(ask(calls), [[-11], [-11], [0], [-2], [1], [0]])


class Begin(CallTest):
    def test_answers_0(self):
        self.assertEqual(ask([("begin",)]), [[0]])

    def test_each_call_straight_behind_it(self):
        for call, answer in zip(EACH, OF_NOTHING, strict=True):
            self.answered([("begin",)], call, answer)
            if call[0] not in ("material", "minutes"):
                self.unchanged([("begin",)], call)

    def test_each_call_behind_a_second_one(self):
        for before in (FULL, begun(8), [("begin",)], EACH):
            for call, answer in zip(EACH, OF_NOTHING, strict=True):
                self.answered(before + [("begin",)], call, answer)

    def test_a_second_begin_answers_0_and_leaves_nothing(self):
        self.answered(FULL, ("begin",), [0])
        self.answered(FULL, ("state",), [6, 2, 2, 2, 3])
        self.answered(FULL, ("sums",), [0, 200, 183, 9, 2, 6])
        self.answered(FULL + [("begin",)], ("state",), [0, 0, 0, 0, 0])
        self.answered(FULL + [("begin",)], ("sums",), [0, 0, 0, 0, 0, 0])
        asked = questions(FULL)
        self.assertEqual(told_of(FULL + [("begin",)], asked), told_of([("begin",)], asked))

    def test_the_same_calls_answer_the_same_behind_each_begin(self):
        both = FULL + questions(FULL)
        once = ask(both)
        self.assertEqual(ask(both + both + both), once + once + once)

    def test_begin_behind_a_begin_at_once(self):
        self.assertEqual(ask([("begin",), ("begin",), ("material",)]), [[0], [0], [0]])


if __name__ == "__main__":
    unittest.main()
