"""The head of the promises, and begin."""

import unittest

from tests.helper import GREATEST, CallTest, ask, begun, parts, snapshot, works_after
from tyremixes.records import Works

EACH = [
    ("material",), ("buy", 0, 5), ("recipe", 0, 0, 0, parts(1)), ("mix", 0, 1), ("rework", 0, 1, 0, 1),
    ("use", 0, 1), ("draw", 0, 1), ("scrap", 0), ("minutes", 1), ("needs", 0, 1),
]

LATER = [
    ("most", 0), ("ripe", 0), ("next", 0), ("old",), ("lots", 0), ("has", 0), ("stock", 0), ("look", 0),
    ("lot", 0), ("sums",), ("state",),
]

FULL = begun(2) + [
    ("buy", 0, 100), ("buy", 1, 100), ("recipe", 0, 5, 100, parts(1, 1)), ("mix", 0, 10),
    ("rework", 0, 4, 0, 2), ("use", 0, 1), ("draw", 0, 1), ("minutes", 6), ("scrap", 0),
]


class BeforeBegin(CallTest):
    def test_each_call_answers_not_begun(self):
        for call in EACH + LATER:
            self.assertEqual(ask([call]), [[-11]], call)

    def test_all_behind_one_another(self):
        self.assertEqual(ask(EACH + LATER + EACH), [[-11]] * 31)

    def test_not_begun_goes_ahead_of_every_other_refusal(self):
        wrong = [
            ("buy", 9, 0), ("buy", GREATEST, GREATEST), ("recipe", GREATEST, 0, 101, []),
            ("recipe", 0, 0, 0, [1] * 10), ("mix", 7, 0), ("rework", 7, 0, 99, 0), ("use", 99, 0),
            ("draw", 9, 0), ("scrap", 99), ("minutes", 0), ("minutes", GREATEST), ("needs", 9, 1001),
        ]
        self.assertEqual(ask(wrong), [[-11]] * len(wrong))

    def test_what_was_refused_then_is_not_there_behind_the_begin(self):
        calls = [("material",), ("minutes", 5), ("begin",), ("buy", 0, 1), ("minutes", 1), ("material",)]
        self.assertEqual(ask(calls), [[-11], [-11], [0], [-2], [1], [0]])


class Begin(CallTest):
    def test_answers_0(self):
        self.assertEqual(ask([("begin",)]), [[0]])

    def test_a_second_begin_answers_0_and_leaves_nothing(self):
        self.answered(FULL, ("begin",), [0])
        self.assertEqual(snapshot(works_after(FULL + [("begin",)])), snapshot(Works()))
        again = FULL + [("begin",)]
        self.refused(again, ("buy", 0, 5), -2)
        self.refused(again, ("mix", 0, 1), -2)
        self.refused(again, ("needs", 0, 1), -2)
        self.refused(again, ("draw", 0, 1), -2)
        self.refused(again, ("use", 0, 1), -2)
        self.refused(again, ("scrap", 0), -2)
        self.answered(again, ("minutes", 3), [3])
        self.answered(again, ("material",), [0])

    def test_the_same_calls_answer_the_same_behind_each_begin(self):
        once = ask(FULL)
        self.assertEqual(ask(FULL + FULL + FULL), once + once + once)

    def test_begin_behind_a_begin_at_once(self):
        self.assertEqual(ask([("begin",), ("begin",), ("material",)]), [[0], [0], [0]])


if __name__ == "__main__":
    unittest.main()
