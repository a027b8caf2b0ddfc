"""The requirements 1 to 7, over many requests that are drawn with fixed seeds."""

import random
import unittest
from fractions import Fraction

from helper import Request, random_calls, replies, with_policies


CHANGING = ("reset", "add_policy", "add_rational_policy", "remove_policy", "record_test", "record_production",
            "undo_record", "permit", "revoke_permit", "create_setting", "set_test_weights",
            "set_production_weights", "set_prior", "set_stakes", "set_prices", "merge_signals")


def candidates_in(request):
    return request.peek(("candidates",))[0][1:]


def policies_in(request):
    """The cheat sets of all policies, in their order."""
    shown = request.peek(*[("get_policy", index) for index in range(6)])
    return [answer[0] for answer in shown if len(answer) == 2]


def beliefs_in(request):
    asked = [("belief", index) for index in range(len(policies_in(request)))]
    return [Fraction(answer[1], answer[2]) for answer in request.peek(*asked)]


def tests_in(request):
    """The log entries that are tests, as tuples of what the agent did and the signal."""
    shown = request.peek(("get_log",))[0][1:]
    entries = [(shown[place], shown[place + 1]) for place in range(0, len(shown), 2)]
    return [entry for entry in entries if entry[0] != 2]


class Requirements(unittest.TestCase):
    def check_indistinguishable_policies(self, request):
        found = candidates_in(request)
        count = len(policies_in(request))
        pairs = [(first, second) for first in range(count) for second in range(first)]
        told = request.peek(*[("are_distinguishable", first, second) for first, second in pairs])
        for pair, answer in zip(pairs, told):
            if answer == [0]:
                self.assertEqual(pair[0] in found, pair[1] in found, request.calls)

    def check_beliefs(self, request):
        if candidates_in(request):
            self.assertEqual(sum(beliefs_in(request)), 1, request.calls)
            harm, worst = request.peek(("next_harm_probability",), ("worst_candidate",))
            self.assertLessEqual(Fraction(harm[1], harm[2]), Fraction(worst[1], worst[2]), request.calls)

    def check_consistent_candidates(self, request):
        policies = policies_in(request)
        for index in candidates_in(request):
            for cheated, signal in tests_in(request):
                self.assertEqual(policies[index] >> signal & 1, cheated, request.calls)

    def check_detection(self, request):
        for index in range(len(policies_in(request))):
            asked = [("policy_detection_probability", index, tests) for tests in range(13)]
            found = [Fraction(answer[1], answer[2]) for answer in request.peek(*asked)]
            self.assertEqual(found, sorted(found), request.calls)
            if request.peek(("is_detectable", index)) == [[0]]:
                self.assertEqual(found, [0] * 13, request.calls)
            else:
                self.assertEqual(found, sorted(set(found)) if found[1] < 1 else [0] + [1] * 12)

    def check_log(self, request):
        if request.peek(("get_log",))[0][0] > 0:
            self.assertGreater(len(candidates_in(request)), 0, request.calls)

    def test_every_state_that_requests_reach(self):
        with_log = 0
        for seed in range(60):
            request = Request()
            for call in random_calls(random.Random(seed), 40):
                request.ask(*call)
                if call[0] in CHANGING:
                    self.check_indistinguishable_policies(request)
                    self.check_beliefs(request)
                    self.check_consistent_candidates(request)
                    self.check_log(request)
                    with_log += len(tests_in(request)) > 0
            self.check_detection(request)
        self.assertGreater(with_log, 300)

    def test_only_the_calls_that_change_something_do(self):
        looks = 0
        for seed in range(300, 340):
            request = Request()
            for call in random_calls(random.Random(seed), 44):
                before = request.seen()
                answer = request.ask(*call)
                if answer[0] < 0 or call[0] not in CHANGING:
                    looks += 1
                    self.assertEqual(request.seen(), before, request.calls)
        self.assertGreater(looks, 500)

    def test_production_was_permitted(self):
        succeeded = 0
        for seed in range(60, 160):
            request = Request()
            for call in random_calls(random.Random(seed), 40):
                if call[0] == "record_production":
                    status, harm = request.peek(("permit_status",), ("next_harm_probability",))
                    before = beliefs_in(request)
                    if request.ask(*call)[0] >= 0:
                        succeeded += 1
                        self.assertEqual(status[0], 1, request.calls)
                        self.assertLessEqual(Fraction(harm[1], harm[2]), Fraction(status[1], status[2]))
                    self.assertEqual(beliefs_in(request), before, request.calls)
                else:
                    request.ask(*call)
        self.assertGreater(succeeded, 50)

    def test_a_test_never_adds_candidates(self):
        succeeded = 0
        for seed in range(160, 260):
            request = Request()
            for call in random_calls(random.Random(seed), 40):
                before = candidates_in(request) if call[0] == "record_test" else []
                answer = request.ask(*call)
                if call[0] == "record_test":
                    after = candidates_in(request)
                    self.assertEqual([index for index in after if index not in before], [])
                    if answer[0] >= 0:
                        succeeded += 1
                        self.assertEqual(answer, [len(after)])
        self.assertGreater(succeeded, 50)

    def test_twins_stay_together(self):
        request = with_policies(3, (0, 1), (2, 1), (1, 1), (3, 1))
        request.ask("set_test_weights", [1, 0, 1])
        self.assertEqual(request.peek(("record_test", 0, 0), ("candidates",)), [[2], [2, 0, 1]])
        self.assertEqual(request.peek(("record_test", 0, 1), ("candidates",)), [[2], [2, 2, 3]])
        self.assertEqual(request.peek(("record_test", 1, 0), ("record_test", 1, 1)), [[-22], [-22]])

    def test_requests_are_answered_alike_each_time(self):
        for seed in range(20):
            calls = random_calls(random.Random(seed), 70)
            self.assertEqual(replies(calls), replies(calls))


if __name__ == "__main__":
    unittest.main()
