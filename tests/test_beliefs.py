"""candidates, belief, honest_belief, suspects, next_harm_probability and worst_candidate."""

import unittest

from helper import HUGE, assert_refused, started, with_policies


class Candidates(unittest.TestCase):
    def test_all_policies_while_nothing_is_recorded(self):
        self.assertEqual(started(2).ask("candidates"), [0])
        self.assertEqual(with_policies(2, (3, 1), (0, 1), (1, 1)).ask("candidates"), [3, 0, 1, 2])

    def test_each_kind_of_entry(self):
        request = with_policies(3, (7, 1), (0, 1), (1, 1), (2, 1), (3, 1))
        self.assertEqual(request.peek(("record_test", 0, 0), ("candidates",))[1], [2, 1, 3])
        self.assertEqual(request.peek(("record_test", 0, 1), ("candidates",))[1], [3, 0, 2, 4])
        self.assertEqual(request.peek(("permit", 1, 1), ("record_production", 0), ("candidates",))[2],
                         [5, 0, 1, 2, 3, 4])

    def test_every_entry_counts(self):
        request = with_policies(3, (7, 1), (0, 1), (1, 1), (2, 1), (3, 1))
        request.ask("record_test", 0, 1)
        request.ask("record_test", 2, 0)
        request.ask("record_test", 1, 1)
        self.assertEqual(request.ask("candidates"), [1, 4])


class Belief(unittest.TestCase):
    def test_the_share_of_the_weight(self):
        request = with_policies(2, (0, 2), (1, 3), (2, 5))
        self.assertEqual(request.peek(("belief", 0), ("belief", 1), ("belief", 2)),
                         [[0, 1, 5], [0, 3, 10], [0, 1, 2]])

    def test_only_candidates_are_believed_in(self):
        request = with_policies(2, (0, 2), (1, 4), (2, 6))
        request.ask("record_test", 0, 0)
        self.assertEqual(request.peek(("belief", 0), ("belief", 1), ("belief", 2)),
                         [[0, 1, 4], [0, 0, 1], [0, 3, 4]])

    def test_a_single_candidate(self):
        request = with_policies(2, (3, 98), (0, 1))
        request.ask("record_test", 1, 1)
        self.assertEqual(request.peek(("belief", 0), ("belief", 1)), [[0, 1, 1], [0, 0, 1]])

    def test_no_such_policy(self):
        assert_refused(self, started(2), -2, "belief", 0)
        request = with_policies(2, (0, 1), (1, 1))
        for index in (2, HUGE):
            assert_refused(self, request, -2, "belief", index)


class HonestBelief(unittest.TestCase):
    def test_the_policy_that_never_cheats(self):
        request = with_policies(2, (3, 3), (0, 6), (1, 1))
        self.assertEqual(request.ask("honest_belief"), [0, 3, 5])
        self.assertEqual(request.peek(("record_test", 1, 0), ("honest_belief",))[1], [0, 6, 7])

    def test_no_honest_policy(self):
        self.assertEqual(with_policies(2, (3, 3), (1, 1)).ask("honest_belief"), [0, 0, 1])

    def test_the_honest_policy_is_no_candidate(self):
        request = with_policies(2, (0, 9), (1, 1))
        request.ask("record_test", 0, 1)
        self.assertEqual(request.ask("honest_belief"), [0, 0, 1])

    def test_no_candidates(self):
        assert_refused(self, started(2), -33, "honest_belief")


class Suspects(unittest.TestCase):
    def test_the_candidates_that_cheat_at_the_signal(self):
        request = with_policies(3, (7, 1), (0, 1), (1, 1), (6, 1))
        self.assertEqual(request.peek(("suspects", 0), ("suspects", 1), ("suspects", 2)),
                         [[2, 0, 2], [2, 0, 3], [2, 0, 3]])
        request.ask("record_test", 0, 0)
        self.assertEqual(request.peek(("suspects", 0), ("suspects", 1), ("suspects", 2)),
                         [[0], [1, 3], [1, 3]])

    def test_a_signal_that_appears_nowhere(self):
        request = with_policies(2, (2, 1))
        request.ask("set_test_weights", [1, 0])
        request.ask("set_production_weights", [1, 0])
        self.assertEqual(request.ask("suspects", 1), [1, 0])

    def test_no_policies(self):
        self.assertEqual(started(2).ask("suspects", 1), [0])

    def test_no_such_signal(self):
        for signal in (2, HUGE):
            assert_refused(self, started(2), -2, "suspects", signal)
            assert_refused(self, with_policies(2, (3, 1)), -2, "suspects", signal)


class NextHarmProbability(unittest.TestCase):
    def test_belief_times_harm(self):
        request = with_policies(2, (0, 1), (1, 2), (3, 1))
        request.ask("set_test_weights", [9, 1])
        request.ask("set_production_weights", [1, 2])
        self.assertEqual(request.ask("next_harm_probability"), [0, 5, 12])
        request.ask("record_test", 1, 0)
        self.assertEqual(request.ask("next_harm_probability"), [0, 2, 9])

    def test_zero_and_one(self):
        self.assertEqual(with_policies(2, (0, 7)).ask("next_harm_probability"), [0, 0, 1])
        self.assertEqual(with_policies(2, (3, 7)).ask("next_harm_probability"), [0, 1, 1])
        request = with_policies(2, (1, 7))
        request.ask("set_production_weights", [0, 5])
        self.assertEqual(request.ask("next_harm_probability"), [0, 0, 1])

    def test_new_production_weights_count_at_once(self):
        request = with_policies(2, (0, 1), (1, 1))
        request.ask("record_test", 1, 0)
        self.assertEqual(request.ask("next_harm_probability"), [0, 1, 4])
        request.ask("set_production_weights", [99, 1])
        self.assertEqual(request.ask("next_harm_probability"), [0, 99, 200])

    def test_no_candidates(self):
        assert_refused(self, started(2), -33, "next_harm_probability")


class WorstCandidate(unittest.TestCase):
    def test_the_largest_harm(self):
        request = with_policies(3, (1, 9), (6, 1), (2, 5))
        request.ask("set_production_weights", [1, 2, 3])
        self.assertEqual(request.ask("worst_candidate"), [1, 5, 6])
        request.ask("record_test", 2, 0)
        self.assertEqual(request.ask("worst_candidate"), [2, 1, 3])
        request.ask("set_production_weights", [4, 2, 3])
        self.assertEqual(request.ask("worst_candidate"), [0, 4, 9])

    def test_ties_go_to_the_smallest_index(self):
        self.assertEqual(with_policies(3, (0, 1), (4, 1), (1, 9), (2, 1)).ask("worst_candidate"), [1, 1, 3])
        self.assertEqual(with_policies(3, (0, 4)).ask("worst_candidate"), [0, 0, 1])
        request = with_policies(2, (1, 1), (0, 1))
        request.ask("set_production_weights", [0, 1])
        self.assertEqual(request.ask("worst_candidate"), [0, 0, 1])
        # Index 0 is no candidate: the smallest index is one of the candidates.
        request = with_policies(3, (7, 1), (1, 1), (2, 1))
        request.ask("record_test", 2, 0)
        self.assertEqual(request.ask("worst_candidate"), [1, 1, 3])

    def test_harm_is_measured_in_production_and_not_in_tests(self):
        request = with_policies(2, (1, 1), (2, 1))
        request.ask("set_test_weights", [9, 1])
        request.ask("set_production_weights", [1, 3])
        self.assertEqual(request.ask("worst_candidate"), [1, 3, 4])

    def test_no_candidates(self):
        assert_refused(self, started(2), -33, "worst_candidate")


if __name__ == "__main__":
    unittest.main()
