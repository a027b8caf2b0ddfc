"""add_policy, add_rational_policy, remove_policy and get_policy."""

import unittest

from helper import HUGE, assert_refused, started, with_policies

SIX = [(0, 1), (1, 2), (2, 3), (3, 4), (4, 5), (5, 6)]


class AddPolicy(unittest.TestCase):
    def test_the_index_counts_up(self):
        request = started(3)
        for index, policy in enumerate(SIX):
            self.assertEqual(request.ask("add_policy", policy[0], policy[1]), [index])
        self.assertEqual(request.ask("candidates"), [6, 0, 1, 2, 3, 4, 5])

    def test_the_limits_of_cheat_set_and_weight(self):
        for signal_count in range(1, 6):
            largest = 2 ** signal_count - 1
            self.assertEqual(started(signal_count).ask("add_policy", largest, 99), [0])
            self.assertEqual(started(signal_count).ask("add_policy", 0, 1), [0])
            for cheat_set, weight in ((largest + 1, 1), (HUGE, 1), (0, 0), (0, 100), (largest, HUGE)):
                assert_refused(self, started(signal_count), -22, "add_policy", cheat_set, weight)

    def test_only_while_the_log_is_empty(self):
        request = with_policies(3, (0, 1), (1, 1))
        request.ask("record_test", 2, 0)
        assert_refused(self, request, -16, "add_policy", 2, 1)
        request.ask("undo_record")
        self.assertEqual(request.ask("add_policy", 2, 1), [2])

    def test_a_production_session_in_the_log_counts_too(self):
        request = with_policies(2, (0, 1))
        request.ask("permit", 0, 1)
        request.ask("record_production", 0)
        assert_refused(self, request, -16, "add_policy", 1, 1)

    def test_each_cheat_set_once(self):
        request = with_policies(3, (0, 1), (5, 1))
        assert_refused(self, request, -17, "add_policy", 5, 2)
        assert_refused(self, request, -17, "add_policy", 0, 1)
        self.assertEqual(request.ask("add_policy", 4, 1), [2])

    def test_six_policies_at_most(self):
        request = with_policies(3, *SIX)
        assert_refused(self, request, -28, "add_policy", 6, 1)
        request.ask("remove_policy", 0)
        self.assertEqual(request.ask("add_policy", 6, 1), [5])

    def test_the_error_told_first(self):
        request = with_policies(3, *SIX)
        assert_refused(self, request, -17, "add_policy", 5, 1)
        assert_refused(self, request, -22, "add_policy", 5, 0)
        assert_refused(self, request, -22, "add_policy", 8, 1)
        request.ask("record_test", 0, 0)
        assert_refused(self, request, -16, "add_policy", 5, 1)
        assert_refused(self, request, -16, "add_policy", 6, 1)
        assert_refused(self, request, -22, "add_policy", 6, 100)
        assert_refused(self, request, -22, "add_policy", 8, 1)


class AddRationalPolicy(unittest.TestCase):
    def cheat_set(self, signal_count, *calls):
        request = started(signal_count, *calls)
        self.assertEqual(request.ask("add_rational_policy", 9), [0])
        answer = request.ask("get_policy", 0)
        self.assertEqual(answer[1], 9)
        return answer[0]

    def test_cheating_that_is_worth_nothing_does_not_pay(self):
        self.assertEqual(self.cheat_set(3), 0)
        self.assertEqual(self.cheat_set(3, ("set_stakes", 0, 0)), 0)

    def test_gain_and_loss(self):
        self.assertEqual(self.cheat_set(3, ("set_stakes", 2, 1)), 7)
        self.assertEqual(self.cheat_set(3, ("set_stakes", 1, 2)), 0)
        self.assertEqual(self.cheat_set(3, ("set_stakes", 999, 998)), 7)
        self.assertEqual(self.cheat_set(3, ("set_stakes", 1, 0)), 7)
        self.assertEqual(self.cheat_set(3, ("set_stakes", 0, 1)), 0)

    def test_the_weights_of_each_signal(self):
        weights = [("set_test_weights", [1, 2, 0, 1]), ("set_production_weights", [1, 1, 2, 0])]
        self.assertEqual(self.cheat_set(4, *weights), 4)
        # Worth 3 - 2, 3 - 4, 6 - 0 and 0 - 2 of what the shares have in common.
        self.assertEqual(self.cheat_set(4, *weights, ("set_stakes", 3, 2)), 5)
        self.assertEqual(self.cheat_set(4, *weights, ("set_stakes", 4, 2)), 5)
        self.assertEqual(self.cheat_set(4, *weights, ("set_stakes", 5, 2)), 7)

    def test_shares_count_and_not_weights(self):
        weights = [("set_test_weights", [1, 9]), ("set_production_weights", [2, 98])]
        # 2 / 100 is less than 1 / 10, though 2 is more than 1.
        self.assertEqual(self.cheat_set(2, *weights), 2)

    def test_the_prior(self):
        self.assertEqual(self.cheat_set(2, ("set_prior", 49, 99)), 3)
        self.assertEqual(self.cheat_set(2, ("set_prior", 50, 99)), 0)
        self.assertEqual(self.cheat_set(2, ("set_prior", 5, 5)), 0)
        self.assertEqual(self.cheat_set(2, ("set_prior", 1, 1), ("set_stakes", 999, 0)), 0)
        never = [("set_production_weights", [0, 1]), ("set_stakes", 1, 999)]
        self.assertEqual(self.cheat_set(2, ("set_prior", 0, 7), *never), 2)
        # Pays exactly while (1 - prior) * 2 > prior * 3, that is below 2/5.
        stakes = ("set_stakes", 2, 3)
        self.assertEqual(self.cheat_set(1, stakes, ("set_prior", 39, 99)), 1)
        self.assertEqual(self.cheat_set(1, stakes, ("set_prior", 2, 5)), 0)
        self.assertEqual(self.cheat_set(1, stakes, ("set_prior", 38, 95)), 0)

    def test_later_changes_of_the_setting_do_not_change_it(self):
        request = started(2, ("set_stakes", 2, 1), ("add_rational_policy", 3))
        request.ask("set_stakes", 0, 5)
        request.ask("set_prior", 1, 1)
        request.ask("set_production_weights", [0, 1])
        self.assertEqual(request.ask("get_policy", 0), [3, 3])
        self.assertEqual(request.ask("add_rational_policy", 4), [1])
        self.assertEqual(request.ask("get_policy", 1), [0, 4])

    def test_the_limits_of_the_weight(self):
        for weight in (0, 100, HUGE):
            assert_refused(self, started(2), -22, "add_rational_policy", weight)
        for weight in (1, 99):
            request = started(2, ("add_rational_policy", weight))
            self.assertEqual(request.ask("get_policy", 0), [0, weight])

    def test_the_other_errors(self):
        request = with_policies(3, (0, 1))
        assert_refused(self, request, -17, "add_rational_policy", 1)
        request.ask("set_stakes", 2, 1)
        self.assertEqual(request.peek(("add_rational_policy", 1), ("add_rational_policy", 2)), [[1], [-17]])
        request = with_policies(3, *SIX)
        request.ask("set_stakes", 2, 1)
        assert_refused(self, request, -28, "add_rational_policy", 1)
        request = with_policies(3, (0, 1))
        request.ask("record_test", 0, 0)
        request.ask("set_stakes", 2, 1)
        assert_refused(self, request, -16, "add_rational_policy", 1)

    def test_the_error_told_first(self):
        request = with_policies(3, *SIX)
        assert_refused(self, request, -17, "add_rational_policy", 1)
        assert_refused(self, request, -22, "add_rational_policy", 0)
        request.ask("record_test", 0, 0)
        assert_refused(self, request, -16, "add_rational_policy", 1)
        assert_refused(self, request, -22, "add_rational_policy", 100)


class RemovePolicy(unittest.TestCase):
    def test_later_indices_decrease(self):
        request = with_policies(3, (0, 1), (1, 2), (2, 3))
        self.assertEqual(request.ask("remove_policy", 1), [2])
        self.assertEqual(request.peek(("get_policy", 0), ("get_policy", 1), ("get_policy", 2)),
                         [[0, 1], [2, 3], [-2]])
        self.assertEqual(request.ask("remove_policy", 1), [1])
        self.assertEqual(request.ask("remove_policy", 0), [0])
        self.assertEqual(request.ask("candidates"), [0])

    def test_what_was_removed_may_be_added_again(self):
        request = with_policies(3, (0, 1), (1, 2))
        request.ask("remove_policy", 0)
        self.assertEqual(request.ask("add_policy", 0, 7), [1])
        self.assertEqual(request.ask("get_policy", 1), [0, 7])

    def test_no_such_policy(self):
        assert_refused(self, started(2), -2, "remove_policy", 0)
        request = with_policies(2, (0, 1), (1, 1))
        for index in (2, 6, HUGE):
            assert_refused(self, request, -2, "remove_policy", index)

    def test_only_while_the_log_is_empty(self):
        request = with_policies(2, (0, 1), (1, 1))
        request.ask("record_test", 0, 0)
        assert_refused(self, request, -16, "remove_policy", 0)
        assert_refused(self, request, -16, "remove_policy", 1)
        assert_refused(self, request, -2, "remove_policy", 2)
        request.ask("undo_record")
        self.assertEqual(request.ask("remove_policy", 1), [1])


class GetPolicy(unittest.TestCase):
    def test_cheat_set_and_weight(self):
        request = with_policies(5, (31, 99), (0, 1), (16, 50))
        self.assertEqual(request.peek(("get_policy", 0), ("get_policy", 1), ("get_policy", 2)),
                         [[31, 99], [0, 1], [16, 50]])

    def test_a_policy_that_is_no_candidate_is_shown_too(self):
        request = with_policies(2, (0, 1), (1, 4))
        request.ask("record_test", 0, 0)
        self.assertEqual(request.ask("get_policy", 1), [1, 4])

    def test_no_such_policy(self):
        assert_refused(self, started(2), -2, "get_policy", 0)
        request = with_policies(2, (0, 1))
        for index in (1, HUGE):
            assert_refused(self, request, -2, "get_policy", index)


if __name__ == "__main__":
    unittest.main()
