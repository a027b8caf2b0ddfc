"""set_test_weights, set_production_weights, set_prior and set_stakes."""

import unittest

from helper import HUGE, assert_refused, started, with_policies

WRONG_FRACTIONS = ((0, 0), (1, 0), (0, 100), (1, HUGE), (2, 1), (99, 98), (HUGE, 99))
WRONG_WEIGHTS = ([], [1], [1, 1, 1], [0, 0], [100, 1], [1, 100], [0, HUGE], [1] * 8)


class Weights(unittest.TestCase):
    def test_the_sum_of_the_new_weights(self):
        for name in ("set_test_weights", "set_production_weights"):
            request = started(5)
            self.assertEqual(request.ask(name, [99] * 5), [495])
            self.assertEqual(request.ask(name, [0, 0, 0, 0, 1]), [1])
            self.assertEqual(request.ask(name, [1, 2, 3, 4, 0]), [10])

    def test_each_kind_changes_its_own_shares(self):
        request = with_policies(2, (1, 1))
        request.ask("set_test_weights", [2, 1])
        self.assertEqual(request.peek(("policy_detection_probability", 0, 1), ("worst_candidate",)),
                         [[0, 2, 3], [0, 1, 2]])
        request.ask("set_production_weights", [3, 1])
        self.assertEqual(request.peek(("policy_detection_probability", 0, 1), ("worst_candidate",)),
                         [[0, 2, 3], [0, 3, 4]])

    def test_wrong_weights(self):
        for weights in WRONG_WEIGHTS:
            request = with_policies(2, (1, 1))
            request.ask("set_test_weights", [2, 1])
            request.ask("set_production_weights", [3, 1])
            assert_refused(self, request, -22, "set_test_weights", weights)
            assert_refused(self, request, -22, "set_production_weights", weights)

    def test_test_weights_only_while_the_log_is_empty(self):
        request = with_policies(2, (1, 1))
        request.ask("record_test", 0, 1)
        assert_refused(self, request, -16, "set_test_weights", [1, 2])
        for weights in WRONG_WEIGHTS:
            assert_refused(self, request, -22, "set_test_weights", weights)
        request.ask("undo_record")
        self.assertEqual(request.ask("set_test_weights", [1, 2]), [3])

    def test_production_weights_at_any_time(self):
        request = with_policies(2, (1, 1))
        request.ask("record_test", 0, 1)
        self.assertEqual(request.ask("set_production_weights", [1, 2]), [3])
        self.assertEqual(request.ask("worst_candidate"), [0, 1, 3])
        for weights in WRONG_WEIGHTS:
            assert_refused(self, request, -22, "set_production_weights", weights)


class PriorAndStakes(unittest.TestCase):
    def test_the_previous_prior_as_it_was_set(self):
        request = started(2)
        self.assertEqual(request.ask("set_prior", 4, 6), [0, 1, 2])
        self.assertEqual(request.ask("set_prior", 0, 99), [0, 4, 6])
        self.assertEqual(request.ask("set_prior", 99, 99), [0, 0, 99])
        self.assertEqual(request.ask("set_prior", 1, 1), [0, 99, 99])

    def test_a_wrong_prior(self):
        request = started(2, ("set_prior", 4, 6))
        for num, den in WRONG_FRACTIONS:
            assert_refused(self, request, -22, "set_prior", num, den)

    def test_the_previous_stakes(self):
        request = started(2)
        self.assertEqual(request.ask("set_stakes", 0, 999), [0, 1, 1])
        self.assertEqual(request.ask("set_stakes", 999, 0), [0, 0, 999])
        self.assertEqual(request.ask("set_stakes", 5, 6), [0, 999, 0])

    def test_wrong_stakes(self):
        request = started(2, ("set_stakes", 5, 6))
        for gain, loss in ((1000, 0), (0, 1000), (HUGE, HUGE)):
            assert_refused(self, request, -22, "set_stakes", gain, loss)

    def test_both_may_change_behind_a_log(self):
        request = with_policies(2, (0, 1))
        request.ask("record_test", 0, 0)
        self.assertEqual(request.ask("set_prior", 1, 3), [0, 1, 2])
        self.assertEqual(request.ask("set_stakes", 2, 3), [0, 1, 1])


if __name__ == "__main__":
    unittest.main()
