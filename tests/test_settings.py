"""set_test_weights, set_production_weights, set_prior, set_stakes, set_prices and get_settings."""

import unittest

from helper import HUGE, assert_only_looks, assert_refused, started, with_policies

WRONG_FRACTIONS = ((0, 0), (1, 0), (0, 100), (1, HUGE), (2, 1), (99, 98), (HUGE, 99))
WRONG_WEIGHTS = ([], [1], [1, 1, 1], [0, 0], [100, 1], [1, 100], [0, HUGE], [1] * 8)


class Weights(unittest.TestCase):
    def test_the_sum_of_the_new_weights(self):
        for name in ("set_test_weights", "set_production_weights"):
            request = started(5)
            self.assertEqual(request.ask(name, [99] * 5), [495])
            self.assertEqual(request.ask(name, [0, 0, 0, 0, 1]), [1])
            self.assertEqual(request.ask(name, [1, 2, 3, 4, 0]), [10])

    def test_each_kind_changes_its_own_shares(self):
        request = with_policies(2, (1, 1))
        request.ask("set_test_weights", [2, 1])
        self.assertEqual(request.peek(("policy_detection_probability", 0, 1), ("worst_candidate",)),
                         [[0, 2, 3], [0, 1, 2]])
        request.ask("set_production_weights", [3, 1])
        self.assertEqual(request.peek(("policy_detection_probability", 0, 1), ("worst_candidate",)),
                         [[0, 2, 3], [0, 3, 4]])

    def test_wrong_weights(self):
        for weights in WRONG_WEIGHTS:
            request = with_policies(2, (1, 1))
            request.ask("set_test_weights", [2, 1])
            request.ask("set_production_weights", [3, 1])
            assert_refused(self, request, -22, "set_test_weights", weights)
            assert_refused(self, request, -22, "set_production_weights", weights)

    def test_test_weights_only_while_the_log_is_empty(self):
        request = with_policies(2, (1, 1))
        request.ask("record_test", 0, 1)
        assert_refused(self, request, -16, "set_test_weights", [1, 2])
        # The wrong list is told first.
        for weights in WRONG_WEIGHTS:
            assert_refused(self, request, -22, "set_test_weights", weights)
        request.ask("undo_record")
        self.assertEqual(request.ask("set_test_weights", [1, 2]), [3])

    def test_production_weights_at_any_time(self):
        request = with_policies(2, (1, 1))
        request.ask("record_test", 0, 1)
        self.assertEqual(request.ask("set_production_weights", [1, 2]), [3])
        self.assertEqual(request.ask("worst_candidate"), [0, 1, 3])
        for weights in WRONG_WEIGHTS:
            assert_refused(self, request, -22, "set_production_weights", weights)


    def test_a_production_session_in_the_log_counts_too(self):
        request = with_policies(2, (1, 1))
        request.ask("permit", 1, 1)
        request.ask("record_production", 0)
        assert_refused(self, request, -16, "set_test_weights", [1, 2])

    def test_the_weights_in_the_order_of_the_signals(self):
        request = started(3)
        request.ask("set_test_weights", [0, 99, 1])
        request.ask("set_production_weights", [5, 0, 0])
        self.assertEqual(request.ask("get_settings")[7:], [0, 99, 1, 5, 0, 0])

    def test_each_number_of_signals(self):
        for signal_count in range(1, 6):
            for name in ("set_test_weights", "set_production_weights"):
                request = started(signal_count)
                for length in range(9):
                    if length != signal_count:
                        self.assertEqual(request.peek((name, [1] * length)), [[-22]])
                self.assertEqual(request.peek((name, [99] * signal_count)), [[99 * signal_count]])


class PriorAndStakes(unittest.TestCase):
    def test_the_previous_prior_as_it_was_set(self):
        request = started(2)
        self.assertEqual(request.ask("set_prior", 4, 6), [0, 1, 2])
        self.assertEqual(request.ask("set_prior", 0, 99), [0, 4, 6])
        self.assertEqual(request.ask("set_prior", 99, 99), [0, 0, 99])
        self.assertEqual(request.ask("set_prior", 1, 1), [0, 99, 99])

    def test_a_wrong_prior(self):
        request = started(2, ("set_prior", 4, 6))
        for num, den in WRONG_FRACTIONS:
            assert_refused(self, request, -22, "set_prior", num, den)

    def test_the_previous_stakes(self):
        request = started(2)
        self.assertEqual(request.ask("set_stakes", 0, 999), [0, 1, 1])
        self.assertEqual(request.ask("set_stakes", 999, 0), [0, 0, 999])
        self.assertEqual(request.ask("set_stakes", 5, 6), [0, 999, 0])

    def test_wrong_stakes(self):
        request = started(2, ("set_stakes", 5, 6))
        for gain, loss in ((1000, 0), (0, 1000), (HUGE, HUGE)):
            assert_refused(self, request, -22, "set_stakes", gain, loss)

    def test_both_may_change_behind_a_log(self):
        request = with_policies(2, (0, 1))
        request.ask("record_test", 0, 0)
        self.assertEqual(request.ask("set_prior", 1, 3), [0, 1, 2])
        self.assertEqual(request.ask("set_stakes", 2, 3), [0, 1, 1])


class Prices(unittest.TestCase):
    def test_the_previous_prices(self):
        request = started(2)
        self.assertEqual(request.ask("set_prices", 0, 999), [0, 1, 1])
        self.assertEqual(request.ask("set_prices", 999, 0), [0, 0, 999])
        self.assertEqual(request.ask("set_prices", 5, 6), [0, 999, 0])

    def test_each_price_is_paid_for_its_own(self):
        request = started(1, ("set_stakes", 1, 0), ("set_prior", 1, 3), ("set_prices", 30, 0))
        self.assertEqual(request.ask("total_cost"), [0, 20, 1])
        request.ask("set_prices", 0, 30)
        self.assertEqual(request.ask("total_cost"), [0, 10, 1])

    def test_wrong_prices(self):
        request = started(2, ("set_prices", 5, 6))
        for harm_price, test_price in ((1000, 0), (0, 1000), (HUGE, HUGE)):
            assert_refused(self, request, -22, "set_prices", harm_price, test_price)

    def test_they_may_change_behind_a_log(self):
        request = with_policies(2, (0, 1))
        request.ask("record_test", 0, 0)
        self.assertEqual(request.ask("set_prices", 2, 3), [0, 1, 1])


class GetSettings(unittest.TestCase):
    def test_every_field_in_its_place(self):
        request = started(2, ("set_prior", 4, 6), ("set_stakes", 11, 12), ("set_prices", 13, 14),
                          ("set_test_weights", [15, 16]), ("set_production_weights", [17, 18]))
        assert_only_looks(self, request, [2, 4, 6, 11, 12, 13, 14, 15, 16, 17, 18], "get_settings")

    def test_each_number_of_signals(self):
        for signal_count in range(1, 6):
            self.assertEqual(started(signal_count).ask("get_settings"),
                             [signal_count, 1, 2, 1, 1, 1, 1] + [1] * (2 * signal_count))

    def test_weights_past_99_behind_a_merge(self):
        request = started(3, ("set_test_weights", [99, 99, 1]), ("set_production_weights", [99, 98, 97]))
        request.ask("merge_signals", [1, 1, 1])
        self.assertEqual(request.ask("get_settings"), [3, 1, 2, 1, 1, 1, 1, 0, 199, 0, 0, 294, 0])
        assert_refused(self, request, -22, "set_test_weights", [0, 199, 0])
        self.assertEqual(request.ask("set_test_weights", [0, 99, 0]), [99])
        self.assertEqual(request.ask("get_settings")[7:], [0, 99, 0, 0, 294, 0])

    def test_what_is_recorded_does_not_matter(self):
        request = with_policies(1, (0, 1))
        request.ask("record_test", 0, 0)
        self.assertEqual(request.ask("get_settings"), [1, 1, 2, 1, 1, 1, 1, 1, 1])


if __name__ == "__main__":
    unittest.main()
