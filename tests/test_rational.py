"""The calls 30 to 35, 41 and 42: where a rational agent cheats, and what comes of it."""

import unittest
from fractions import Fraction

from helper import HUGE, assert_only_looks, assert_refused, started, with_policies

SUMS = (("expected_profit",), ("detection_probability",), ("harm_probability",), ("total_cost",))


def of_four(*calls):
    """Signals that appear in both, in both, in production alone and in tests alone."""
    return started(4, ("set_test_weights", [1, 2, 0, 1]), ("set_production_weights", [1, 1, 2, 0]), *calls)


def values_in(request, signal_count):
    return request.peek(*[("cheating_value", signal) for signal in range(signal_count)])


class CheatingValue(unittest.TestCase):
    def test_above_and_below_zero_in_lowest_terms(self):
        self.assertEqual(values_in(of_four(), 4), [[0, 0, 1], [0, -1, 8], [0, 1, 4], [0, -1, 8]])
        request = of_four(("set_stakes", 3, 2))
        self.assertEqual(values_in(request, 4), [[0, 1, 8], [0, -1, 8], [0, 3, 4], [0, -1, 4]])
        request.ask("set_prior", 2, 6)
        self.assertEqual(values_in(request, 4), [[0, 1, 3], [0, 1, 6], [0, 1, 1], [0, -1, 6]])

    def test_a_prior_of_zero_and_of_one(self):
        request = of_four(("set_stakes", 3, 2), ("set_prior", 0, 7))
        self.assertEqual(values_in(request, 4), [[0, 3, 4], [0, 3, 4], [0, 3, 2], [0, 0, 1]])
        request.ask("set_prior", 7, 7)
        self.assertEqual(values_in(request, 4), [[0, -1, 2], [0, -1, 1], [0, 0, 1], [0, -1, 2]])

    def test_a_gain_and_a_loss_of_zero(self):
        request = of_four(("set_stakes", 0, 2))
        self.assertEqual(values_in(request, 4), [[0, -1, 4], [0, -1, 2], [0, 0, 1], [0, -1, 4]])
        request.ask("set_stakes", 2, 0)
        self.assertEqual(values_in(request, 4), [[0, 1, 4], [0, 1, 4], [0, 1, 2], [0, 0, 1]])
        request.ask("set_stakes", 0, 0)
        self.assertEqual(values_in(request, 4), [[0, 0, 1]] * 4)

    def test_a_signal_that_appears_nowhere(self):
        request = started(2, ("set_test_weights", [1, 0]), ("set_production_weights", [2, 0]),
                          ("set_stakes", 999, 1))
        self.assertEqual(request.ask("cheating_value", 1), [0, 0, 1])

    def test_the_largest_settings_exactly(self):
        test, production = [99, 1, 99, 99, 99], [1, 99, 99, 99, 97]
        request = started(5, ("set_test_weights", test), ("set_production_weights", production),
                          ("set_prior", 49, 99), ("set_stakes", 999, 998), ("set_prices", 998, 997))
        prior = Fraction(49, 99)
        values = [999 * (1 - prior) * Fraction(production[signal], 395) - 998 * prior * Fraction(test[signal], 397)
                  for signal in range(5)]
        self.assertEqual([Fraction(answer[1], answer[2]) for answer in values_in(request, 5)], values)
        self.assertEqual(values_in(request, 5), [[0, value.numerator, value.denominator] for value in values])
        harm = (1 - prior) * Fraction(395 - 1, 395)
        cost = 997 * prior + 998 * harm
        self.assertEqual(request.ask("cheating_signals"), [4, 1, 2, 3, 4])
        self.assertEqual(request.peek(*SUMS), [
            [0, sum(values[1:]).numerator, sum(values[1:]).denominator],
            [0, (prior * Fraction(298, 397)).numerator, (prior * Fraction(298, 397)).denominator],
            [0, harm.numerator, harm.denominator], [0, cost.numerator, cost.denominator]])

    def test_no_such_signal(self):
        for signal_count in range(1, 6):
            for signal in (signal_count, HUGE):
                assert_refused(self, started(signal_count), -2, "cheating_value", signal)


class CheatingSignals(unittest.TestCase):
    def test_only_where_cheating_pays(self):
        assert_only_looks(self, of_four(), [1, 2], "cheating_signals")
        assert_only_looks(self, of_four(("set_stakes", 3, 2)), [2, 0, 2], "cheating_signals")
        assert_only_looks(self, of_four(("set_stakes", 5, 2)), [3, 0, 1, 2], "cheating_signals")
        assert_only_looks(self, of_four(("set_stakes", 0, 2)), [0], "cheating_signals")

    def test_a_value_of_zero_does_not_pay(self):
        self.assertEqual(started(5).ask("cheating_signals"), [0])
        self.assertEqual(started(5, ("set_stakes", 2, 1)).ask("cheating_signals"), [5, 0, 1, 2, 3, 4])
        self.assertEqual(of_four(("set_stakes", 4, 2)).ask("cheating_signals"), [2, 0, 2])
        self.assertEqual(of_four(("set_stakes", 9, 0)).ask("cheating_signals"), [3, 0, 1, 2])

    def test_the_prior(self):
        self.assertEqual(of_four(("set_prior", 0, 1)).ask("cheating_signals"), [3, 0, 1, 2])
        self.assertEqual(of_four(("set_prior", 1, 1)).ask("cheating_signals"), [0])
        self.assertEqual(of_four(("set_prior", 98, 99)).ask("cheating_signals"), [1, 2])

    def test_they_are_those_of_the_policy_that_is_added(self):
        request = of_four(("set_stakes", 3, 2), ("add_rational_policy", 1))
        self.assertEqual(request.ask("get_policy", 0), [5, 1])


class Sums(unittest.TestCase):
    def check(self, request, *fractions):
        """Expected profit, detection probability, harm probability and total cost."""
        before = request.seen()
        self.assertEqual(request.peek(*SUMS), [[0] + list(fraction) for fraction in fractions])
        for call in SUMS:
            request.ask(*call)
        self.assertEqual(request.seen(), before)

    def test_some_signals(self):
        self.check(of_four(), (1, 4), (0, 1), (1, 4), (3, 4))
        prices = ("set_prices", 10, 3)
        self.check(of_four(prices, ("set_stakes", 3, 2)), (7, 8), (1, 8), (3, 8), (21, 4))
        self.check(of_four(prices, ("set_stakes", 5, 2)), (7, 4), (3, 8), (1, 2), (13, 2))
        self.check(of_four(prices, ("set_stakes", 3, 2), ("set_prior", 1, 3)), (3, 2), (1, 4), (2, 3), (23, 3))

    def test_a_prior_of_zero_and_of_one(self):
        others = (("set_prices", 10, 3), ("set_stakes", 3, 2))
        self.check(of_four(("set_prior", 0, 1), *others), (3, 1), (0, 1), (1, 1), (10, 1))
        self.check(of_four(("set_prior", 1, 1), *others), (0, 1), (0, 1), (0, 1), (3, 1))
        self.check(of_four(("set_prior", 1, 1), ("set_prices", 10, 0)), (0, 1), (0, 1), (0, 1), (0, 1))

    def test_no_signal(self):
        self.check(of_four(("set_prices", 10, 3), ("set_stakes", 0, 2)), (0, 1), (0, 1), (0, 1), (3, 2))
        self.check(of_four(("set_prices", 10, 3), ("set_stakes", 0, 0)), (0, 1), (0, 1), (0, 1), (3, 2))

    def test_no_loss(self):
        self.check(of_four(("set_prices", 10, 3), ("set_stakes", 2, 0)), (1, 1), (3, 8), (1, 2), (13, 2))

    def test_prices_of_zero(self):
        self.check(of_four(("set_prices", 0, 0)), (1, 4), (0, 1), (1, 4), (0, 1))
        self.check(of_four(("set_prices", 8, 0)), (1, 4), (0, 1), (1, 4), (2, 1))
        self.check(of_four(("set_prices", 0, 8)), (1, 4), (0, 1), (1, 4), (4, 1))

    def test_policies_and_log_do_not_matter(self):
        request = of_four(("add_policy", 15, 3), ("add_policy", 0, 1))
        request.ask("record_test", 0, 0)
        self.check(request, (1, 4), (0, 1), (1, 4), (3, 4))


class ForAnotherPrior(unittest.TestCase):
    def test_what_cheating_signals_would_return(self):
        for num, den in ((0, 1), (0, 99), (1, 1), (99, 99), (1, 3), (2, 6), (3, 7), (41, 99), (3, 5), (58, 99)):
            request = of_four(("set_stakes", 3, 2))
            answer = request.peek(("set_prior", num, den), ("cheating_signals",))[1]
            assert_only_looks(self, request, answer, "cheating_signals_for_prior", num, den)

    def test_just_at_and_below_what_deters(self):
        request = of_four(("set_stakes", 3, 2))
        self.assertEqual(request.peek(*[("cheating_signals_for_prior", num, den) for num, den in (
            (0, 5), (42, 99), (3, 7), (59, 99), (3, 5), (98, 99), (1, 1))]),
            [[3, 0, 1, 2], [3, 0, 1, 2], [2, 0, 2], [2, 0, 2], [1, 2], [1, 2], [0]])

    def test_the_prior_stays_as_it_was_set(self):
        request = of_four(("set_prior", 4, 6))
        request.ask("cheating_signals_for_prior", 0, 1)
        self.assertEqual(request.ask("get_settings")[1:3], [4, 6])
        self.assertEqual(request.ask("set_prior", 1, 2), [0, 4, 6])

    def test_behind_a_log(self):
        request = with_policies(2, (0, 1))
        request.ask("record_test", 0, 0)
        assert_only_looks(self, request, [2, 0, 1], "cheating_signals_for_prior", 1, 3)

    def test_wrong_fractions(self):
        for num, den in ((0, 0), (1, 0), (0, 100), (1, HUGE), (2, 1), (99, 98), (HUGE, 99)):
            assert_refused(self, of_four(), -22, "cheating_signals_for_prior", num, den)


class ForOtherStakes(unittest.TestCase):
    def test_what_cheating_signals_would_return(self):
        for gain, loss in ((0, 0), (0, 5), (5, 0), (1, 1), (3, 2), (4, 2), (5, 2), (999, 999), (999, 0), (0, 999)):
            request = of_four(("set_prior", 2, 5))
            answer = request.peek(("set_stakes", gain, loss), ("cheating_signals",))[1]
            assert_only_looks(self, request, answer, "cheating_signals_for_stakes", gain, loss)

    def test_gain_and_loss(self):
        self.assertEqual(of_four().peek(*[("cheating_signals_for_stakes", gain, loss) for gain, loss in (
            (0, 0), (0, 1), (1, 0), (1, 1), (3, 2), (4, 2), (5, 2), (2, 999))]),
            [[0], [0], [3, 0, 1, 2], [1, 2], [2, 0, 2], [2, 0, 2], [3, 0, 1, 2], [1, 2]])

    def test_the_stakes_stay_as_they_are(self):
        request = of_four(("set_stakes", 4, 6))
        request.ask("cheating_signals_for_stakes", 0, 1)
        self.assertEqual(request.ask("get_settings")[3:5], [4, 6])
        self.assertEqual(request.ask("set_stakes", 1, 2), [0, 4, 6])

    def test_behind_a_log(self):
        request = with_policies(2, (0, 1))
        request.ask("record_test", 0, 0)
        assert_only_looks(self, request, [2, 0, 1], "cheating_signals_for_stakes", 2, 1)

    def test_wrong_stakes(self):
        for gain, loss in ((1000, 0), (0, 1000), (1000, 1000), (HUGE, HUGE)):
            assert_refused(self, of_four(), -22, "cheating_signals_for_stakes", gain, loss)


if __name__ == "__main__":
    unittest.main()
