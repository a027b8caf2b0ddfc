"""deterrent_prior_at, deterrent_prior and cheapest_prior."""

import random
import unittest
from fractions import Fraction

from helper import HUGE, assert_only_looks, assert_refused, started, with_policies


def with_weights(test, production, *calls):
    return started(len(test), ("set_test_weights", test), ("set_production_weights", production), *calls)


def of_four(*calls):
    """Deterrent priors of 3/5, of 3/7, none, and of 0."""
    return with_weights([1, 2, 0, 1], [1, 1, 2, 0], ("set_stakes", 3, 2), *calls)


def of_two(*calls):
    """Deterrent priors of 3/4 and of 1/4."""
    return with_weights([1, 3], [3, 1], *calls)


def drawn_setting(dice):
    signal_count = dice.randint(1, 5)

    def weights():
        found = [dice.choice((0, 1, 1, 2, 3)) for signal in range(signal_count)]
        return found if any(found) else [1] * signal_count

    return with_weights(weights(), weights(), ("set_stakes", dice.randint(0, 3), dice.randint(0, 3)),
                        ("set_prices", dice.randint(0, 9), dice.randint(0, 9)))


class DeterrentPriorAt(unittest.TestCase):
    def test_each_signal(self):
        request = of_four()
        for signal, answer in ((0, [0, 3, 5]), (1, [0, 3, 7]), (3, [0, 0, 1])):
            assert_only_looks(self, request, answer, "deterrent_prior_at", signal)
        assert_refused(self, request, -33, "deterrent_prior_at", 2)

    def test_a_gain_of_zero(self):
        for loss in (0, 1, 999):
            request = of_four(("set_stakes", 0, loss))
            self.assertEqual(request.peek(*[("deterrent_prior_at", signal) for signal in range(4)]), [[0, 0, 1]] * 4)

    def test_a_loss_of_zero(self):
        request = of_four(("set_stakes", 1, 0))
        self.assertEqual(request.peek(*[("deterrent_prior_at", signal) for signal in range(4)]),
                         [[-33], [-33], [-33], [0, 0, 1]])

    def test_a_signal_that_appears_nowhere(self):
        self.assertEqual(with_weights([1, 0], [1, 0]).ask("deterrent_prior_at", 1), [0, 0, 1])

    def test_the_current_prior_does_not_matter(self):
        for num, den in ((0, 1), (1, 1), (1, 99)):
            self.assertEqual(of_four(("set_prior", num, den)).ask("deterrent_prior_at", 0), [0, 3, 5])

    def test_never_as_high_as_one(self):
        request = with_weights([1, 99, 99, 99, 99], [99, 0, 0, 0, 0], ("set_stakes", 999, 1))
        self.assertEqual(request.ask("deterrent_prior_at", 0), [0, 999 * 397, 999 * 397 + 1])

    def test_lowest_terms(self):
        request = with_weights([99, 99], [99, 99], ("set_stakes", 998, 998))
        self.assertEqual(request.ask("deterrent_prior_at", 1), [0, 1, 2])

    def test_errors_in_their_order(self):
        request = started(2, ("set_stakes", 1, 0))
        assert_refused(self, request, -33, "deterrent_prior_at", 1)
        for signal in (2, HUGE):
            assert_refused(self, request, -2, "deterrent_prior_at", signal)
            assert_refused(self, started(2), -2, "deterrent_prior_at", signal)

    def test_the_smallest_prior_that_deters(self):
        dice = random.Random(7)
        for turn in range(60):
            request = drawn_setting(dice)
            for signal in range(request.peek(("get_settings",))[0][0]):
                answer = request.peek(("deterrent_prior_at", signal))[0]
                if answer == [-33]:
                    self.assertIn(signal, request.peek(("cheating_signals_for_prior", 98, 99))[0][1:])
                elif answer[2] <= 99:
                    prior = Fraction(answer[1], answer[2])
                    self.assertNotIn(signal, request.peek(("cheating_signals_for_prior", *answer[1:]))[0][1:])
                    below = [Fraction(num, 99) for num in range(99) if Fraction(num, 99) < prior][-1:]
                    for lower in below:
                        told = request.peek(("cheating_signals_for_prior", lower.numerator, lower.denominator))
                        self.assertIn(signal, told[0][1:])


class DeterrentPrior(unittest.TestCase):
    def test_the_largest(self):
        assert_only_looks(self, of_two(), [0, 3, 4], "deterrent_prior")
        assert_only_looks(self, with_weights([3, 1, 2], [1, 3, 0]), [0, 9, 11], "deterrent_prior")
        assert_only_looks(self, with_weights([1, 2, 1], [1, 1, 0], ("set_stakes", 3, 2)), [0, 3, 4], "deterrent_prior")

    def test_equal_ones(self):
        self.assertEqual(started(5).ask("deterrent_prior"), [0, 1, 2])
        self.assertEqual(with_weights([2, 2, 1], [3, 3, 0]).ask("deterrent_prior"), [0, 5, 9])

    def test_zero(self):
        self.assertEqual(of_four(("set_stakes", 0, 0)).ask("deterrent_prior"), [0, 0, 1])
        self.assertEqual(started(1, ("set_stakes", 0, 7)).ask("deterrent_prior"), [0, 0, 1])

    def test_it_does_not_exist_if_one_does_not(self):
        assert_refused(self, of_four(), -33, "deterrent_prior")
        assert_refused(self, started(1, ("set_stakes", 1, 0)), -33, "deterrent_prior")
        for place in range(3):
            test = [1, 1, 1]
            test[place] = 0
            assert_refused(self, with_weights(test, [1, 1, 1]), -33, "deterrent_prior")

    def test_the_current_prior_does_not_matter(self):
        for num, den in ((0, 1), (1, 1), (1, 99)):
            self.assertEqual(of_two(("set_prior", num, den)).ask("deterrent_prior"), [0, 3, 4])


class CheapestPrior(unittest.TestCase):
    def check(self, request, prior, cost):
        assert_only_looks(self, request, [0] + list(prior) + list(cost), "cheapest_prior")

    def test_zero_one_or_a_deterrent_prior(self):
        self.check(of_four(("set_prices", 10, 30)), (0, 1), (10, 1))
        self.check(of_four(("set_prices", 10, 3)), (1, 1), (3, 1))
        self.check(of_four(("set_prices", 10, 10)), (3, 5), (8, 1))
        self.check(of_two(("set_prices", 8, 12)), (1, 4), (15, 2))
        self.check(of_two(("set_prices", 8, 8)), (3, 4), (6, 1))
        self.check(of_two(("set_prices", 8, 15)), (0, 1), (8, 1))
        self.check(started(2), (1, 2), (1, 2))

    def test_the_smallest_of_those_that_cost_the_same(self):
        self.check(of_four(("set_prices", 3, 4)), (0, 1), (3, 1))
        self.check(of_four(("set_prices", 2, 1)), (3, 5), (1, 1))
        self.check(of_two(("set_prices", 8, 9)), (1, 4), (27, 4))
        self.check(with_weights([3, 1], [1, 3], ("set_prices", 8, 9)), (1, 4), (27, 4))
        self.check(started(1, ("set_prices", 1, 2)), (0, 1), (1, 1))
        self.check(started(1, ("set_prices", 1, 0)), (1, 2), (0, 1))
        self.check(with_weights([1, 0], [0, 1]), (0, 1), (1, 1))

    def test_prices_of_zero(self):
        self.check(of_four(("set_prices", 0, 0)), (0, 1), (0, 1))
        self.check(of_four(("set_prices", 0, 5)), (0, 1), (0, 1))
        self.check(of_four(("set_prices", 5, 0)), (1, 1), (0, 1))
        self.check(of_two(("set_prices", 5, 0)), (3, 4), (0, 1))

    def test_stakes_of_zero(self):
        self.check(of_four(("set_stakes", 0, 0), ("set_prices", 9, 9)), (0, 1), (0, 1))
        self.check(of_four(("set_stakes", 0, 2), ("set_prices", 9, 9)), (0, 1), (0, 1))
        self.check(of_four(("set_stakes", 2, 0), ("set_prices", 9, 8)), (1, 1), (8, 1))
        self.check(of_four(("set_stakes", 2, 0), ("set_prices", 9, 9)), (0, 1), (9, 1))

    def test_a_deterrent_prior_that_does_not_exist_for_some_signal(self):
        self.check(with_weights([1, 0], [0, 1], ("set_prices", 2, 1)), (1, 1), (1, 1))
        # Signal 0 is deterred at 9/10; signal 1 never shows in a test.
        self.check(with_weights([1, 0], [9, 1], ("set_stakes", 10, 1), ("set_prices", 990, 999)),
                   (9, 10), (909, 1))

    def test_the_current_prior_does_not_matter(self):
        for num, den in ((0, 1), (1, 1), (1, 99)):
            self.check(of_two(("set_prices", 8, 12), ("set_prior", num, den)), (1, 4), (15, 2))

    def test_behind_a_log(self):
        request = with_policies(2, (0, 1))
        request.ask("record_test", 0, 0)
        self.check(request, (1, 2), (1, 2))

    def test_no_other_prior_costs_less(self):
        dice = random.Random(11)
        priors = [(num, den) for den in (1, 2, 3, 5, 7, 8) for num in range(den + 1)]
        for turn in range(80):
            request = drawn_setting(dice)
            told = request.peek(("cheapest_prior",))[0]
            cheapest = Fraction(told[3], told[4])
            for num, den in priors:
                cost = request.peek(("set_prior", num, den), ("total_cost",))[1]
                self.assertLessEqual(cheapest, Fraction(cost[1], cost[2]), request.calls)
                if Fraction(num, den) < Fraction(told[1], told[2]):
                    self.assertLess(cheapest, Fraction(cost[1], cost[2]), request.calls)
            if told[2] <= 99:
                self.assertEqual(request.peek(("set_prior", told[1], told[2]), ("total_cost",))[1][1:], told[3:])


if __name__ == "__main__":
    unittest.main()
