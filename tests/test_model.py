"""The answers beside those of a second monitor, written from the document with Python's fractions."""

import random
import unittest
from fractions import Fraction

from helper import NUMBERS, random_calls, replies


class Told(Exception):
    """An error code of the model."""


def told_if(wrong, code):
    if wrong:
        raise Told(code)


def shown(value):
    return [value.numerator, value.denominator]


def require_fraction(num, den):
    told_if(den not in range(1, 100) or num > den, -22)


def require_stakes(first, second):
    told_if(first > 999 or second > 999, -22)


class Model:
    """A policy is a tuple of the signals' set and the weight; count is 0 as long as there is no setting."""

    def __init__(self):
        self.is_reset, self.count = False, 0

    def reset(self):
        self.is_reset, self.count = True, 0
        return [0]

    def create_setting(self, count):
        told_if(self.count, -13)
        told_if(count not in range(1, 6), -22)
        self.count, self.policies, self.log, self.allowed = count, [], [], None
        self.test, self.production = [1] * count, [1] * count
        self.prior, self.stakes, self.prices = (1, 2), (1, 1), (1, 1)
        return [0]

    def share(self, weights, cheats):
        return Fraction(sum(weights[signal] for signal in cheats), sum(weights))

    def fitting(self, log):
        return [index for index, (cheats, weight) in enumerate(self.policies)
                if all(kind == 2 or (signal in cheats) == (kind == 1) for kind, signal in log)]

    def sure(self, index):
        told_if(index not in range(len(self.policies)), -2)
        return self.policies[index]

    def believed(self, index):
        found = self.fitting(self.log)
        whole = sum(self.policies[other][1] for other in found)
        return Fraction(self.policies[index][1], whole) if index in found else Fraction(0)

    def harms(self):
        return {index: self.share(self.production, self.policies[index][0]) for index in self.fitting(self.log)}

    def harm(self):
        return sum((self.believed(index) * harm for index, harm in self.harms().items()), Fraction(0))

    def open_for_production(self):
        return self.allowed is not None and bool(self.harms()) and self.harm() <= Fraction(*self.allowed)

    def add(self, cheats, weight):
        told_if(self.log, -16)
        told_if(cheats in [policy[0] for policy in self.policies], -17)
        told_if(len(self.policies) == 6, -28)
        self.policies.append((cheats, weight))
        return [len(self.policies) - 1]

    def add_policy(self, mask, weight):
        told_if(mask >= 2 ** self.count or weight not in range(1, 100), -22)
        return self.add({signal for signal in range(self.count) if mask & 2 ** signal}, weight)

    def add_rational_policy(self, weight):
        told_if(weight not in range(1, 100), -22)
        return self.add(set(self.paying()), weight)

    def remove_policy(self, index):
        self.sure(index)
        told_if(self.log, -16)
        del self.policies[index]
        return [len(self.policies)]

    def get_policy(self, index):
        cheats, weight = self.sure(index)
        return [sum(2 ** signal for signal in cheats), weight]

    def record_test(self, signal, cheated):
        told_if(signal >= self.count, -2)
        told_if(cheated > 1 or self.test[signal] == 0, -22)
        told_if(len(self.log) == 16, -28)
        left = self.fitting(self.log + [(cheated, signal)])
        told_if(not left, -33)
        self.log.append((cheated, signal))
        return [len(left)]

    def record_production(self, signal):
        told_if(signal >= self.count, -2)
        told_if(self.production[signal] == 0, -22)
        told_if(len(self.log) == 16, -28)
        told_if(not self.fitting(self.log), -33)
        told_if(not self.open_for_production(), -30)
        self.log.append((2, signal))
        return self.suspects(signal)[:1]

    def undo_record(self):
        told_if(not self.log, -6)
        return list(self.log.pop())

    def get_log(self):
        return [len(self.log)] + [number for entry in self.log for number in entry]

    def candidates(self):
        found = self.fitting(self.log)
        return [len(found)] + found

    def belief(self, index):
        self.sure(index)
        return [0] + shown(self.believed(index))

    def honest_belief(self):
        told_if(not self.harms(), -33)
        honest = [self.believed(index) for index, policy in enumerate(self.policies) if not policy[0]]
        return [0] + shown(sum(honest, Fraction(0)))

    def suspects(self, signal):
        told_if(signal >= self.count, -2)
        found = [index for index in self.fitting(self.log) if signal in self.policies[index][0]]
        return [len(found)] + found

    def next_harm_probability(self):
        told_if(not self.harms(), -33)
        return [0] + shown(self.harm())

    def worst_candidate(self):
        harms = self.harms()
        told_if(not harms, -33)
        worst = min(harms, key=lambda index: (-harms[index], index))
        return [worst] + shown(harms[worst])

    def is_detectable(self, index):
        return [int(any(self.test[signal] for signal in self.sure(index)[0]))]

    def seen_within(self, index, tests):
        return 1 - (1 - self.share(self.test, self.policies[index][0])) ** tests

    def policy_detection_probability(self, index, tests):
        self.sure(index)
        told_if(tests > 12, -22)
        return [0] + shown(Fraction(self.seen_within(index, tests)))

    def tests_needed(self, num, den):
        require_fraction(num, den)
        cheating = [index for index in self.fitting(self.log) if self.policies[index][0]]
        enough = [tests for tests in range(13)
                  if all(self.seen_within(index, tests) >= Fraction(num, den) for index in cheating)]
        told_if(not enough, -33)
        return enough[:1]

    def are_distinguishable(self, first, second):
        differing = self.sure(first)[0] ^ self.sure(second)[0]
        return [int(any(self.test[signal] for signal in differing))]

    def permit(self, num, den):
        require_fraction(num, den)
        told_if(not self.harms(), -33)
        told_if(self.harm() > Fraction(num, den), -30)
        old, self.allowed = self.allowed, (num, den)
        return [0] + list(old or (0, 0))

    def revoke_permit(self):
        told_if(self.allowed is None, -6)
        old, self.allowed = self.allowed, None
        return [0] + list(old)

    def permit_status(self):
        return [int(self.open_for_production())] + list(self.allowed or (0, 0))

    def candidates_after_test(self, signal, cheated):
        told_if(signal >= self.count, -2)
        told_if(cheated > 1 or self.test[signal] == 0, -22)
        found = self.fitting(self.log + [(cheated, signal)])
        return [len(found)] + found

    def counts(self):
        kinds = [kind for kind, signal in self.log]
        return [len(self.policies), sum(kind < 2 for kind in kinds), kinds.count(1), kinds.count(2)]

    def require_weights(self, weights):
        told_if(len(weights) != self.count or any(weight > 99 for weight in weights) or not any(weights), -22)

    def set_test_weights(self, weights):
        self.require_weights(weights)
        told_if(self.log, -16)
        self.test = weights
        return [sum(weights)]

    def set_production_weights(self, weights):
        self.require_weights(weights)
        self.production = weights
        return [sum(weights)]

    def set_prior(self, num, den):
        require_fraction(num, den)
        old, self.prior = self.prior, (num, den)
        return [0] + list(old)

    def set_stakes(self, gain, loss):
        require_stakes(gain, loss)
        old, self.stakes = self.stakes, (gain, loss)
        return [0] + list(old)

    def set_prices(self, harm_price, test_price):
        require_stakes(harm_price, test_price)
        old, self.prices = self.prices, (harm_price, test_price)
        return [0] + list(old)

    def get_settings(self):
        return [self.count, *self.prior, *self.stakes, *self.prices, *self.test, *self.production]

    def joint(self, signal, prior):
        """The probabilities of a test and of a production session that show the signal."""
        return (prior * self.share(self.test, [signal]), (1 - prior) * self.share(self.production, [signal]))

    def value(self, signal, prior=None, stakes=None):
        test, production = self.joint(signal, Fraction(*self.prior) if prior is None else prior)
        gain, loss = stakes or self.stakes
        return gain * production - loss * test

    def paying(self, prior=None, stakes=None):
        return [signal for signal in range(self.count) if self.value(signal, prior, stakes) > 0]

    def chance(self, kind, prior):
        return sum((self.joint(signal, prior)[kind] for signal in self.paying(prior)), Fraction(0))

    def profit(self):
        return sum((self.value(signal) for signal in self.paying()), Fraction(0))

    def cost(self, prior):
        return self.prices[1] * prior + self.prices[0] * self.chance(1, prior)

    def deterrent(self, signal):
        earned = self.stakes[0] * self.share(self.production, [signal])
        lost = self.stakes[1] * self.share(self.test, [signal])
        if earned == 0:
            return Fraction(0)
        return None if lost == 0 else earned / (earned + lost)

    def deterrents(self):
        return [self.deterrent(signal) for signal in range(self.count)]

    def cheating_value(self, signal):
        told_if(signal >= self.count, -2)
        return [0] + shown(self.value(signal))

    def cheating_signals(self, prior=None, stakes=None):
        found = self.paying(prior, stakes)
        return [len(found)] + found

    def cheating_signals_for_prior(self, num, den):
        require_fraction(num, den)
        return self.cheating_signals(prior=Fraction(num, den))

    def cheating_signals_for_stakes(self, gain, loss):
        require_stakes(gain, loss)
        return self.cheating_signals(stakes=(gain, loss))

    def expected_profit(self):
        return [0] + shown(self.profit())

    def detection_probability(self):
        return [0] + shown(self.chance(0, Fraction(*self.prior)))

    def harm_probability(self):
        return [0] + shown(self.chance(1, Fraction(*self.prior)))

    def total_cost(self):
        return [0] + shown(self.cost(Fraction(*self.prior)))

    def deterrent_prior_at(self, signal):
        told_if(signal >= self.count, -2)
        told_if(self.deterrent(signal) is None, -33)
        return [0] + shown(self.deterrent(signal))

    def deterrent_prior(self):
        told_if(None in self.deterrents(), -33)
        return [0] + shown(max(self.deterrents()))

    def cheapest_prior(self):
        priors = [prior for prior in self.deterrents() if prior is not None] + [Fraction(0), Fraction(1)]
        cost, prior = min((self.cost(prior), prior) for prior in priors)
        return [0] + shown(prior) + shown(cost)

    def merged(self, weights, mapping):
        return [sum(weights[old] for old in range(self.count) if mapping[old] == new)
                for new in range(self.count)]

    def require_mapping(self, mapping):
        told_if(len(mapping) != self.count or any(signal >= self.count for signal in mapping), -22)

    def preview_merge(self, mapping):
        self.require_mapping(mapping)
        old = self.test, self.production
        self.test, self.production = [self.merged(weights, mapping) for weights in old]
        found, profit = self.deterrents(), self.profit()
        self.test, self.production = old
        told_if(None in found, -33)
        return [0] + shown(max(found)) + shown(profit)

    def merge_signals(self, mapping):
        self.require_mapping(mapping)
        told_if(self.log, -16)
        self.test, self.production = self.merged(self.test, mapping), self.merged(self.production, mapping)
        return self.cheating_signals()

    def answer(self, call):
        try:
            told_if(not self.is_reset and call[0] != "reset", -11)
            told_if(not self.count and call[0] not in ("reset", "create_setting"), -11)
            return getattr(self, call[0])(*call[1:])
        except Told as told:
            return list(told.args)


# The errors of every call, beside -11.
ERRORS = {
    "reset": [], "add_policy": [-22, -16, -17, -28], "add_rational_policy": [-22, -16, -17, -28],
    "remove_policy": [-2, -16], "get_policy": [-2], "record_test": [-2, -22, -28, -33],
    "record_production": [-2, -22, -28, -33, -30], "undo_record": [-6], "get_log": [], "candidates": [],
    "belief": [-2], "honest_belief": [-33], "suspects": [-2], "next_harm_probability": [-33],
    "worst_candidate": [-33], "is_detectable": [-2], "policy_detection_probability": [-2, -22],
    "tests_needed": [-22, -33], "are_distinguishable": [-2], "permit": [-22, -33, -30],
    "revoke_permit": [-6], "permit_status": [], "candidates_after_test": [-2, -22], "counts": [],
    "create_setting": [-13, -22], "set_test_weights": [-22, -16], "set_production_weights": [-22],
    "set_prior": [-22], "set_stakes": [-22], "set_prices": [-22], "cheating_value": [-2],
    "cheating_signals": [], "expected_profit": [], "detection_probability": [], "harm_probability": [],
    "total_cost": [], "deterrent_prior_at": [-2, -33], "deterrent_prior": [-33],
    "preview_merge": [-22, -33], "merge_signals": [-22, -16], "cheapest_prior": [],
    "cheating_signals_for_prior": [-22], "cheating_signals_for_stakes": [-22], "get_settings": [],
}


class BesideTheModel(unittest.TestCase):
    def test_the_answers_are_those_of_the_model(self):
        given = {name: set() for name in NUMBERS}
        for seed in range(3000):
            dice = random.Random(seed)
            calls = random_calls(dice, dice.randint(5, 80))
            model = Model()
            for call, found in zip(calls, replies(calls)):
                self.assertEqual(found, model.answer(call), (seed, call))
                given[call[0]].add(min(found[0], 0))
        # The drawn requests reach every error of every call, and every call succeeds in some.
        for name, errors in ERRORS.items():
            ahead = [] if name == "reset" else [-11]
            self.assertEqual(given[name], {0, *ahead, *errors}, name)


if __name__ == "__main__":
    unittest.main()
