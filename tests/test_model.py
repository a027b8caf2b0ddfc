"""The answers beside those of a second monitor, written from the document with Python's fractions."""

import random
import unittest
from fractions import Fraction

from helper import random_calls, replies


class Told(Exception):
    """An error code of the model."""


def told_if(wrong, code):
    if wrong:
        raise Told(code)


def shown(value):
    return [value.numerator, value.denominator]


class Model:
    """A policy is a tuple of the signals' set and the weight; the setting holds the shares ready."""

    def create_setting(self, count):
        self.count, self.policies, self.log, self.allowed = count, [], [], None
        self.test, self.production = [1] * count, [1] * count
        self.prior, self.stakes = (1, 2), (1, 1)
        return [0]

    def share(self, weights, cheats):
        return Fraction(sum(weights[signal] for signal in cheats), sum(weights))

    def fitting(self, log):
        return [index for index, (cheats, weight) in enumerate(self.policies)
                if all(kind == 2 or (signal in cheats) == (kind == 1) for kind, signal in log)]

    def sure(self, index):
        told_if(index not in range(len(self.policies)), -2)
        return self.policies[index]

    def believed(self, index):
        found = self.fitting(self.log)
        whole = sum(self.policies[other][1] for other in found)
        return Fraction(self.policies[index][1], whole) if index in found else Fraction(0)

    def harms(self):
        return {index: self.share(self.production, self.policies[index][0]) for index in self.fitting(self.log)}

    def harm(self):
        return sum((self.believed(index) * harm for index, harm in self.harms().items()), Fraction(0))

    def open_for_production(self):
        return self.allowed is not None and bool(self.harms()) and self.harm() <= Fraction(*self.allowed)

    def add(self, cheats, weight):
        told_if(self.log, -16)
        told_if(cheats in [policy[0] for policy in self.policies], -17)
        told_if(len(self.policies) == 6, -28)
        self.policies.append((cheats, weight))
        return [len(self.policies) - 1]

    def add_policy(self, mask, weight):
        told_if(mask >= 2 ** self.count or weight not in range(1, 100), -22)
        return self.add({signal for signal in range(self.count) if mask & 2 ** signal}, weight)

    def add_rational_policy(self, weight):
        told_if(weight not in range(1, 100), -22)
        prior = Fraction(*self.prior)
        value = [self.stakes[0] * (1 - prior) * self.share(self.production, [signal])
                 - self.stakes[1] * prior * self.share(self.test, [signal]) for signal in range(self.count)]
        return self.add({signal for signal in range(self.count) if value[signal] > 0}, weight)

    def remove_policy(self, index):
        self.sure(index)
        told_if(self.log, -16)
        del self.policies[index]
        return [len(self.policies)]

    def get_policy(self, index):
        cheats, weight = self.sure(index)
        return [sum(2 ** signal for signal in cheats), weight]

    def record_test(self, signal, cheated):
        told_if(signal >= self.count, -2)
        told_if(cheated > 1 or self.test[signal] == 0, -22)
        told_if(len(self.log) == 16, -28)
        left = self.fitting(self.log + [(cheated, signal)])
        told_if(not left, -33)
        self.log.append((cheated, signal))
        return [len(left)]

    def record_production(self, signal):
        told_if(signal >= self.count, -2)
        told_if(self.production[signal] == 0, -22)
        told_if(len(self.log) == 16, -28)
        told_if(not self.fitting(self.log), -33)
        told_if(not self.open_for_production(), -30)
        self.log.append((2, signal))
        return self.suspects(signal)[:1]

    def undo_record(self):
        told_if(not self.log, -6)
        return list(self.log.pop())

    def get_log(self):
        return [len(self.log)] + [number for entry in self.log for number in entry]

    def candidates(self):
        found = self.fitting(self.log)
        return [len(found)] + found

    def belief(self, index):
        self.sure(index)
        return [0] + shown(self.believed(index))

    def honest_belief(self):
        told_if(not self.harms(), -33)
        honest = [self.believed(index) for index, policy in enumerate(self.policies) if not policy[0]]
        return [0] + shown(sum(honest, Fraction(0)))

    def suspects(self, signal):
        told_if(signal >= self.count, -2)
        found = [index for index in self.fitting(self.log) if signal in self.policies[index][0]]
        return [len(found)] + found

    def next_harm_probability(self):
        told_if(not self.harms(), -33)
        return [0] + shown(self.harm())

    def worst_candidate(self):
        harms = self.harms()
        told_if(not harms, -33)
        worst = min(harms, key=lambda index: (-harms[index], index))
        return [worst] + shown(harms[worst])

    def is_detectable(self, index):
        return [int(any(self.test[signal] for signal in self.sure(index)[0]))]

    def seen_within(self, index, tests):
        return 1 - (1 - self.share(self.test, self.policies[index][0])) ** tests

    def policy_detection_probability(self, index, tests):
        self.sure(index)
        told_if(tests > 12, -22)
        return [0] + shown(Fraction(self.seen_within(index, tests)))

    def tests_needed(self, num, den):
        cheating = [index for index in self.fitting(self.log) if self.policies[index][0]]
        enough = [tests for tests in range(13)
                  if all(self.seen_within(index, tests) >= Fraction(num, den) for index in cheating)]
        told_if(not enough, -33)
        return enough[:1]

    def are_distinguishable(self, first, second):
        differing = self.sure(first)[0] ^ self.sure(second)[0]
        return [int(any(self.test[signal] for signal in differing))]

    def permit(self, num, den):
        told_if(not self.harms(), -33)
        told_if(self.harm() > Fraction(num, den), -30)
        old, self.allowed = self.allowed, (num, den)
        return [0] + list(old or (0, 0))

    def revoke_permit(self):
        told_if(self.allowed is None, -6)
        old, self.allowed = self.allowed, None
        return [0] + list(old)

    def permit_status(self):
        return [int(self.open_for_production())] + list(self.allowed or (0, 0))

    def set_test_weights(self, weights):
        told_if(not any(weights), -22)
        told_if(self.log, -16)
        self.test = weights
        return [sum(weights)]

    def set_production_weights(self, weights):
        told_if(not any(weights), -22)
        self.production = weights
        return [sum(weights)]

    def set_prior(self, num, den):
        old, self.prior = self.prior, (num, den)
        return [0] + list(old)

    def set_stakes(self, gain, loss):
        told_if(gain > 999 or loss > 999, -22)
        old, self.stakes = self.stakes, (gain, loss)
        return [0] + list(old)

    def answer(self, call):
        if call[0] == "reset":
            return [0]
        try:
            return getattr(self, call[0])(*call[1:])
        except Told as told:
            return list(told.args)


class BesideTheModel(unittest.TestCase):
    def test_the_answers_are_those_of_the_model(self):
        given = {}
        for seed in range(1500):
            dice = random.Random(seed)
            calls = random_calls(dice, dice.randint(5, 78))
            model = Model()
            for call, found in zip(calls, replies(calls)):
                self.assertEqual(found, model.answer(call), (seed, call))
                given.setdefault(call[0], set()).add(found[0] if found[0] < 0 else 0)
        # The drawn requests reach what they are there for.
        self.assertEqual(given["record_test"], {0, -2, -22, -28, -33})
        self.assertEqual(given["record_production"], {0, -2, -22, -28, -33, -30})
        self.assertEqual(given["add_policy"], {0, -22, -16, -17, -28})
        self.assertEqual(given["add_rational_policy"], {0, -22, -16, -17, -28})
        self.assertEqual(given["permit"], {0, -33, -30})


if __name__ == "__main__":
    unittest.main()
