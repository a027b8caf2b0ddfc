"""Settings that differ from a given one, which stays as it is."""

from policywatch.state import copy_of


def with_prior(setting, num, den):
    changed = copy_of(setting)
    changed.prior_num = num
    changed.prior_den = den
    return changed


def with_stakes(setting, gain, loss):
    changed = copy_of(setting)
    changed.gain = gain
    changed.loss = loss
    return changed


def merged_weights(weights, mapping):
    """The weights once every signal is seen as the one that it is mapped to."""
    sums = [0] * len(weights)
    for signal, target in enumerate(mapping):
        sums[target] = sums[target] + weights[signal]
    return sums


def merged(setting, mapping):
    changed = copy_of(setting)
    changed.test_weights = merged_weights(setting.test_weights, mapping)
    changed.production_weights = merged_weights(setting.production_weights, mapping)
    return changed
