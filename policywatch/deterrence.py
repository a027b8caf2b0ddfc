"""How often the overseer must test, and how often it is cheapest to test."""

from policywatch.ratios import at_most, plus, quotient, times
from policywatch.rational import cost_of, share_of
from policywatch.variants import with_prior


def prior_against(setting, signal):
    """The deterrent prior of the signal; None if it doesn't exist."""
    earned = times((setting.gain, 1), share_of(setting.production_weights, signal))
    lost = times((setting.loss, 1), share_of(setting.test_weights, signal))
    if earned[0] == 0:
        return (0, 1)
    if lost[0] == 0:
        return None
    return quotient(earned, plus(earned, lost))


def prior_against_all(setting):
    """The largest deterrent prior; None if that of some signal doesn't exist."""
    largest = (0, 1)
    for signal in range(setting.signal_count):
        found = prior_against(setting, signal)
        if found is None:
            return None
        if not at_most(found, largest):
            largest = found
    return largest


def considered_priors(setting):
    """The priors among which the cheapest is looked for."""
    found = [(0, 1), (1, 1)]
    for signal in range(setting.signal_count):
        prior = prior_against(setting, signal)
        if prior is not None:
            found.append(prior)
    return found


def is_better(cost, prior, other_cost, other_prior):
    """Whether a prior goes before another one, by what they cost and then by their size."""
    if cost == other_cost:
        return not at_most(other_prior, prior)
    return at_most(cost, other_cost)


def cheapest(setting):
    """The cheapest prior, and the total cost with it."""
    best = None
    lowest = None
    for prior in considered_priors(setting):
        cost = cost_of(with_prior(setting, prior[0], prior[1]))
        if best is None or is_better(cost, prior, lowest, best):
            best = prior
            lowest = cost
    return (best, lowest)
