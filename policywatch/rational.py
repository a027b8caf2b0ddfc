"""Shares of the signals, where a rational agent cheats, and what comes of it."""

from policywatch.ratios import minus, plus, ratio, times, total


def cheats_at(cheat_set, signal):
    return (cheat_set >> signal) & 1 == 1


def share_of(weights, signal):
    return ratio(weights[signal], sum(weights))


def share_of_set(weights, cheat_set):
    """The sum of the shares of the signals in the set."""
    inside = [weight for signal, weight in enumerate(weights) if cheats_at(cheat_set, signal)]
    return ratio(sum(inside), sum(weights))


def prior_of(setting):
    return ratio(setting.prior_num, setting.prior_den)


def joint_test(setting, signal):
    """The probability that a session is a test that shows the signal."""
    return times(prior_of(setting), share_of(setting.test_weights, signal))


def joint_production(setting, signal):
    """The probability that a session is in production and shows the signal."""
    return times(minus((1, 1), prior_of(setting)), share_of(setting.production_weights, signal))


def value_at(setting, signal):
    """The cheating value of the signal."""
    earned = times((setting.gain, 1), joint_production(setting, signal))
    lost = times((setting.loss, 1), joint_test(setting, signal))
    return minus(earned, lost)


def paying_signals(setting):
    """The signals at which cheating pays, in increasing order."""
    return [signal for signal in range(setting.signal_count) if value_at(setting, signal)[0] > 0]


def rational_cheat_set(setting):
    """The set of the signals at which cheating pays, as a bit mask."""
    cheat_set = 0
    for signal in paying_signals(setting):
        cheat_set = cheat_set | (1 << signal)
    return cheat_set


def profit_of(setting):
    """The rational agent's expected profit."""
    return total([value_at(setting, signal) for signal in paying_signals(setting)])


def detection_under(setting):
    """The rational agent's detection probability."""
    return total([joint_test(setting, signal) for signal in paying_signals(setting)])


def harm_under(setting):
    """The rational agent's harm probability."""
    return total([joint_production(setting, signal) for signal in paying_signals(setting)])


def cost_of(setting):
    """What the overseer pays for tests and loses by the rational agent."""
    paid = times((setting.test_price, 1), prior_of(setting))
    harmed = times((setting.harm_price, 1), harm_under(setting))
    return plus(paid, harmed)
