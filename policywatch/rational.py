"""Shares of the signals, and where a rational agent cheats."""

from policywatch.ratios import minus, ratio, times


def cheats_at(cheat_set, signal):
    return (cheat_set >> signal) & 1 == 1


def share_of_set(weights, cheat_set):
    """The sum of the shares of the signals in the set."""
    inside = [weight for signal, weight in enumerate(weights) if cheats_at(cheat_set, signal)]
    return ratio(sum(inside), sum(weights))


def joint_test(setting, signal):
    """The probability that a session is a test that shows the signal."""
    prior = ratio(setting.prior_num, setting.prior_den)
    return times(prior, ratio(setting.test_weights[signal], sum(setting.test_weights)))


def joint_production(setting, signal):
    """The probability that a session is in production and shows the signal."""
    prior = ratio(setting.prior_num, setting.prior_den)
    share = ratio(setting.production_weights[signal], sum(setting.production_weights))
    return times(minus((1, 1), prior), share)


def cheating_value(setting, signal):
    earned = times((setting.gain, 1), joint_production(setting, signal))
    lost = times((setting.loss, 1), joint_test(setting, signal))
    return minus(earned, lost)


def cheating_pays(setting, signal):
    return cheating_value(setting, signal)[0] > 0


def rational_cheat_set(setting):
    """The set of the signals at which cheating pays, as a bit mask."""
    cheat_set = 0
    for signal in range(setting.signal_count):
        if cheating_pays(setting, signal):
            cheat_set = cheat_set | (1 << signal)
    return cheat_set
