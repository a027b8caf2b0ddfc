"""The calls that ask where a rational agent cheats, and what comes of it."""

from policywatch.checks import require_fraction, require_signal, require_stakes
from policywatch.rational import cost_of, detection_under, harm_under, paying_signals, profit_of, value_at
from policywatch.shapes import counted
from policywatch.variants import with_prior, with_stakes


def cheating_value(monitor, signal):
    require_signal(monitor, signal)
    return [0] + list(value_at(monitor.setting, signal))


def cheating_signals(monitor):
    return counted(paying_signals(monitor.setting))


def expected_profit(monitor):
    return [0] + list(profit_of(monitor.setting))


def detection_probability(monitor):
    return [0] + list(detection_under(monitor.setting))


def harm_probability(monitor):
    return [0] + list(harm_under(monitor.setting))


def total_cost(monitor):
    return [0] + list(cost_of(monitor.setting))


def cheating_signals_for_prior(monitor, num, den):
    require_fraction(num, den)
    return counted(paying_signals(with_prior(monitor.setting, num, den)))


def cheating_signals_for_stakes(monitor, gain, loss):
    require_stakes(gain, loss)
    return counted(paying_signals(with_stakes(monitor.setting, gain, loss)))


RATIONAL_CALLS = {
    30: cheating_value,
    31: cheating_signals,
    32: expected_profit,
    33: detection_probability,
    34: harm_probability,
    35: total_cost,
    41: cheating_signals_for_prior,
    42: cheating_signals_for_stakes,
}
