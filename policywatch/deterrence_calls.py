"""The calls that ask how often the overseer must test to deter, and that merge signals."""

from policywatch.checks import require_empty_log, require_signal, require_within
from policywatch.deterrence import cheapest, prior_against, prior_against_all
from policywatch.rational import paying_signals, profit_of
from policywatch.refusals import NoValue, OutsideLimits
from policywatch.shapes import counted
from policywatch.variants import merged


def require_existing(prior):
    if prior is None:
        raise NoValue()


def deterrent_prior_at(monitor, signal):
    require_signal(monitor, signal)
    prior = prior_against(monitor.setting, signal)
    require_existing(prior)
    return [0] + list(prior)


def deterrent_prior(monitor):
    prior = prior_against_all(monitor.setting)
    require_existing(prior)
    return [0] + list(prior)


def cheapest_prior(monitor):
    found = cheapest(monitor.setting)
    return [0] + list(found[0]) + list(found[1])


def require_mapping(monitor, mapping):
    signal_count = monitor.setting.signal_count
    if len(mapping) != signal_count:
        raise OutsideLimits()
    for target in mapping:
        require_within(target, 0, signal_count - 1)


def preview_merge(monitor, mapping):
    require_mapping(monitor, mapping)
    setting = merged(monitor.setting, mapping)
    prior = prior_against_all(setting)
    require_existing(prior)
    return [0] + list(prior) + list(profit_of(setting))


def merge_signals(monitor, mapping):
    require_mapping(monitor, mapping)
    require_empty_log(monitor)
    monitor.setting = merged(monitor.setting, mapping)
    return counted(paying_signals(monitor.setting))


DETERRENCE_CALLS = {
    36: deterrent_prior_at,
    37: deterrent_prior,
    38: preview_merge,
    39: merge_signals,
    40: cheapest_prior,
}
