"""The checks that several calls share; each raises the refusal that it finds."""

from policywatch.beliefs import candidates_of
from policywatch.refusals import LogNotEmpty, NotThere, NoValue, OutsideLimits

MOST_STAKE = 999


def require_policy(monitor, index):
    if index >= len(monitor.policies):
        raise NotThere()


def require_signal(monitor, signal):
    if signal >= monitor.setting.signal_count:
        raise NotThere()


def require_within(number, least, most):
    if number < least or number > most:
        raise OutsideLimits()


def require_fraction(num, den):
    require_within(den, 1, 99)
    require_within(num, 0, den)


def require_stakes(first, second):
    """Checks both stakes, or both prices, which have the same limits."""
    require_within(first, 0, MOST_STAKE)
    require_within(second, 0, MOST_STAKE)


def require_empty_log(monitor):
    if len(monitor.log) > 0:
        raise LogNotEmpty()


def require_candidates(monitor):
    if len(candidates_of(monitor)) == 0:
        raise NoValue()
