"""The calls that give, revoke and show the permit."""

from policywatch.beliefs import is_allowed, next_harm
from policywatch.checks import require_candidates, require_fraction
from policywatch.ratios import at_most
from policywatch.refusals import HarmTooHigh, NothingToUndo


def shown(held):
    """The permit as it was set; a den of 0 tells that there is none."""
    if held is None:
        return [0, 0]
    return list(held)


def permit(monitor, num, den):
    require_fraction(num, den)
    require_candidates(monitor)
    if not at_most(next_harm(monitor), (num, den)):
        raise HarmTooHigh()
    old = monitor.permit
    monitor.permit = (num, den)
    return [0] + shown(old)


def revoke_permit(monitor):
    if monitor.permit is None:
        raise NothingToUndo()
    old = monitor.permit
    monitor.permit = None
    return [0] + shown(old)


def permit_status(monitor):
    if is_allowed(monitor):
        return [1] + shown(monitor.permit)
    return [0] + shown(monitor.permit)


PERMIT_CALLS = {
    19: permit,
    20: revoke_permit,
    21: permit_status,
}
