"""The calls that add, remove and show policies."""

from policywatch.checks import require_empty_log, require_policy, require_within
from policywatch.rational import rational_cheat_set
from policywatch.refusals import Full, SameCheatSet
from policywatch.state import Policy

MOST_POLICIES = 6
MOST_WEIGHT = 99


def append_policy(monitor, cheat_set, weight):
    """Adds a policy whose cheat set and weight are within their limits."""
    require_empty_log(monitor)
    if cheat_set in [policy.cheat_set for policy in monitor.policies]:
        raise SameCheatSet()
    if len(monitor.policies) >= MOST_POLICIES:
        raise Full()
    monitor.policies.append(Policy(cheat_set, weight))
    return [len(monitor.policies) - 1]


def add_policy(monitor, cheat_set, weight):
    require_within(cheat_set, 0, (1 << monitor.setting.signal_count) - 1)
    require_within(weight, 1, MOST_WEIGHT)
    return append_policy(monitor, cheat_set, weight)


def add_rational_policy(monitor, weight):
    require_within(weight, 1, MOST_WEIGHT)
    return append_policy(monitor, rational_cheat_set(monitor.setting), weight)


def remove_policy(monitor, index):
    require_policy(monitor, index)
    require_empty_log(monitor)
    monitor.policies.pop(index)
    return [len(monitor.policies)]


def get_policy(monitor, index):
    require_policy(monitor, index)
    policy = monitor.policies[index]
    return [policy.cheat_set, policy.weight]


POLICY_CALLS = {
    1: add_policy,
    2: add_rational_policy,
    3: remove_policy,
    4: get_policy,
}
