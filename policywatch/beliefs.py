"""Which policies fit the log, and what is to be expected of them."""

from policywatch.ratios import at_most, minus, power, ratio, times, total
from policywatch.rational import cheats_at, share_of_set

BEHAVED = 0
CHEATED = 1
PRODUCTION = 2


def is_consistent(policy, log):
    """Whether the policy fits every test of the log; production sessions show nothing."""
    for kind, signal in log:
        if kind == BEHAVED and cheats_at(policy.cheat_set, signal):
            return False
        if kind == CHEATED and not cheats_at(policy.cheat_set, signal):
            return False
    return True


def candidates_under(monitor, log):
    """The indices of the policies that would be candidates if this were the log."""
    return [index for index, policy in enumerate(monitor.policies) if is_consistent(policy, log)]


def candidates_of(monitor):
    return candidates_under(monitor, monitor.log)


def suspects_of(monitor, signal):
    """The indices of the candidates that cheat at the signal."""
    policies = monitor.policies
    return [index for index in candidates_of(monitor) if cheats_at(policies[index].cheat_set, signal)]


def belief_in(monitor, index):
    found = candidates_of(monitor)
    if index not in found:
        return (0, 1)
    return ratio(monitor.policies[index].weight, sum([monitor.policies[other].weight for other in found]))


def harm_of(monitor, index):
    return share_of_set(monitor.setting.production_weights, monitor.policies[index].cheat_set)


def next_harm(monitor):
    return total([times(belief_in(monitor, index), harm_of(monitor, index)) for index in candidates_of(monitor)])


def detection_of(monitor, index):
    return share_of_set(monitor.setting.test_weights, monitor.policies[index].cheat_set)


def detected_by(detection, tests):
    """The probability that at least one of so many independent tests detects."""
    return minus((1, 1), power(minus((1, 1), detection), tests))


def is_allowed(monitor):
    """Whether production is allowed."""
    if monitor.permit is None or len(candidates_of(monitor)) == 0:
        return False
    return at_most(next_harm(monitor), monitor.permit)
