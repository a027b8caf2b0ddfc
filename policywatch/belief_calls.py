"""The calls that ask which policies are candidates, and what harm is to be expected of them."""

from policywatch.beliefs import belief_in, candidates_of, harm_of, next_harm, suspects_of
from policywatch.checks import require_candidates, require_policy, require_signal
from policywatch.ratios import at_most
from policywatch.shapes import counted


def candidates(monitor):
    return counted(candidates_of(monitor))


def belief(monitor, index):
    require_policy(monitor, index)
    return [0] + list(belief_in(monitor, index))


def honest_belief(monitor):
    require_candidates(monitor)
    for index in candidates_of(monitor):
        if monitor.policies[index].cheat_set == 0:
            return [0] + list(belief_in(monitor, index))
    return [0, 0, 1]


def suspects(monitor, signal):
    require_signal(monitor, signal)
    return counted(suspects_of(monitor, signal))


def next_harm_probability(monitor):
    require_candidates(monitor)
    return [0] + list(next_harm(monitor))


def worst_candidate(monitor):
    require_candidates(monitor)
    found = candidates_of(monitor)
    worst = found[0]
    for index in found:
        if not at_most(harm_of(monitor, index), harm_of(monitor, worst)):
            worst = index
    return [worst] + list(harm_of(monitor, worst))


BELIEF_CALLS = {
    9: candidates,
    10: belief,
    11: honest_belief,
    12: suspects,
    13: next_harm_probability,
    14: worst_candidate,
}
