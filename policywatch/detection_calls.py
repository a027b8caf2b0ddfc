"""The calls that ask what tests can reveal."""

from policywatch.beliefs import candidates_of, detected_by, detection_of
from policywatch.checks import require_fraction, require_policy, require_within
from policywatch.ratios import at_most, ratio
from policywatch.rational import share_of_set
from policywatch.refusals import NoValue

MOST_TESTS = 12


def is_detectable(monitor, index):
    require_policy(monitor, index)
    if detection_of(monitor, index)[0] > 0:
        return [1]
    return [0]


def policy_detection_probability(monitor, index, tests):
    require_policy(monitor, index)
    require_within(tests, 0, MOST_TESTS)
    return [0] + list(detected_by(detection_of(monitor, index), tests))


def tests_needed(monitor, num, den):
    require_fraction(num, den)
    wanted = ratio(num, den)
    cheaters = [index for index in candidates_of(monitor) if monitor.policies[index].cheat_set != 0]
    detections = [detection_of(monitor, index) for index in cheaters]
    for tests in range(MOST_TESTS + 1):
        if all([at_most(wanted, detected_by(detection, tests)) for detection in detections]):
            return [tests]
    raise NoValue()


def are_distinguishable(monitor, first, second):
    require_policy(monitor, first)
    require_policy(monitor, second)
    differing = monitor.policies[first].cheat_set ^ monitor.policies[second].cheat_set
    if share_of_set(monitor.setting.test_weights, differing)[0] > 0:
        return [1]
    return [0]


DETECTION_CALLS = {
    15: is_detectable,
    16: policy_detection_probability,
    17: tests_needed,
    18: are_distinguishable,
}
