"""Answers the calls of one request."""

from policywatch.belief_calls import BELIEF_CALLS
from policywatch.detection_calls import DETECTION_CALLS
from policywatch.deterrence_calls import DETERRENCE_CALLS
from policywatch.log_calls import LOG_CALLS
from policywatch.permit_calls import PERMIT_CALLS
from policywatch.policy_calls import POLICY_CALLS
from policywatch.rational_calls import RATIONAL_CALLS
from policywatch.refusals import NoSetting, Refusal
from policywatch.setting_calls import SETTING_CALLS
from policywatch.state import Monitor

RESET = 0
CREATE_SETTING = 24

# The calls that take nothing stand in none of these.
TAKES_ONE_NUMBER = (2, 3, 4, 6, 10, 12, 15, 24, 30, 36)
TAKES_TWO_NUMBERS = (1, 5, 16, 17, 18, 19, 22, 27, 28, 29, 41, 42)
TAKES_ONE_LIST = (25, 26, 38, 39)


def split_calls(calls):
    """The calls as tuples of the number and the list of what is given to it."""
    found = []
    place = 0
    while place < len(calls):
        number = calls[place]
        start = place + 1
        place = start
        given = []
        if number in TAKES_ONE_LIST:
            place = start + 1 + calls[start]
            given = [calls[start + 1:place]]
        elif number in TAKES_TWO_NUMBERS:
            place = start + 2
            given = calls[start:place]
        elif number in TAKES_ONE_NUMBER:
            place = start + 1
            given = calls[start:place]
        found.append((number, given))
    return found


def handler_of(number):
    """The function that carries out the call of this number."""
    if number in POLICY_CALLS:
        return POLICY_CALLS[number]
    if number in LOG_CALLS:
        return LOG_CALLS[number]
    if number in BELIEF_CALLS:
        return BELIEF_CALLS[number]
    if number in DETECTION_CALLS:
        return DETECTION_CALLS[number]
    if number in PERMIT_CALLS:
        return PERMIT_CALLS[number]
    if number in RATIONAL_CALLS:
        return RATIONAL_CALLS[number]
    if number in DETERRENCE_CALLS:
        return DETERRENCE_CALLS[number]
    return SETTING_CALLS[number]


def carry_out(handler, monitor, given):
    if len(given) == 0:
        return handler(monitor)
    if len(given) == 1:
        return handler(monitor, given[0])
    return handler(monitor, given[0], given[1])


def require_ready(monitor, number):
    if monitor is None:
        raise NoSetting()
    if monitor.setting is None and number != CREATE_SETTING:
        raise NoSetting()


def answer_of(monitor, number, given):
    """The numbers that one call other than reset is answered by."""
    try:
        require_ready(monitor, number)
        return carry_out(handler_of(number), monitor, given)
    except Refusal as refusal:
        return [refusal.code]


def answers(calls):
    """For each call how many numbers are answered, and these numbers."""
    monitor = None
    result = []
    for number, given in split_calls(calls):
        if number == RESET:
            monitor = Monitor()
            answer = [0]
        else:
            answer = answer_of(monitor, number, given)
        result.append(len(answer))
        result.extend(answer)
    return result
