"""The calls that record sessions, take them back, look ahead at a test, and show the log."""

from policywatch.beliefs import BEHAVED, CHEATED, PRODUCTION, candidates_under, is_allowed, suspects_of
from policywatch.checks import require_candidates, require_signal, require_within
from policywatch.refusals import Full, HarmTooHigh, NothingToUndo, NoValue, OutsideLimits
from policywatch.shapes import counted

MOST_ENTRIES = 16


def require_appearing(weights, signal):
    if weights[signal] == 0:
        raise OutsideLimits()


def require_room(monitor):
    if len(monitor.log) >= MOST_ENTRIES:
        raise Full()


def require_possible_test(monitor, signal, cheated):
    require_signal(monitor, signal)
    require_within(cheated, 0, 1)
    require_appearing(monitor.setting.test_weights, signal)


def record_test(monitor, signal, cheated):
    require_possible_test(monitor, signal, cheated)
    require_room(monitor)
    log = monitor.log + [(cheated, signal)]
    remaining = candidates_under(monitor, log)
    if len(remaining) == 0:
        raise NoValue()
    monitor.log = log
    return [len(remaining)]


def record_production(monitor, signal):
    require_signal(monitor, signal)
    require_appearing(monitor.setting.production_weights, signal)
    require_room(monitor)
    require_candidates(monitor)
    if not is_allowed(monitor):
        raise HarmTooHigh()
    monitor.log = monitor.log + [(PRODUCTION, signal)]
    return [len(suspects_of(monitor, signal))]


def undo_record(monitor):
    if len(monitor.log) == 0:
        raise NothingToUndo()
    last = monitor.log[-1]
    monitor.log = monitor.log[:-1]
    return [last[0], last[1]]


def get_log(monitor):
    answer = [len(monitor.log)]
    for kind, signal in monitor.log:
        answer.append(kind)
        answer.append(signal)
    return answer


def candidates_after_test(monitor, signal, cheated):
    require_possible_test(monitor, signal, cheated)
    return counted(candidates_under(monitor, monitor.log + [(cheated, signal)]))


def counts(monitor):
    kinds = [kind for kind, signal in monitor.log]
    cheated_count = kinds.count(CHEATED)
    test_count = kinds.count(BEHAVED) + cheated_count
    return [len(monitor.policies), test_count, cheated_count, kinds.count(PRODUCTION)]


LOG_CALLS = {
    5: record_test,
    6: record_production,
    7: undo_record,
    8: get_log,
    22: candidates_after_test,
    23: counts,
}
