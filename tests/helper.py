"""What the tests share: requests written with the names of the calls."""

from policywatch.monitor import answers

NUMBERS = {
    "reset": 0, "add_policy": 1, "add_rational_policy": 2, "remove_policy": 3,
    "get_policy": 4, "record_test": 5, "record_production": 6, "undo_record": 7,
    "get_log": 8, "candidates": 9, "belief": 10, "honest_belief": 11, "suspects": 12,
    "next_harm_probability": 13, "worst_candidate": 14, "is_detectable": 15,
    "policy_detection_probability": 16, "tests_needed": 17, "are_distinguishable": 18,
    "permit": 19, "revoke_permit": 20, "permit_status": 21, "create_setting": 24,
    "set_test_weights": 25, "set_production_weights": 26, "set_prior": 27, "set_stakes": 28,
}

HUGE = 4294967295


def flat(calls):
    """The calls, tuples of a name and what is given, as the one list of the interface."""
    numbers = []
    for call in calls:
        numbers.append(NUMBERS[call[0]])
        for given in call[1:]:
            if isinstance(given, list):
                numbers.append(len(given))
                numbers.extend(given)
            else:
                numbers.append(given)
    return numbers


def split(numbers):
    """The answers as lists, one for each call."""
    found = []
    place = 0
    while place < len(numbers):
        count = numbers[place]
        answer = numbers[place + 1:place + 1 + count]
        if count < 1 or len(answer) != count:
            raise ValueError(f"not an answer at {place}: {numbers}")
        found.append(answer)
        place += 1 + count
    return found


def replies(calls):
    """The answers to a request of at most 80 calls, one list for each call."""
    if len(calls) > 80:
        raise ValueError(f"{len(calls)} calls are more than a request has")
    found = split(answers(flat(calls)))
    if len(found) != len(calls):
        raise ValueError(f"{len(calls)} calls, {len(found)} answers")
    return found


class Request:
    """A request that grows call by call, each answered behind all that came before it."""

    def __init__(self, *calls):
        self.calls = list(calls)

    def ask(self, *call):
        self.calls.append(call)
        return replies(self.calls)[-1]

    def peek(self, *calls):
        """What these calls would be answered by; the request itself doesn't grow."""
        return replies(self.calls + list(calls))[len(self.calls):]

    def seen(self):
        """All that the calls can show of the state: twice the same if nothing changed.

        The calls that change something stand last, so that what was there before
        shows in their answers.
        """
        looks = [("get_log",), ("permit_status",), ("candidates",), ("honest_belief",),
                 ("next_harm_probability",), ("worst_candidate",)]
        for policy in range(6):
            looks += [("get_policy", policy), ("belief", policy),
                      ("policy_detection_probability", policy, 1)]
        looks += [("suspects", signal) for signal in range(5)]
        looks += [("set_prior", 0, 1), ("set_stakes", 7, 7)]
        shares = []
        undone = [("undo_record",)] * 16 + [("remove_policy", 0)] * 6
        for signal in range(5):
            shares += self.peek(*undone, ("add_policy", 1 << signal, 1),
                                ("policy_detection_probability", 0, 1),
                                ("worst_candidate",))[len(undone):]
        return self.peek(*looks), shares


def started(signal_count, *calls):
    """A request with a new monitor that has a setting."""
    return Request(("reset",), ("create_setting", signal_count), *calls)


def with_policies(signal_count, *policies):
    """A started request with these policies: tuples of a cheat set and a weight."""
    return started(signal_count, *[("add_policy", cheat_set, weight) for cheat_set, weight in policies])


def assert_refused(case, request, code, *call):
    """The call is answered by the code alone, and changes nothing that can be seen."""
    before = request.seen()
    case.assertEqual(request.ask(*call), [code], call)
    case.assertEqual(request.seen(), before, call)


def random_calls(dice, count):
    """A started request with so many more calls, most of which succeed."""
    signal_count = dice.choice((1, 2, 2, 3, 3, 4, 5))
    calls = [("reset",), ("create_setting", signal_count)]

    def weights():
        return [dice.choice((0, 1, 2, 3, 99)) for signal in range(signal_count)]

    def fraction():
        den = dice.choice((1, 2, 3, 4, 10, 99))
        return dice.randint(0, den), den

    def policy():
        return dice.choice((0, 0, 1, 2, 3, 5, 6))

    def signal():
        return dice.choice((0, dice.randint(0, signal_count - 1), dice.randint(0, signal_count)))

    def adding():
        return ("add_policy", dice.randint(0, 2 ** signal_count - 1), dice.choice((1, 2, 3, 99, 100)))

    makers = {
        "add_rational_policy": lambda: (dice.choice((0, 1, 7, 99)),),
        "remove_policy": lambda: (policy(),),
        "record_test": lambda: (signal(), dice.choice((0, 0, 0, 1, 1, 2))),
        "record_production": lambda: (signal(),),
        "undo_record": tuple, "revoke_permit": tuple,
        "permit": fraction, "set_prior": fraction,
        "set_test_weights": lambda: (weights(),), "set_production_weights": lambda: (weights(),),
        "set_stakes": lambda: (dice.choice((0, 1, 5, 999, 1000)), dice.choice((0, 1, 4, 999))),
        "get_policy": lambda: (policy(),), "get_log": tuple, "candidates": tuple,
        "belief": lambda: (policy(),), "honest_belief": tuple, "suspects": lambda: (signal(),),
        "next_harm_probability": tuple, "worst_candidate": tuple, "permit_status": tuple,
        "is_detectable": lambda: (policy(),), "tests_needed": fraction,
        "policy_detection_probability": lambda: (policy(), dice.randint(0, 13)),
        "are_distinguishable": lambda: (policy(), policy()),
    }
    often = ["record_test"] * 12 + ["record_production"] * 12 + ["permit"] * 5 + list(makers)
    rarely = ("set_test_weights", "set_production_weights")
    for name in rarely:
        if dice.random() < 0.5:
            calls.append((name, weights()))
    calls += [adding() for turn in range(dice.randint(1, 6))]
    while len(calls) < count + 2:
        name = dice.choice(often + ["add_policy"])
        calls.append(adding() if name == "add_policy" else (name,) + makers[name]())
    return calls
