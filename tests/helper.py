"""What the tests share: requests written with the names of the calls."""

from policywatch.monitor import answers

NUMBERS = {
    "reset": 0, "add_policy": 1, "add_rational_policy": 2, "remove_policy": 3,
    "get_policy": 4, "record_test": 5, "record_production": 6, "undo_record": 7,
    "get_log": 8, "candidates": 9, "belief": 10, "honest_belief": 11, "suspects": 12,
    "next_harm_probability": 13, "worst_candidate": 14, "is_detectable": 15,
    "policy_detection_probability": 16, "tests_needed": 17, "are_distinguishable": 18,
    "permit": 19, "revoke_permit": 20, "permit_status": 21, "candidates_after_test": 22,
    "counts": 23, "create_setting": 24, "set_test_weights": 25, "set_production_weights": 26,
    "set_prior": 27, "set_stakes": 28, "set_prices": 29, "cheating_value": 30,
    "cheating_signals": 31, "expected_profit": 32, "detection_probability": 33,
    "harm_probability": 34, "total_cost": 35, "deterrent_prior_at": 36, "deterrent_prior": 37,
    "preview_merge": 38, "merge_signals": 39, "cheapest_prior": 40,
    "cheating_signals_for_prior": 41, "cheating_signals_for_stakes": 42, "get_settings": 43,
}

HUGE = 4294967295


def flat(calls):
    """The calls, tuples of a name and what is given, as the one list of the interface."""
    numbers = []
    for call in calls:
        numbers.append(NUMBERS[call[0]])
        for given in call[1:]:
            if isinstance(given, list):
                numbers.append(len(given))
                numbers.extend(given)
            else:
                numbers.append(given)
    return numbers


def split(numbers):
    """The answers as lists, one for each call."""
    found = []
    place = 0
    while place < len(numbers):
        count = numbers[place]
        answer = numbers[place + 1:place + 1 + count]
        if count < 1 or len(answer) != count:
            raise ValueError(f"not an answer at {place}: {numbers}")
        found.append(answer)
        place += 1 + count
    return found


def replies(calls):
    """The answers to a request of at most 80 calls, one list for each call."""
    if len(calls) > 80:
        raise ValueError(f"{len(calls)} calls are more than a request has")
    found = split(answers(flat(calls)))
    if len(found) != len(calls):
        raise ValueError(f"{len(calls)} calls, {len(found)} answers")
    return found


class Request:
    """A request that grows call by call, each answered behind all that came before it."""

    def __init__(self, *calls):
        self.calls = list(calls)

    def ask(self, *call):
        self.calls.append(call)
        return replies(self.calls)[-1]

    def peek(self, *calls):
        """What these calls would be answered by; the request itself doesn't grow."""
        return replies(self.calls + list(calls))[len(self.calls):]

    def seen(self):
        """All that the calls can show of the state: twice the same if nothing changed."""
        looks = [("get_settings",), ("counts",), ("get_log",), ("permit_status",), ("candidates",),
                 ("honest_belief",), ("next_harm_probability",), ("worst_candidate",),
                 ("cheating_signals",), ("expected_profit",), ("total_cost",), ("cheapest_prior",)]
        for policy in range(6):
            looks += [("get_policy", policy), ("belief", policy)]
        return self.peek(*looks)


def started(signal_count, *calls):
    """A request with a new monitor that has a setting."""
    return Request(("reset",), ("create_setting", signal_count), *calls)


def with_policies(signal_count, *policies):
    """A started request with these policies: tuples of a cheat set and a weight."""
    return started(signal_count, *[("add_policy", cheat_set, weight) for cheat_set, weight in policies])


def assert_refused(case, request, code, *call):
    """The call is answered by the code alone, and changes nothing that can be seen."""
    before = request.seen()
    case.assertEqual(request.ask(*call), [code], call)
    case.assertEqual(request.seen(), before, call)


def assert_only_looks(case, request, answer, *call):
    """The call is answered so, twice, and changes nothing that can be seen."""
    before = request.seen()
    case.assertEqual(request.ask(*call), answer, call)
    case.assertEqual(request.seen(), before, call)
    case.assertEqual(request.ask(*call), answer, call)


class Drawer:
    """Draws calls of all kinds, of which most succeed."""

    def __init__(self, dice):
        self.dice = dice
        self.signal_count = 2

    def some_signals(self, length):
        return [self.dice.randint(0, self.signal_count - 1) for place in range(length)]

    def wrong_length(self):
        return self.dice.choice((0, self.signal_count - 1, self.signal_count + 1, 8))

    def weights(self):
        length = self.signal_count if self.dice.random() < 0.9 else self.wrong_length()
        tops = (0, 1, 2, 3, 99, 100) if self.dice.random() < 0.1 else (0, 1, 2, 3, 99)
        return [self.dice.choice(tops) for place in range(length)]

    def mapping(self):
        drawn = self.dice.random()
        if drawn < 0.1:
            return self.some_signals(self.wrong_length())
        found = self.some_signals(self.signal_count)
        if drawn < 0.2:
            found[self.dice.randint(0, self.signal_count - 1)] = self.dice.choice((self.signal_count, HUGE))
        if drawn > 0.9:
            return [found[0]] * self.signal_count
        return list(range(self.signal_count)) if drawn > 0.8 else found

    def fraction(self):
        if self.dice.random() < 0.1:
            return self.dice.choice(((0, 0), (1, 100), (3, 2), (HUGE, 99)))
        den = self.dice.choice((1, 2, 3, 4, 10, 99))
        return self.dice.randint(0, den), den

    def stake(self):
        return self.dice.choice((0, 1, 2, 5, 998, 999, 1000 if self.dice.random() < 0.3 else 3))

    def policy(self):
        return self.dice.choice((0, 0, 1, 2, 3, 5, 6))

    def signal(self):
        return self.dice.choice((0, self.dice.randint(0, self.signal_count - 1),
                                 self.dice.randint(0, self.signal_count)))

    def test(self):
        return self.signal(), self.dice.choice((0, 0, 0, 1, 1, 2))

    def given(self, name):
        """What is given to a call of this name."""
        makers = {
            "add_policy": lambda: (self.dice.randint(0, 2 ** self.signal_count - self.dice.choice((0, 1, 1))),
                                   self.dice.choice((1, 2, 3, 99, 99, 100))),
            "add_rational_policy": lambda: (self.dice.choice((0, 1, 7, 99)),),
            "record_test": self.test, "candidates_after_test": self.test,
            "create_setting": lambda: (self.dice.choice((0, 1, 2, 3, 6)),),
            "policy_detection_probability": lambda: (self.policy(), self.dice.randint(0, 13)),
            "are_distinguishable": lambda: (self.policy(), self.policy()),
            "set_test_weights": lambda: (self.weights(),), "set_production_weights": lambda: (self.weights(),),
            "preview_merge": lambda: (self.mapping(),), "merge_signals": lambda: (self.mapping(),),
        }
        for one in ("remove_policy", "get_policy", "belief", "is_detectable"):
            makers[one] = lambda: (self.policy(),)
        for one in ("record_production", "suspects", "cheating_value", "deterrent_prior_at"):
            makers[one] = lambda: (self.signal(),)
        for one in ("tests_needed", "permit", "set_prior", "cheating_signals_for_prior"):
            makers[one] = self.fraction
        for one in ("set_stakes", "set_prices", "cheating_signals_for_stakes"):
            makers[one] = lambda: (self.stake(), self.stake())
        return makers.get(name, tuple)()

    def call(self, *names):
        """A call of one of these names, or of any but reset."""
        name = self.dice.choice(names or list(NUMBERS)[1:])
        return (name,) + self.given(name)

    def beginning(self):
        """The calls that make a monitor, and give it a setting and policies."""
        calls = [("reset",)]
        if self.dice.random() < 0.3:
            calls.append(self.call())
        if calls[-1][0] != "create_setting" or not 1 <= calls[-1][1] <= 5:
            self.signal_count = self.dice.choice((1, 2, 2, 3, 3, 4, 5))
            calls.append(("create_setting", self.signal_count))
        else:
            self.signal_count = calls[-1][1]
        for name in ("set_test_weights", "set_production_weights", "set_stakes", "set_prior"):
            if self.dice.random() < 0.4:
                calls.append(self.call(name))
        return calls + [self.call("add_policy") for turn in range(self.dice.randint(1, 8))]


OFTEN = ["record_test"] * 16 + ["record_production"] * 16 + ["permit"] * 6


def random_calls(dice, count):
    """A request of so many calls of all kinds, most of which succeed."""
    drawer = Drawer(dice)
    calls = [drawer.call()] if dice.random() < 0.2 else []
    calls += drawer.beginning()
    while len(calls) < count:
        if dice.random() < 0.008:
            calls += drawer.beginning()
        calls.append(drawer.call(*OFTEN, *list(NUMBERS)[1:]))
    return calls[:count]
