"""The flat form of the interface, the calls ahead of a setting, and what is kept."""

import unittest

from helper import HUGE, NUMBERS, Request, answers, assert_refused, flat, replies, split, started

EXAMPLE = [
    (("reset",), [0]),
    (("create_setting", 2), [0]),
    (("set_test_weights", [1, 0]), [1]),
    (("add_policy", 0, 1), [0]),
    (("add_policy", 2, 1), [1]),
    (("add_policy", 1, 2), [2]),
    (("record_test", 0, 0), [2]),
    (("candidates",), [2, 0, 1]),
    (("belief", 1), [0, 1, 2]),
    (("next_harm_probability",), [0, 1, 4]),
    (("are_distinguishable", 0, 1), [0]),
    (("permit", 1, 4), [0, 0, 0]),
    (("record_production", 1), [1]),
    (("record_test", 1, 0), [-22]),
]

# Every call of the interface, with arguments of its form.
ALL_CALLS = {
    0: [], 1: [0, 1], 2: [1], 3: [0], 4: [0], 5: [0, 0], 6: [0], 7: [], 8: [], 9: [],
    10: [0], 11: [], 12: [0], 13: [], 14: [], 15: [0], 16: [0, 1], 17: [1, 2], 18: [0, 0],
    19: [1, 1], 20: [], 21: [], 22: [0, 0], 23: [], 24: [2], 25: [2, 1, 1], 26: [2, 1, 1],
    27: [1, 2], 28: [1, 1], 29: [1, 1], 30: [0], 31: [], 32: [], 33: [], 34: [], 35: [],
    36: [0], 37: [], 38: [2, 0, 1], 39: [2, 0, 1], 40: [], 41: [1, 2], 42: [1, 1], 43: [],
}


class FlatForm(unittest.TestCase):
    def test_the_documents_example(self):
        self.assertEqual(replies([call for call, answer in EXAMPLE]), [answer for call, answer in EXAMPLE])

    def test_the_documents_example_number_by_number(self):
        calls = [0, 24, 2, 25, 2, 1, 0, 1, 0, 1, 1, 2, 1, 1, 1, 2, 5, 0, 0, 9, 10, 1, 13, 18, 0, 1,
                 19, 1, 4, 6, 1, 5, 1, 0]
        self.assertEqual(answers(calls), [
            1, 0, 1, 0, 1, 1, 1, 0, 1, 1, 1, 2, 1, 2, 3, 2, 0, 1, 3, 0, 1, 2, 3, 0, 1, 4, 1, 0,
            3, 0, 0, 0, 1, 1, 1, -22])

    def test_how_many_numbers_each_call_is_answered_by(self):
        request = started(2, ("add_policy", 0, 1), ("add_policy", 1, 1), ("permit", 1, 1))
        request.ask("record_test", 0, 0)
        request.ask("record_production", 1)
        shapes = [
            (("get_policy", 1), 2), (("get_log",), 5), (("candidates",), 2), (("belief", 0), 3),
            (("honest_belief",), 3), (("suspects", 0), 1), (("next_harm_probability",), 3),
            (("worst_candidate",), 3), (("is_detectable", 0), 1),
            (("policy_detection_probability", 1, 3), 3), (("tests_needed", 1, 2), 1),
            (("are_distinguishable", 0, 1), 1), (("permit", 1, 1), 3), (("permit_status",), 3),
            (("candidates_after_test", 0, 0), 2), (("counts",), 4), (("set_prior", 1, 2), 3),
            (("set_stakes", 2, 1), 3), (("set_prices", 1, 1), 3), (("cheating_value", 0), 3),
            (("cheating_signals",), 3), (("expected_profit",), 3), (("detection_probability",), 3),
            (("harm_probability",), 3), (("total_cost",), 3), (("deterrent_prior_at", 0), 3),
            (("deterrent_prior",), 3), (("preview_merge", [0, 0]), 5), (("cheapest_prior",), 5),
            (("cheating_signals_for_prior", 0, 1), 3), (("cheating_signals_for_stakes", 1, 1), 1),
            (("get_settings",), 11), (("revoke_permit",), 3),
            (("set_production_weights", [1, 1]), 1), (("undo_record",), 2), (("undo_record",), 2),
            (("remove_policy", 0), 1), (("add_rational_policy", 1), 1), (("set_test_weights", [1, 1]), 1),
            (("merge_signals", [0, 0]), 2), (("reset",), 1), (("create_setting", 5), 1),
            (("get_settings",), 17),
        ]
        found = request.peek(*[call for call, count in shapes])
        self.assertEqual([len(answer) for answer in found], [count for call, count in shapes])

    def test_a_refusal_is_its_code_alone(self):
        self.assertEqual(answers([0, 24, 2, 10, 0, 19, 1, 0, 20, 14]),
                         [1, 0, 1, 0, 1, -2, 1, -22, 1, -6, 1, -33])

    def test_lists_are_passed_over_by_their_length(self):
        for row in ([], [1], [1, 1], [0, 0, 0], [HUGE] * 8):
            good = len(row) == 2
            for name, answer in (("set_test_weights", [2]), ("set_production_weights", [2]),
                                 ("preview_merge", [0, 1, 2, 0, 1]), ("merge_signals", [0])):
                self.assertEqual(replies([("reset",), ("create_setting", 2), (name, row), ("get_log",)]),
                                 [[0], [0], answer if good else [-22], [0]], (name, row))

    def test_every_call_is_answered_behind_a_setting(self):
        self.assertEqual(sorted(ALL_CALLS), sorted(NUMBERS.values()))
        for number, given in ALL_CALLS.items():
            if number not in (0, 24):
                with self.subTest(number=number):
                    found = split(answers([0, 24, 2, number] + given + [8]))
                    self.assertEqual(len(found), 4)
                    self.assertNotIn(found[2][0], (-11, -22))
                    self.assertEqual(found[3], [0])

    def test_eighty_calls(self):
        self.assertEqual(answers([0, 24, 1] + [8] * 78), [1, 0] * 80)


class AheadOfASetting(unittest.TestCase):
    def test_every_call_ahead_of_the_first_reset(self):
        for number, given in ALL_CALLS.items():
            if number != 0:
                with self.subTest(number=number):
                    self.assertEqual(answers([number] + given + [0, 24, 2, 8]),
                                     [1, -11, 1, 0, 1, 0, 1, 0])

    def test_every_call_ahead_of_a_setting(self):
        for number, given in ALL_CALLS.items():
            if number not in (0, 24):
                with self.subTest(number=number):
                    self.assertEqual(answers([0, number] + given + [24, 2, 8]),
                                     [1, 0, 1, -11, 1, 0, 1, 0])

    def test_this_check_comes_before_all_others(self):
        wrong = [("add_policy", HUGE, HUGE), ("get_policy", HUGE), ("record_test", HUGE, HUGE),
                 ("tests_needed", 1, 0), ("permit", 1, 0), ("set_test_weights", []), ("set_prior", 1, 0),
                 ("create_setting", 0), ("revoke_permit",), ("undo_record",), ("merge_signals", []),
                 ("preview_merge", [HUGE] * 8), ("candidates_after_test", HUGE, HUGE), ("set_prices", HUGE, 0),
                 ("cheating_value", HUGE), ("deterrent_prior_at", HUGE), ("cheating_signals_for_prior", 1, 0),
                 ("cheating_signals_for_stakes", HUGE, HUGE)]
        self.assertEqual(replies(wrong), [[-11]] * len(wrong))
        behind = [call for call in wrong if call[0] != "create_setting"]
        self.assertEqual(replies([("reset",)] + behind), [[0]] + [[-11]] * len(behind))

    def test_a_create_setting_that_fails_makes_no_setting(self):
        for signal_count in (0, 6, HUGE):
            self.assertEqual(replies([("reset",), ("create_setting", signal_count), ("candidates",),
                                      ("create_setting", 1), ("candidates",)]),
                             [[0], [-22], [-11], [0], [0]])

    def test_calls_refused_ahead_of_a_setting_leave_nothing(self):
        request = Request(("add_policy", 0, 1), ("set_prior", 1, 3), ("create_setting", 3), ("reset",),
                          ("add_policy", 0, 1), ("set_stakes", 9, 9), ("create_setting", 2))
        self.assertEqual(request.seen(), started(2).seen())


class SeveralResets(unittest.TestCase):
    def test_a_reset_takes_setting_policies_log_and_permit(self):
        request = started(2, ("set_test_weights", [1, 3]), ("set_production_weights", [2, 5]),
                          ("set_prior", 1, 3), ("set_stakes", 4, 5), ("set_prices", 6, 7), ("add_policy", 1, 7),
                          ("permit", 1, 1), ("record_test", 0, 1), ("record_production", 1))
        self.assertEqual(request.ask("reset"), [0])
        self.assertEqual(request.peek(("candidates",), ("get_log",), ("permit_status",), ("get_settings",)),
                         [[-11]] * 4)
        self.assertEqual(request.ask("create_setting", 2), [0])
        self.assertEqual(request.seen(), started(2).seen())

    def test_a_reset_behind_a_reset(self):
        self.assertEqual(replies([("reset",), ("reset",), ("create_setting", 1), ("reset",), ("reset",),
                                  ("create_setting", 5), ("create_setting", 5)]),
                         [[0], [0], [0], [0], [0], [0], [-13]])

    def test_each_monitor_has_its_own_number_of_signals(self):
        self.assertEqual(replies([("reset",), ("create_setting", 1), ("add_policy", 2, 1), ("reset",),
                                  ("create_setting", 2), ("add_policy", 2, 1)]),
                         [[0], [0], [-22], [0], [0], [0]])


class NothingIsKept(unittest.TestCase):
    def test_the_list_handed_in_is_not_changed(self):
        calls = flat([call for call, answer in EXAMPLE]
                     + [("set_production_weights", [4, 6]), ("set_production_weights", [1] * 8),
                        ("undo_record",), ("undo_record",), ("preview_merge", [1, 1]), ("merge_signals", [1, 1]),
                        ("set_test_weights", [3, 4]), ("merge_signals", [1, 0]), ("get_settings",), ("reset",)])
        copy = list(calls)
        answers(calls)
        self.assertEqual(calls, copy)

    def test_a_later_request_is_as_the_first(self):
        calls = flat([call for call, answer in EXAMPLE])
        first = answers(calls)
        first.append(99)
        self.assertEqual(answers([8]), [1, -11])
        self.assertEqual(answers([0, 8]), [1, 0, 1, -11])
        self.assertEqual(answers(calls), first[:-1])

    def test_whole_numbers_are_never_true_or_false(self):
        request = Request(*[call for call, answer in EXAMPLE])
        looks = flat([("is_detectable", 1), ("are_distinguishable", 1, 2), ("permit_status",), ("honest_belief",)])
        for number, given in ALL_CALLS.items():
            if number != 0:
                looks += [number] + given
        found = answers(flat(request.calls) + looks)
        self.assertEqual({type(number) for number in found}, {int})


class CreateSetting(unittest.TestCase):
    def test_one_to_five_signals(self):
        for signal_count in range(1, 6):
            request = started(signal_count)
            self.assertEqual(request.peek(("suspects", signal_count - 1), ("suspects", signal_count)),
                             [[0], [-2]])
            self.assertEqual(request.peek(("set_test_weights", [2] * signal_count)), [[2 * signal_count]])

    def test_the_setting_as_it_is_made(self):
        request = started(4, ("add_policy", 1, 1), ("add_policy", 14, 1))
        self.assertEqual(request.peek(("policy_detection_probability", 0, 1), ("worst_candidate",)),
                         [[0, 1, 4], [1, 3, 4]])
        self.assertEqual(request.peek(("set_prior", 1, 3), ("set_stakes", 2, 3), ("set_prices", 4, 5)),
                         [[0, 1, 2], [0, 1, 1], [0, 1, 1]])
        self.assertEqual(request.ask("get_settings"), [4, 1, 2, 1, 1, 1, 1] + [1] * 8)
        self.assertEqual(started(4).peek(("candidates",), ("get_log",), ("permit_status",)),
                         [[0], [0], [0, 0, 0]])

    def test_a_second_setting_is_refused(self):
        request = started(2, ("add_policy", 1, 3), ("set_prior", 2, 7))
        for signal_count in (1, 2, 5, 0, 6, HUGE):
            assert_refused(self, request, -13, "create_setting", signal_count)

    def test_the_names_of_the_helper(self):
        self.assertEqual(sorted(NUMBERS.values()), list(range(44)))


if __name__ == "__main__":
    unittest.main()
