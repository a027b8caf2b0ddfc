"""Settings that change while policies, a log and a permit are there."""

import unittest

from helper import assert_refused, started, with_policies

BELIEFS = (("belief", 0), ("belief", 1), ("belief", 2))


def at_work():
    """Three policies, of which a test has ruled one out, with a permit and a log of two entries."""
    request = with_policies(3, (0, 2), (2, 1), (4, 1))
    request.ask("set_production_weights", [2, 1, 1])
    request.ask("record_test", 2, 0)
    request.ask("permit", 1, 12)
    request.ask("record_production", 1)
    return request


def with_permit(signal_count, num, den, *policies):
    request = with_policies(signal_count, *policies)
    request.ask("permit", num, den)
    return request


class BehindALog(unittest.TestCase):
    def test_as_it_is(self):
        request = at_work()
        self.assertEqual(request.peek(*BELIEFS), [[0, 2, 3], [0, 1, 3], [0, 0, 1]])
        self.assertEqual(request.peek(("next_harm_probability",), ("permit_status",), ("counts",),
                                      ("record_production", 0)),
                         [[0, 1, 12], [1, 1, 12], [3, 1, 0, 1], [0]])

    def test_more_harm_than_the_permit_lets(self):
        request = at_work()
        self.assertEqual(request.ask("set_production_weights", [1, 1, 1]), [3])
        self.assertEqual(request.peek(*BELIEFS), [[0, 2, 3], [0, 1, 3], [0, 0, 1]])
        self.assertEqual(request.peek(("next_harm_probability",), ("permit_status",)), [[0, 1, 9], [0, 1, 12]])
        assert_refused(self, request, -30, "record_production", 0)
        assert_refused(self, request, -30, "permit", 1, 10)
        request.ask("set_production_weights", [3, 1, 1])
        self.assertEqual(request.peek(("next_harm_probability",), ("permit_status",), ("record_production", 1)),
                         [[0, 1, 15], [1, 1, 12], [1]])

    def test_a_signal_that_no_longer_appears_in_production(self):
        request = at_work()
        request.ask("set_production_weights", [1, 0, 1])
        self.assertEqual(request.peek(("next_harm_probability",), ("permit_status",), ("get_log",)),
                         [[0, 0, 1], [1, 1, 12], [2, 0, 2, 2, 1]])
        assert_refused(self, request, -22, "record_production", 1)
        self.assertEqual(request.ask("record_production", 2), [0])

    def test_prior_stakes_and_prices_change_no_belief(self):
        request = at_work()
        looks = BELIEFS + (("next_harm_probability",), ("permit_status",), ("candidates",), ("get_log",),
                           ("worst_candidate",), ("tests_needed", 1, 2), ("record_production", 1))
        before = request.peek(*looks)
        for change in (("set_prior", 0, 1), ("set_prior", 1, 1), ("set_stakes", 999, 0), ("set_stakes", 0, 999),
                       ("set_prices", 999, 0), ("set_prices", 0, 0)):
            self.assertEqual(request.ask(*change)[0], 0)
            self.assertEqual(request.peek(*looks), before, change)

    def test_test_weights_and_merges_wait_for_an_empty_log(self):
        request = at_work()
        assert_refused(self, request, -16, "set_test_weights", [1, 1, 0])
        assert_refused(self, request, -16, "merge_signals", [0, 1, 1])
        request.ask("undo_record")
        assert_refused(self, request, -16, "merge_signals", [0, 1, 1])
        request.ask("undo_record")
        self.assertEqual(request.ask("set_test_weights", [1, 1, 0]), [2])

    def test_a_rational_policy_waits_for_an_empty_log(self):
        request = at_work()
        request.ask("set_stakes", 2, 2)
        assert_refused(self, request, -16, "add_rational_policy", 5)
        request.ask("undo_record")
        request.ask("undo_record")
        self.assertEqual(request.peek(("add_rational_policy", 5), ("get_policy", 3)), [[3], [1, 5]])


class WithAnEmptyLog(unittest.TestCase):
    def test_rational_policies_of_settings_that_change(self):
        request = started(3, ("add_rational_policy", 1))
        for change, answer in ((("set_stakes", 2, 1), [1]), (("set_production_weights", [1, 1, 4]), [2]),
                               (("set_prior", 2, 5), [-17]), (("set_stakes", 3, 1), [-17]),
                               (("set_test_weights", [1, 9, 1]), [3]), (("merge_signals", [1, 1, 2]), [4]),
                               (("merge_signals", [1, 1, 1]), [5]), (("set_prior", 1, 1), [-17])):
            request.ask(*change)
            self.assertEqual(request.ask("add_rational_policy", 9), answer, change)
        found = request.peek(*[("get_policy", index) for index in range(6)])
        self.assertEqual(found, [[0, 1], [7, 9], [4, 9], [5, 9], [6, 9], [2, 9]])

    def test_a_merge_changes_harm_and_detection_but_no_policy(self):
        request = with_permit(3, 5, 12, (0, 1), (1, 1), (6, 2))
        self.assertEqual(request.ask("permit_status"), [1, 5, 12])
        request.ask("merge_signals", [1, 1, 2])
        self.assertEqual(request.peek(("get_policy", 1), ("get_policy", 2), ("belief", 2)),
                         [[1, 1], [6, 2], [0, 1, 2]])
        self.assertEqual(request.peek(("next_harm_probability",), ("permit_status",), ("worst_candidate",)),
                         [[0, 1, 2], [0, 5, 12], [2, 1, 1]])
        self.assertEqual(request.peek(("is_detectable", 1), ("are_distinguishable", 0, 1),
                                      ("policy_detection_probability", 2, 1)), [[0], [0], [0, 1, 1]])
        assert_refused(self, request, -30, "record_production", 1)
        assert_refused(self, request, -22, "record_production", 0)
        assert_refused(self, request, -22, "record_test", 0, 0)
        assert_refused(self, request, -22, "candidates_after_test", 0, 0)

    def test_a_merge_that_lowers_the_harm(self):
        request = with_permit(2, 1, 4, (0, 1), (1, 1))
        request.ask("set_production_weights", [2, 1])
        self.assertEqual(request.ask("permit_status"), [0, 1, 4])
        request.ask("merge_signals", [1, 1])
        self.assertEqual(request.peek(("permit_status",), ("next_harm_probability",), ("record_production", 1)),
                         [[1, 1, 4], [0, 0, 1], [0]])

    def test_test_weights_change_what_tests_tell(self):
        request = with_permit(2, 1, 4, (0, 1), (1, 1))
        self.assertEqual(request.peek(("are_distinguishable", 0, 1), ("tests_needed", 3, 4)), [[1], [2]])
        request.ask("set_test_weights", [0, 1])
        self.assertEqual(request.peek(("are_distinguishable", 0, 1), ("tests_needed", 3, 4), ("is_detectable", 1)),
                         [[0], [-33], [0]])
        self.assertEqual(request.peek(("permit_status",), ("next_harm_probability",)), [[1, 1, 4], [0, 1, 4]])
        assert_refused(self, request, -22, "record_test", 0, 1)

    def test_numbers_past_64_bits_with_merged_weights(self):
        request = with_policies(5, (8, 1))
        request.ask("set_test_weights", [99, 99, 99, 99, 98])
        request.ask("merge_signals", [3, 1, 1, 3, 4])
        self.assertEqual(request.ask("policy_detection_probability", 0, 1), [0, 99, 247])
        self.assertEqual(request.ask("policy_detection_probability", 0, 12),
                         [0, 247 ** 12 - 148 ** 12, 247 ** 12])
        self.assertGreater(247 ** 12 - 148 ** 12, 2 ** 64)


if __name__ == "__main__":
    unittest.main()
