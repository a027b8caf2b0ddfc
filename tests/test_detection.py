"""is_detectable, policy_detection_probability, tests_needed and are_distinguishable."""

import unittest

from helper import HUGE, assert_refused, started, with_policies


def with_detection(test_weights, *policies):
    request = with_policies(len(test_weights), *policies)
    request.ask("set_test_weights", test_weights)
    return request


class IsDetectable(unittest.TestCase):
    def test_it_cheats_where_tests_can_see_it(self):
        request = with_detection([1, 0, 5], (0, 1), (1, 1), (2, 1), (3, 1), (4, 1))
        request.ask("set_production_weights", [0, 1, 0])
        self.assertEqual(request.peek(*[("is_detectable", index) for index in range(5)]),
                         [[0], [1], [0], [1], [1]])

    def test_a_policy_that_is_no_candidate(self):
        request = with_policies(2, (0, 1), (1, 1))
        request.ask("record_test", 0, 0)
        self.assertEqual(request.ask("is_detectable", 1), [1])

    def test_no_such_policy(self):
        assert_refused(self, started(2), -2, "is_detectable", 0)
        for index in (1, HUGE):
            assert_refused(self, with_policies(2, (0, 1)), -2, "is_detectable", index)


class PolicyDetectionProbability(unittest.TestCase):
    def test_one_test_and_several(self):
        request = with_detection([1, 2], (1, 1))
        self.assertEqual(request.peek(*[("policy_detection_probability", 0, tests) for tests in range(4)]),
                         [[0, 0, 1], [0, 1, 3], [0, 5, 9], [0, 19, 27]])

    def test_never_and_always(self):
        request = with_detection([1, 0], (0, 1), (2, 1), (1, 1), (3, 1))
        for tests in (1, 2, 12):
            self.assertEqual(request.peek(*[("policy_detection_probability", index, tests)
                                            for index in range(4)]),
                             [[0, 0, 1], [0, 0, 1], [0, 1, 1], [0, 1, 1]])
        self.assertEqual(request.peek(*[("policy_detection_probability", index, 0) for index in range(4)]),
                         [[0, 0, 1]] * 4)

    def test_lowest_terms(self):
        request = with_detection([2, 2, 4], (3, 1), (4, 1))
        self.assertEqual(request.peek(("policy_detection_probability", 0, 1),
                                      ("policy_detection_probability", 1, 2)), [[0, 1, 2], [0, 3, 4]])

    def test_numbers_past_64_bits(self):
        request = with_detection([1, 99, 99, 99, 99], (1, 1), (30, 1))
        self.assertEqual(request.ask("policy_detection_probability", 0, 12),
                         [0, 397 ** 12 - 396 ** 12, 397 ** 12])
        self.assertEqual(request.ask("policy_detection_probability", 1, 12),
                         [0, 15328020803120684935518067665840, 15328020803120684935518067665841])

    def test_what_is_recorded_does_not_matter(self):
        request = with_policies(2, (0, 1), (1, 1))
        request.ask("record_test", 0, 0)
        self.assertEqual(request.ask("policy_detection_probability", 1, 2), [0, 3, 4])

    def test_errors_in_their_order(self):
        request = with_policies(2, (0, 1), (1, 1))
        for tests in (13, HUGE):
            assert_refused(self, request, -22, "policy_detection_probability", 1, tests)
            assert_refused(self, request, -2, "policy_detection_probability", 2, tests)
        assert_refused(self, request, -2, "policy_detection_probability", 2, 12)
        assert_refused(self, request, -2, "policy_detection_probability", HUGE, 0)
        assert_refused(self, started(2), -2, "policy_detection_probability", 0, 0)


class TestsNeeded(unittest.TestCase):
    def test_the_smallest_number(self):
        request = with_detection([1, 1], (1, 1), (0, 1))
        for num, den, tests in ((0, 1, 0), (1, 99, 1), (1, 2, 1), (50, 99, 2), (3, 4, 2), (72, 96, 2),
                                (76, 99, 3), (7, 8, 3), (98, 99, 7)):
            self.assertEqual(request.ask("tests_needed", num, den), [tests], (num, den))

    def test_every_candidate_must_be_detected(self):
        request = with_detection([1, 3, 4], (1, 1), (4, 1), (6, 1))
        self.assertEqual(request.ask("tests_needed", 1, 2), [6])
        request.ask("record_test", 0, 0)
        self.assertEqual(request.ask("tests_needed", 1, 2), [1])
        self.assertEqual(request.ask("tests_needed", 3, 4), [2])
        request.ask("record_test", 1, 1)
        self.assertEqual(request.ask("tests_needed", 3, 4), [1])

    def test_twelve_are_enough_or_not(self):
        request = with_detection([1, 4], (1, 1))
        # 4 / 5 to the twelfth is between 6 / 99 and 7 / 99, to the eleventh it is above 8 / 99.
        self.assertEqual(request.ask("tests_needed", 92, 99), [12])
        assert_refused(self, request, -33, "tests_needed", 93, 99)

    def test_certainty(self):
        self.assertEqual(with_detection([1, 0], (1, 1), (3, 1)).ask("tests_needed", 1, 1), [1])
        self.assertEqual(with_detection([1, 0], (1, 1), (3, 1)).ask("tests_needed", 99, 99), [1])
        assert_refused(self, with_detection([98, 1], (1, 1)), -33, "tests_needed", 1, 1)

    def test_a_policy_that_no_test_detects(self):
        request = with_detection([1, 0], (1, 1), (2, 1))
        self.assertEqual(request.ask("tests_needed", 0, 99), [0])
        assert_refused(self, request, -33, "tests_needed", 1, 99)

    def test_nobody_to_detect(self):
        self.assertEqual(started(2).ask("tests_needed", 1, 1), [0])
        self.assertEqual(with_policies(2, (0, 1)).ask("tests_needed", 1, 1), [0])
        request = with_policies(2, (0, 1), (1, 1))
        request.ask("record_test", 0, 0)
        self.assertEqual(request.ask("tests_needed", 1, 1), [0])

    def test_wrong_fractions(self):
        request = with_detection([1, 0], (2, 1))
        for num, den in ((0, 0), (1, 0), (0, 100), (1, HUGE), (2, 1), (99, 98), (HUGE, 99)):
            assert_refused(self, request, -22, "tests_needed", num, den)
            assert_refused(self, started(2), -22, "tests_needed", num, den)


class AreDistinguishable(unittest.TestCase):
    def test_a_signal_that_tests_show_tells_them_apart(self):
        request = with_detection([1, 0, 1], (0, 1), (1, 1), (2, 1), (3, 1), (7, 1))
        expected = {(0, 1): 1, (0, 2): 0, (0, 3): 1, (0, 4): 1, (1, 2): 1, (1, 3): 0, (1, 4): 1,
                    (2, 3): 1, (2, 4): 1, (3, 4): 1}
        for pair, result in expected.items():
            self.assertEqual(request.ask("are_distinguishable", pair[0], pair[1]), [result], pair)
            self.assertEqual(request.ask("are_distinguishable", pair[1], pair[0]), [result], pair)

    def test_a_policy_and_itself(self):
        request = with_policies(2, (0, 1), (3, 1))
        self.assertEqual(request.peek(("are_distinguishable", 0, 0), ("are_distinguishable", 1, 1)),
                         [[0], [0]])

    def test_production_does_not_matter(self):
        request = with_detection([1, 0], (0, 1), (1, 1), (2, 1))
        request.ask("set_production_weights", [0, 1])
        self.assertEqual(request.peek(("are_distinguishable", 0, 1), ("are_distinguishable", 0, 2)),
                         [[1], [0]])

    def test_no_such_policy(self):
        request = with_policies(2, (0, 1), (3, 1))
        for first, second in ((0, 2), (2, 0), (2, 2), (HUGE, 1), (1, HUGE)):
            assert_refused(self, request, -2, "are_distinguishable", first, second)
        assert_refused(self, started(2), -2, "are_distinguishable", 0, 0)


if __name__ == "__main__":
    unittest.main()
