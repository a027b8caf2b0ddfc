"""preview_merge and merge_signals."""

import itertools
import unittest

from helper import HUGE, assert_only_looks, assert_refused, started, with_policies

WRONG_MAPPINGS = ([], [0], [0, 1], [0, 1, 2, 0], [0] * 8, [3, 0, 0], [0, 0, 3], [0, HUGE, 0], [HUGE] * 3)


def of_three(*calls):
    return started(3, ("set_test_weights", [1, 0, 2]), ("set_production_weights", [1, 3, 0]),
                   ("set_stakes", 3, 2), *calls)


def weights_in(request):
    """The test weights, then the production weights."""
    shown = request.peek(("get_settings",))[0]
    return [shown[7:7 + shown[0]], shown[7 + shown[0]:]]


class PreviewMerge(unittest.TestCase):
    def test_deterrent_prior_and_profit_behind_the_merge(self):
        request = of_three()
        assert_only_looks(self, request, [0, 9, 11, 7, 6], "preview_merge", [0, 0, 2])
        assert_only_looks(self, request, [0, 3, 5, 1, 2], "preview_merge", [1, 1, 1])
        assert_only_looks(self, request, [0, 27, 43, 1, 2], "preview_merge", [0, 2, 2])
        assert_only_looks(self, request, [0, 27, 43, 1, 2], "preview_merge", [1, 0, 0])

    def test_with_the_current_prior(self):
        request = of_three(("set_prior", 0, 1))
        assert_only_looks(self, request, [0, 3, 5, 3, 1], "preview_merge", [1, 1, 1])
        request.ask("set_prior", 3, 5)
        assert_only_looks(self, request, [0, 3, 5, 0, 1], "preview_merge", [1, 1, 1])
        request.ask("set_prior", 1, 1)
        assert_only_looks(self, request, [0, 9, 11, 0, 1], "preview_merge", [0, 0, 2])

    def test_the_deterrent_prior_would_not_exist(self):
        request = of_three()
        assert_refused(self, request, -33, "preview_merge", [0, 1, 2])
        assert_refused(self, request, -33, "preview_merge", [1, 2, 0])
        assert_refused(self, request, -33, "preview_merge", [0, 1, 0])
        assert_refused(self, of_three(("set_stakes", 3, 0)), -33, "preview_merge", [1, 1, 1])

    def test_it_counts_what_exists_behind_the_merge_and_not_ahead_of_it(self):
        request = of_three()
        self.assertEqual(request.ask("deterrent_prior"), [-33])
        self.assertEqual(request.ask("preview_merge", [0, 0, 2]), [0, 9, 11, 7, 6])

    def test_a_gain_of_zero(self):
        self.assertEqual(of_three(("set_stakes", 0, 0)).ask("preview_merge", [0, 1, 2]), [0, 0, 1, 0, 1])

    def test_the_identity(self):
        request = started(2, ("set_test_weights", [1, 3]), ("set_production_weights", [3, 1]))
        assert_only_looks(self, request, [0, 3, 4, 1, 4], "preview_merge", [0, 1])

    def test_the_log_may_hold_entries(self):
        request = with_policies(2, (0, 1))
        request.ask("record_test", 0, 0)
        assert_only_looks(self, request, [0, 1, 2, 0, 1], "preview_merge", [0, 0])

    def test_wrong_mappings(self):
        for mapping in WRONG_MAPPINGS:
            assert_refused(self, of_three(), -22, "preview_merge", mapping)
            # A wrong list is told ahead of a deterrent prior that wouldn't exist.
            assert_refused(self, of_three(("set_stakes", 3, 0)), -22, "preview_merge", mapping)

    def test_what_the_calls_answer_behind_the_merge(self):
        for mapping in itertools.product(range(3), repeat=3):
            request = of_three(("set_prior", 2, 5))
            merge, prior, profit = request.peek(("merge_signals", list(mapping)), ("deterrent_prior",),
                                                ("expected_profit",))
            expected = prior + profit[1:] if prior != [-33] else [-33]
            assert_only_looks(self, request, expected, "preview_merge", list(mapping))


class MergeSignals(unittest.TestCase):
    def test_the_signals_at_which_cheating_pays_afterwards(self):
        for mapping, answer, test, production in (
                ([0, 0, 2], [1, 0], [1, 0, 2], [4, 0, 0]),
                ([0, 2, 2], [2, 0, 2], [1, 0, 2], [1, 0, 3]),
                ([2, 2, 1], [1, 2], [0, 2, 1], [0, 0, 4])):
            request = of_three()
            self.assertEqual(request.ask("merge_signals", mapping), answer)
            self.assertEqual(weights_in(request), [test, production])
            self.assertEqual(request.ask("cheating_signals"), answer)

    def test_onto_one_signal(self):
        for target in range(3):
            request = of_three()
            self.assertEqual(request.ask("merge_signals", [target] * 3), [1, target])
            test, production = [0, 0, 0], [0, 0, 0]
            test[target], production[target] = 3, 4
            self.assertEqual(weights_in(request), [test, production])
        request = of_three(("set_stakes", 2, 2))
        self.assertEqual(request.ask("merge_signals", [0, 0, 0]), [0])

    def test_the_identity(self):
        request = of_three()
        assert_only_looks(self, request, [2, 0, 1], "merge_signals", [0, 1, 2])

    def test_signals_that_change_places(self):
        request = of_three()
        self.assertEqual(request.ask("merge_signals", [1, 2, 0]), [2, 1, 2])
        self.assertEqual(weights_in(request), [[2, 1, 0], [0, 1, 3]])
        self.assertEqual(request.ask("merge_signals", [1, 0, 2]), [2, 0, 2])
        self.assertEqual(weights_in(request), [[1, 2, 0], [1, 0, 3]])

    def test_a_chain_is_not_followed_to_its_end(self):
        request = of_three()
        self.assertEqual(request.ask("merge_signals", [1, 2, 2]), [2, 1, 2])
        self.assertEqual(weights_in(request), [[0, 1, 2], [0, 1, 3]])

    def test_signals_that_are_merged_already(self):
        request = of_three()
        request.ask("merge_signals", [0, 0, 2])
        self.assertEqual(request.ask("merge_signals", [2, 1, 2]), [1, 2])
        self.assertEqual(weights_in(request), [[0, 0, 3], [0, 0, 4]])
        # What was merged stays so: its two halves move together.
        self.assertEqual(request.ask("merge_signals", [0, 1, 0]), [1, 0])
        self.assertEqual(weights_in(request), [[3, 0, 0], [4, 0, 0]])

    def test_weights_past_99(self):
        request = started(5, ("set_test_weights", [99] * 5), ("set_production_weights", [99, 98, 97, 96, 95]))
        self.assertEqual(request.ask("merge_signals", [4] * 5), [0])
        self.assertEqual(weights_in(request), [[0, 0, 0, 0, 495], [0, 0, 0, 0, 485]])

    def test_the_rest_of_the_setting_stays(self):
        request = of_three(("set_prior", 4, 6), ("set_prices", 8, 9))
        request.ask("merge_signals", [0, 0, 0])
        self.assertEqual(request.ask("get_settings"), [3, 4, 6, 3, 2, 8, 9, 3, 0, 0, 4, 0, 0])

    def test_the_new_weights_can_be_replaced(self):
        request = of_three()
        request.ask("merge_signals", [0, 0, 0])
        self.assertEqual(request.ask("set_test_weights", [1, 2, 3]), [6])
        self.assertEqual(weights_in(request), [[1, 2, 3], [4, 0, 0]])

    def test_wrong_mappings(self):
        for mapping in WRONG_MAPPINGS:
            assert_refused(self, of_three(), -22, "merge_signals", mapping)

    def test_each_number_of_signals(self):
        for signal_count in range(1, 6):
            for name, answer in (("merge_signals", [0]), ("preview_merge", [0, 1, 2, 0, 1])):
                request = started(signal_count)
                for length in range(9):
                    if length != signal_count:
                        self.assertEqual(request.peek((name, [0] * length)), [[-22]])
                self.assertEqual(request.peek((name, [signal_count - 1] * signal_count)), [answer])
                self.assertEqual(request.peek((name, [signal_count] * signal_count)), [[-22]])

    def test_only_while_the_log_is_empty(self):
        request = with_policies(3, (0, 1), (1, 1))
        request.ask("record_test", 0, 0)
        assert_refused(self, request, -16, "merge_signals", [0, 0, 2])
        assert_refused(self, request, -16, "merge_signals", [0, 1, 2])
        for mapping in WRONG_MAPPINGS:
            assert_refused(self, request, -22, "merge_signals", mapping)
        request.ask("undo_record")
        self.assertEqual(request.ask("merge_signals", [0, 0, 2]), [0])

    def test_a_production_session_in_the_log_counts_too(self):
        request = with_policies(2, (0, 1))
        request.ask("permit", 0, 1)
        request.ask("record_production", 0)
        assert_refused(self, request, -16, "merge_signals", [0, 0])


if __name__ == "__main__":
    unittest.main()
