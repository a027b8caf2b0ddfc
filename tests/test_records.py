"""record_test, record_production, undo_record, get_log, candidates_after_test and counts."""

import unittest

from helper import HUGE, assert_only_looks, assert_refused, started, with_policies


def with_permit(signal_count, *policies):
    """A request with these policies in which every production session is allowed."""
    request = with_policies(signal_count, *policies)
    request.ask("permit", 1, 1)
    return request


def with_full_log():
    request = with_permit(2, (0, 1), (1, 1))
    request.ask("record_test", 1, 0)
    for session in range(15):
        request.ask("record_production", 0)
    return request


class RecordTest(unittest.TestCase):
    def test_how_many_candidates_are_left(self):
        request = with_policies(3, (0, 1), (1, 1), (3, 1), (6, 1))
        self.assertEqual(request.peek(("record_test", 0, 0), ("candidates",)), [[2], [2, 0, 3]])
        self.assertEqual(request.peek(("record_test", 0, 1), ("candidates",)), [[2], [2, 1, 2]])
        self.assertEqual(request.peek(("record_test", 1, 1), ("record_test", 0, 1), ("record_test", 2, 0),
                                      ("candidates",)), [[2], [1], [1], [1, 2]])

    def test_a_test_that_tells_nothing_new(self):
        request = with_policies(3, (0, 1), (1, 1))
        self.assertEqual(request.ask("record_test", 2, 0), [2])
        self.assertEqual(request.ask("record_test", 2, 0), [2])
        self.assertEqual(request.ask("get_log"), [2, 0, 2, 0, 2])

    def test_no_such_signal(self):
        request = with_policies(3, (0, 1))
        for signal in (3, 4, HUGE):
            assert_refused(self, request, -2, "record_test", signal, 0)

    def test_cheated_is_zero_or_one(self):
        request = with_policies(3, (0, 1), (7, 1))
        for cheated in (2, 3, HUGE):
            assert_refused(self, request, -22, "record_test", 0, cheated)

    def test_a_signal_that_does_not_appear_in_tests(self):
        request = with_policies(3, (0, 1), (7, 1))
        request.ask("set_test_weights", [1, 0, 2])
        request.ask("set_production_weights", [0, 1, 1])
        assert_refused(self, request, -22, "record_test", 1, 0)
        assert_refused(self, request, -22, "record_test", 1, 1)
        self.assertEqual(request.ask("record_test", 0, 0), [1])

    def test_the_log_holds_sixteen_entries(self):
        request = with_policies(1, (0, 1))
        for session in range(16):
            self.assertEqual(request.ask("record_test", 0, 0), [1])
        assert_refused(self, request, -28, "record_test", 0, 0)
        request.ask("undo_record")
        self.assertEqual(request.ask("record_test", 0, 0), [1])

    def test_no_candidate_would_be_left(self):
        assert_refused(self, started(2), -33, "record_test", 0, 0)
        assert_refused(self, started(2), -33, "record_test", 0, 1)
        request = with_policies(2, (0, 1), (1, 1))
        assert_refused(self, request, -33, "record_test", 1, 1)
        request.ask("record_test", 0, 1)
        assert_refused(self, request, -33, "record_test", 0, 0)

    def test_the_error_told_first(self):
        request = with_full_log()
        assert_refused(self, request, -2, "record_test", 2, 2)
        assert_refused(self, request, -22, "record_test", 1, 2)
        assert_refused(self, request, -28, "record_test", 1, 1)
        request = started(2, ("set_test_weights", [1, 0]))
        assert_refused(self, request, -2, "record_test", 2, 0)
        assert_refused(self, request, -22, "record_test", 1, 0)
        assert_refused(self, request, -33, "record_test", 0, 0)
        request = with_permit(2, (0, 1))
        request.ask("set_test_weights", [1, 0])
        for session in range(16):
            request.ask("record_production", 0)
        assert_refused(self, request, -22, "record_test", 1, 0)


class RecordProduction(unittest.TestCase):
    def test_how_many_candidates_cheat_at_the_signal(self):
        request = with_permit(3, (0, 1), (1, 1), (3, 1), (7, 1))
        self.assertEqual(request.peek(("record_production", 0), ("record_production", 1),
                                      ("record_production", 2), ("candidates",)),
                         [[3], [2], [1], [4, 0, 1, 2, 3]])
        request.ask("record_test", 2, 0)
        self.assertEqual(request.peek(("record_production", 0), ("record_production", 2)), [[2], [0]])

    def test_no_such_signal(self):
        request = with_permit(3, (0, 1))
        for signal in (3, HUGE):
            assert_refused(self, request, -2, "record_production", signal)

    def test_a_signal_that_does_not_appear_in_production(self):
        request = with_permit(3, (0, 1))
        request.ask("set_test_weights", [0, 1, 1])
        request.ask("set_production_weights", [2, 0, 1])
        assert_refused(self, request, -22, "record_production", 1)
        self.assertEqual(request.ask("record_production", 0), [0])

    def test_the_log_holds_sixteen_entries(self):
        request = with_full_log()
        assert_refused(self, request, -28, "record_production", 0)
        request.ask("undo_record")
        self.assertEqual(request.ask("record_production", 0), [1])

    def test_no_candidate(self):
        assert_refused(self, started(2), -33, "record_production", 0)
        request = with_permit(2, (0, 1))
        request.ask("remove_policy", 0)
        self.assertEqual(request.ask("permit_status"), [0, 1, 1])
        assert_refused(self, request, -33, "record_production", 0)

    def test_no_permit(self):
        request = with_policies(2, (0, 1))
        assert_refused(self, request, -30, "record_production", 0)
        request.ask("permit", 0, 1)
        self.assertEqual(request.peek(("record_production", 0)), [[0]])
        request.ask("revoke_permit")
        assert_refused(self, request, -30, "record_production", 0)

    def test_the_harm_may_be_as_high_as_the_permit(self):
        request = with_policies(2, (0, 3), (1, 1))
        request.ask("permit", 12, 96)
        self.assertEqual(request.ask("record_production", 0), [1])
        request.ask("set_production_weights", [51, 49])
        assert_refused(self, request, -30, "record_production", 0)
        request.ask("set_production_weights", [49, 51])
        self.assertEqual(request.ask("record_production", 0), [1])

    def test_what_tests_show_counts(self):
        request = with_policies(2, (0, 1), (1, 1))
        request.ask("record_test", 0, 0)
        request.ask("permit", 0, 1)
        self.assertEqual(request.peek(("record_production", 0)), [[0]])
        request.ask("undo_record")
        assert_refused(self, request, -30, "record_production", 0)

    def test_the_error_told_first(self):
        request = started(2, ("set_production_weights", [1, 0]))
        assert_refused(self, request, -2, "record_production", 2)
        assert_refused(self, request, -22, "record_production", 1)
        assert_refused(self, request, -33, "record_production", 0)
        request = with_full_log()
        request.ask("set_production_weights", [1, 0])
        request.ask("revoke_permit")
        assert_refused(self, request, -2, "record_production", 2)
        assert_refused(self, request, -22, "record_production", 1)
        assert_refused(self, request, -28, "record_production", 0)


class UndoRecord(unittest.TestCase):
    def test_the_last_entry_is_taken_back(self):
        request = with_permit(2, (0, 1), (1, 1), (3, 1))
        request.ask("record_test", 0, 1)
        request.ask("record_production", 1)
        request.ask("record_test", 1, 0)
        self.assertEqual(request.ask("candidates"), [1, 1])
        self.assertEqual(request.ask("undo_record"), [0, 1])
        self.assertEqual(request.ask("candidates"), [2, 1, 2])
        self.assertEqual(request.ask("undo_record"), [2, 1])
        self.assertEqual(request.ask("candidates"), [2, 1, 2])
        self.assertEqual(request.ask("undo_record"), [1, 0])
        self.assertEqual(request.ask("candidates"), [3, 0, 1, 2])
        self.assertEqual(request.ask("permit_status"), [1, 1, 1])

    def test_the_log_is_empty(self):
        assert_refused(self, started(2), -6, "undo_record")
        request = with_policies(2, (0, 1))
        request.ask("record_test", 0, 0)
        request.ask("undo_record")
        assert_refused(self, request, -6, "undo_record")


class GetLog(unittest.TestCase):
    def test_kinds_and_signals_in_order(self):
        request = with_permit(5, (0, 1), (16, 1))
        self.assertEqual(request.ask("get_log"), [0])
        request.ask("record_test", 4, 1)
        request.ask("record_production", 3)
        request.ask("record_test", 2, 0)
        self.assertEqual(request.ask("get_log"), [3, 1, 4, 2, 3, 0, 2])
        request.ask("undo_record")
        self.assertEqual(request.ask("get_log"), [2, 1, 4, 2, 3])

    def test_a_full_log(self):
        self.assertEqual(with_full_log().ask("get_log"), [16, 0, 1] + [2, 0] * 15)


class CandidatesAfterTest(unittest.TestCase):
    def test_what_candidates_would_return(self):
        request = with_policies(3, (0, 1), (1, 1), (3, 1), (6, 1))
        assert_only_looks(self, request, [2, 0, 3], "candidates_after_test", 0, 0)
        assert_only_looks(self, request, [2, 1, 2], "candidates_after_test", 0, 1)
        request.ask("record_test", 1, 1)
        assert_only_looks(self, request, [1, 3], "candidates_after_test", 0, 0)
        assert_only_looks(self, request, [1, 2], "candidates_after_test", 0, 1)
        assert_only_looks(self, request, [2, 2, 3], "candidates_after_test", 1, 1)

    def test_no_candidate_would_be_left(self):
        assert_only_looks(self, started(2), [0], "candidates_after_test", 1, 0)
        assert_only_looks(self, started(2), [0], "candidates_after_test", 1, 1)
        request = with_policies(2, (0, 1), (1, 1))
        assert_only_looks(self, request, [0], "candidates_after_test", 1, 1)
        request.ask("record_test", 0, 1)
        assert_only_looks(self, request, [0], "candidates_after_test", 0, 0)
        assert_only_looks(self, request, [1, 1], "candidates_after_test", 0, 1)

    def test_a_full_log(self):
        request = with_full_log()
        assert_only_looks(self, request, [1, 0], "candidates_after_test", 0, 0)
        assert_only_looks(self, request, [1, 1], "candidates_after_test", 0, 1)
        assert_only_looks(self, request, [0], "candidates_after_test", 1, 1)

    def test_no_such_signal(self):
        request = with_policies(3, (0, 1))
        for signal in (3, 4, HUGE):
            assert_refused(self, request, -2, "candidates_after_test", signal, 0)
            assert_refused(self, request, -2, "candidates_after_test", signal, 2)

    def test_what_no_test_shows(self):
        request = with_policies(3, (0, 1), (7, 1))
        request.ask("set_test_weights", [1, 0, 2])
        request.ask("set_production_weights", [0, 1, 1])
        for cheated in (0, 1, 2):
            assert_refused(self, request, -22, "candidates_after_test", 1, cheated)
        for cheated in (2, 3, HUGE):
            assert_refused(self, request, -22, "candidates_after_test", 0, cheated)
        self.assertEqual(request.ask("candidates_after_test", 0, 1), [1, 1])
        assert_refused(self, with_full_log(), -22, "candidates_after_test", 0, 2)


class Counts(unittest.TestCase):
    def test_each_kind_is_counted(self):
        request = with_permit(3, (0, 1), (1, 1), (3, 1))
        self.assertEqual(request.ask("counts"), [3, 0, 0, 0])
        request.ask("record_test", 0, 1)
        self.assertEqual(request.ask("counts"), [3, 1, 1, 0])
        request.ask("record_test", 2, 0)
        request.ask("record_test", 2, 0)
        self.assertEqual(request.ask("counts"), [3, 3, 1, 0])
        request.ask("record_production", 1)
        assert_only_looks(self, request, [3, 3, 1, 1], "counts")
        request.ask("undo_record")
        request.ask("undo_record")
        self.assertEqual(request.ask("counts"), [3, 2, 1, 0])

    def test_policies_that_are_no_candidates_count(self):
        request = with_policies(2, (0, 1), (1, 1))
        request.ask("record_test", 0, 1)
        self.assertEqual(request.ask("counts"), [2, 1, 1, 0])

    def test_nothing_and_a_full_log(self):
        self.assertEqual(started(2).ask("counts"), [0, 0, 0, 0])
        self.assertEqual(with_full_log().ask("counts"), [2, 1, 0, 15])

    def test_a_removed_policy(self):
        request = with_policies(2, (0, 1), (1, 1))
        request.ask("remove_policy", 0)
        self.assertEqual(request.ask("counts"), [1, 0, 0, 0])


if __name__ == "__main__":
    unittest.main()
