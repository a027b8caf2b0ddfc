"""permit, revoke_permit and permit_status."""

import unittest

from helper import HUGE, assert_refused, started, with_policies

WRONG_FRACTIONS = ((0, 0), (1, 0), (0, 100), (1, HUGE), (2, 1), (99, 98), (HUGE, 99))


class Permit(unittest.TestCase):
    def test_the_previous_permit_as_it_was_set(self):
        request = with_policies(2, (0, 1), (1, 1))
        self.assertEqual(request.ask("permit", 2, 8), [0, 0, 0])
        self.assertEqual(request.ask("permit", 99, 99), [0, 2, 8])
        self.assertEqual(request.ask("permit", 1, 4), [0, 99, 99])
        self.assertEqual(request.ask("permit_status"), [1, 1, 4])

    def test_a_permit_of_zero_is_a_permit(self):
        request = with_policies(2, (0, 1))
        self.assertEqual(request.ask("permit", 0, 5), [0, 0, 0])
        self.assertEqual(request.ask("permit_status"), [1, 0, 5])
        self.assertEqual(request.ask("permit", 0, 1), [0, 0, 5])

    def test_the_harm_may_be_as_high_as_the_permit(self):
        request = with_policies(2, (0, 2), (1, 1))
        assert_refused(self, request, -30, "permit", 16, 97)
        assert_refused(self, request, -30, "permit", 0, 1)
        self.assertEqual(request.ask("permit", 1, 6), [0, 0, 0])
        self.assertEqual(request.ask("permit", 16, 96), [0, 1, 6])
        assert_refused(self, request, -30, "permit", 15, 96)
        self.assertEqual(request.ask("permit", 17, 96), [0, 16, 96])

    def test_wrong_fractions(self):
        request = with_policies(2, (0, 1), (1, 1))
        request.ask("permit", 3, 4)
        for num, den in WRONG_FRACTIONS:
            assert_refused(self, request, -22, "permit", num, den)

    def test_no_candidates(self):
        assert_refused(self, started(2), -33, "permit", 1, 1)
        assert_refused(self, started(2), -33, "permit", 0, 1)
        request = with_policies(2, (0, 1))
        request.ask("permit", 1, 2)
        request.ask("remove_policy", 0)
        assert_refused(self, request, -33, "permit", 1, 1)

    def test_the_error_told_first(self):
        for num, den in WRONG_FRACTIONS:
            assert_refused(self, started(2), -22, "permit", num, den)
            assert_refused(self, with_policies(2, (3, 1)), -22, "permit", num, den)

    def test_the_log_may_hold_entries(self):
        request = with_policies(2, (0, 1), (1, 1))
        request.ask("record_test", 0, 1)
        assert_refused(self, request, -30, "permit", 49, 99)
        self.assertEqual(request.ask("permit", 50, 99), [0, 0, 0])
        self.assertEqual(request.ask("record_production", 0), [1])
        self.assertEqual(request.ask("permit", 1, 2), [0, 50, 99])


class RevokePermit(unittest.TestCase):
    def test_the_previous_permit_as_it_was_set(self):
        request = with_policies(2, (0, 1))
        request.ask("permit", 4, 6)
        self.assertEqual(request.ask("revoke_permit"), [0, 4, 6])
        self.assertEqual(request.ask("permit_status"), [0, 0, 0])
        self.assertEqual(request.ask("permit", 0, 3), [0, 0, 0])
        self.assertEqual(request.ask("revoke_permit"), [0, 0, 3])

    def test_a_permit_that_no_longer_allows(self):
        request = with_policies(2, (0, 1))
        request.ask("permit", 0, 3)
        request.ask("remove_policy", 0)
        self.assertEqual(request.ask("revoke_permit"), [0, 0, 3])

    def test_no_permit(self):
        assert_refused(self, started(2), -6, "revoke_permit")
        request = with_policies(2, (0, 1))
        request.ask("permit", 1, 1)
        request.ask("revoke_permit")
        assert_refused(self, request, -6, "revoke_permit")


class PermitStatus(unittest.TestCase):
    def test_no_permit(self):
        self.assertEqual(started(2).ask("permit_status"), [0, 0, 0])
        self.assertEqual(with_policies(2, (0, 1)).ask("permit_status"), [0, 0, 0])

    def test_no_candidate(self):
        request = with_policies(2, (0, 1))
        request.ask("permit", 2, 4)
        self.assertEqual(request.ask("permit_status"), [1, 2, 4])
        request.ask("remove_policy", 0)
        self.assertEqual(request.ask("permit_status"), [0, 2, 4])

    def test_the_harm_changes(self):
        request = with_policies(2, (0, 1), (1, 1))
        request.ask("permit", 2, 8)
        self.assertEqual(request.ask("permit_status"), [1, 2, 8])
        request.ask("set_production_weights", [98, 97])
        self.assertEqual(request.ask("permit_status"), [0, 2, 8])
        request.ask("record_test", 0, 0)
        self.assertEqual(request.ask("permit_status"), [1, 2, 8])
        request.ask("undo_record")
        self.assertEqual(request.ask("permit_status"), [0, 2, 8])
        request.ask("record_test", 0, 1)
        self.assertEqual(request.ask("permit_status"), [0, 2, 8])
        request.ask("set_production_weights", [1, 3])
        self.assertEqual(request.ask("permit_status"), [1, 2, 8])


if __name__ == "__main__":
    unittest.main()
