import unittest

from tests.helper import GREATEST, LEAST, NO_WIDTH, U, ask, num, run_call, subrs_call, subrs_raw


def shows(value):
    """A subroutine that ends its run with this value as the width."""
    return num(value) + [14]


def own(i):
    return run_call(num(i - 107) + [10])


def common(i):
    return run_call(num(i - 107) + [29])


class Subrs(unittest.TestCase):
    def test_own_and_common(self):
        self.assertEqual(ask(subrs_call(0, [shows(1), shows(2)]), subrs_call(1, [shows(3), shows(4), shows(5)]),
                             own(0), own(1), own(2), common(0), common(1), common(2), common(3)),
                         [[0], [0], [0, U], [0, 2 * U], [-5], [0, 3 * U], [0, 4 * U], [0, 5 * U], [-5]])

    def test_other_kinds_are_refused(self):
        for kind in (-1, 2, 3, LEAST, GREATEST):
            self.assertEqual(ask(subrs_call(kind, [shows(1)]), own(0), common(0)), [[-1], [-5], [-5]])

    def test_no_ends(self):
        for kind in (0, 1):
            self.assertEqual(ask(subrs_raw(kind, [14, 14], []), own(0), common(0)), [[0], [-5], [-5]])
            self.assertEqual(ask(subrs_raw(kind, [], []), own(0), common(0)), [[0], [-5], [-5]])

    def test_empty_subroutines(self):
        self.assertEqual(ask(subrs_raw(0, shows(4), [0, 0, 2, 2]), own(0), own(1), own(2), own(3), own(4)),
                         [[0], [-7], [-7], [0, 4 * U], [-7], [-5]])
        self.assertEqual(ask(subrs_raw(0, [], [0, 0]), own(1), own(2)), [[0], [-7], [-5]])

    def test_the_first_begins_at_the_first_byte_and_each_behind_the_one_before(self):
        data = num(1) + num(2) + [12, 10] + [14] + num(3) + [14]
        self.assertEqual(ask(subrs_raw(0, data, [5, 7]), own(0), own(1)), [[0], [0, 3 * U], [0, 3 * U]])

    def test_a_subroutine_stops_at_its_end(self):
        self.assertEqual(ask(subrs_raw(0, num(1) + num(2) + [14], [1, 3]), own(0), own(1)),
                         [[0], [-7], [0, 2 * U]])

    def test_bytes_behind_the_last_end_are_no_subroutine(self):
        self.assertEqual(ask(subrs_raw(0, shows(1) + shows(2), [2]), own(0), own(1)), [[0], [0, U], [-5]])
        self.assertEqual(ask(subrs_raw(0, shows(1), [1]), own(0)), [[0], [-7]])

    def test_ends_that_fall(self):
        data = shows(1) + shows(2)
        for ends in ([2, 1], [4, 0], [0, 2, 1, 4], [4, 3]):
            self.assertEqual(ask(subrs_raw(0, data, ends)), [[-1]], ends)

    def test_an_end_at_and_above_the_number_of_bytes(self):
        data = shows(1) + shows(2)
        self.assertEqual(ask(subrs_raw(0, data, [2, 4])), [[0]])
        for ends in ([2, 5], [5], [4294967295], [2, 4294967295], [5, 5], [5, 4]):
            self.assertEqual(ask(subrs_raw(0, data, ends)), [[-1]], ends)
        self.assertEqual(ask(subrs_raw(1, [], [0])), [[0]])
        self.assertEqual(ask(subrs_raw(1, [], [1])), [[-1]])

    def test_after_a_refusal_the_earlier_ones_are_still_there(self):
        before = [subrs_call(0, [shows(1)]), subrs_call(1, [shows(2)])]
        data = shows(8) + shows(9)
        wrong = (subrs_raw(2, data, [2, 4]), subrs_raw(-1, data, [2, 4]), subrs_raw(0, data, [2, 1]),
                 subrs_raw(1, data, [2, 1]), subrs_raw(0, data, [2, 5]), subrs_raw(1, data, [2, 5]))
        for call in wrong:
            self.assertEqual(ask(*before, call, own(0), own(1), common(0), common(1)),
                             [[0], [0], [-1], [0, U], [-5], [0, 2 * U], [-5]])

    def test_each_kind_is_replaced_without_the_other(self):
        before = [subrs_call(0, [shows(1), shows(2)]), subrs_call(1, [shows(3), shows(4)])]
        self.assertEqual(ask(*before, subrs_call(0, [shows(5)]), own(0), own(1), common(0), common(1))[2:],
                         [[0], [0, 5 * U], [-5], [0, 3 * U], [0, 4 * U]])
        self.assertEqual(ask(*before, subrs_call(1, [shows(5)]), own(0), own(1), common(0), common(1))[2:],
                         [[0], [0, U], [0, 2 * U], [0, 5 * U], [-5]])
        self.assertEqual(ask(*before, subrs_call(0, []), own(0), common(0))[2:], [[0], [-5], [0, 3 * U]])

    def test_subroutines_stay_from_run_to_run(self):
        self.assertEqual(ask(own(0), subrs_call(0, [shows(1)]), own(0), run_call([2]), own(0)),
                         [[-5], [0], [0, U], [-4], [0, U]])

    def test_2048_of_them(self):
        bodies = [shows(i % 100) for i in range(2048)]
        first = run_call(num(-1131) + [10])
        last = run_call(num(2047 - 1131) + [10])
        behind = run_call(num(2048 - 1131) + [10])
        self.assertEqual(ask(subrs_call(0, bodies), first, last, behind),
                         [[0], [0, 0], [0, 47 * U], [-5]])

    def test_more_than_2048_are_refused(self):
        self.assertEqual(ask(subrs_call(0, [[14]]), subrs_raw(0, [], [0] * 2049), own(0)),
                         [[0], [-1], [0, NO_WIDTH]])

    def test_more_than_65536_bytes_are_refused(self):
        self.assertEqual(ask(subrs_raw(0, [14] * 65536, [1]), own(0)), [[0], [0, NO_WIDTH]])
        self.assertEqual(ask(subrs_raw(0, [14] * 65537, [1]), own(0)), [[-1], [-5]])


if __name__ == "__main__":
    unittest.main()
