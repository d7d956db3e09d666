import unittest

from tests.helper import NO_WIDTH, U, num, run

NO_OPERATOR = 2


def hints(count, operator=1):
    """Code of this many hints, 24 at a time."""
    code = []
    while count > 0:
        some = min(count, 24)
        code += num(0) * (2 * some) + [operator]
        count -= some
    return code


class Masks(unittest.TestCase):
    def check(self, ahead, operator, length):
        # Every byte of the mask would be refused as an operator, so each is seen to be passed over.
        self.assertEqual(run(ahead + [operator] + [NO_OPERATOR] * length + [14]), [0, NO_WIDTH])
        self.assertEqual(run(ahead + [operator] + [NO_OPERATOR] * (length + 1) + [14]), [-4])
        self.assertEqual(run(ahead + [operator] + [NO_OPERATOR] * length), [-7])
        if length > 0:
            self.assertEqual(run(ahead + [operator] + [NO_OPERATOR] * (length - 1) + [14]), [-7])
            self.assertEqual(run(ahead + [operator] + [NO_OPERATOR] * (length - 1)), [-7])

    def test_lengths_without_numbers(self):
        for operator in (19, 20):
            for count, length in ((0, 0), (1, 1), (7, 1), (8, 1), (9, 2), (16, 2), (17, 3), (95, 12), (96, 12)):
                self.check(hints(count), operator, length)

    def test_lengths_with_numbers_of_the_mask_itself(self):
        for operator in (19, 20):
            for before, more, length in ((0, 1, 1), (0, 8, 1), (0, 9, 2), (7, 1, 1), (8, 1, 2), (72, 24, 12),
                                         (95, 1, 12)):
                self.check(hints(before) + num(0) * (2 * more), operator, length)

    def test_each_kind_of_hints_counts(self):
        for operator in (1, 3, 18, 23):
            self.check(hints(8, operator), 19, 1)
            self.check(hints(9, operator), 19, 2)
        self.check(hints(3, 1) + hints(3, 3) + hints(2, 18) + hints(1, 23), 20, 2)

    def test_the_hints_of_a_mask_count_for_the_next(self):
        self.check(num(0) * 16 + [19, NO_OPERATOR] + num(0) * 2, 20, 2)
        self.check(num(0) * 18 + [20, NO_OPERATOR, NO_OPERATOR], 19, 2)

    def test_the_width_is_no_hint(self):
        self.assertEqual(run(num(1) * 17 + [23, 19, NO_OPERATOR, 14]), [0, U])
        self.assertEqual(run(num(1) * 17 + [19, NO_OPERATOR, 14]), [0, U])
        self.assertEqual(run(num(1) + [19, 14]), [0, U])

    def test_hints_go_on_through_paths_and_subroutines(self):
        self.assertEqual(run(hints(8) + num(0) + [22] + num(0) * 2 + [19, NO_OPERATOR, NO_OPERATOR, 14]),
                         [4, NO_WIDTH, 0, 0, 0, 3])
        self.assertEqual(run(num(-107) + [10, 19, NO_OPERATOR, NO_OPERATOR, 14], own=[hints(9) + [11]]), [0, NO_WIDTH])

    def test_a_mask_ends_with_the_bytes_of_its_subroutine(self):
        self.assertEqual(run(hints(9) + num(-107) + [10, 14, 14, 14], own=[[19, 0]]), [-7])
        self.assertEqual(run(hints(9) + num(-107) + [10, 14, 14, 14], own=[[19, 0, 0, 11]]), [0, NO_WIDTH])

    def test_nothing_is_drawn(self):
        self.assertEqual(run(hints(4) + num(0) * 4 + [19, 0, 14], 0), [0, NO_WIDTH])


class MostHints(unittest.TestCase):
    def test_96(self):
        for operator in (1, 3, 18, 23):
            self.assertEqual(run(hints(96, operator) + [14]), [0, NO_WIDTH])

    def test_the_97th(self):
        for operator in (1, 3, 18, 23):
            self.assertEqual(run(hints(97, operator) + [14]), [-11])
            self.assertEqual(run(hints(95) + num(0) * 2 + [operator, 14]), [0, NO_WIDTH])
            self.assertEqual(run(hints(95) + num(0) * 4 + [operator, 14]), [-11])

    def test_the_97th_at_a_mask(self):
        for operator in (19, 20):
            self.assertEqual(run(hints(96) + num(0) * 2 + [operator] + [0] * 13 + [14]), [-11])

    def test_ahead_of_a_mask_that_ends(self):
        self.assertEqual(run(hints(96) + num(0) * 2 + [19]), [-11])
        self.assertEqual(run(hints(95) + num(0) * 2 + [19]), [-7])

    def test_behind_a_wrong_count(self):
        self.assertEqual(run(hints(96) + num(0) * 3 + [1]), [-3])
        self.assertEqual(run(hints(96) + num(0) * 3 + [19]), [-3])


if __name__ == "__main__":
    unittest.main()
