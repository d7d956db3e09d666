import unittest

from tests.helper import NO_WIDTH, U, bits, drawn, num, nums, run, width_of


class Width(unittest.TestCase):
    def test_hints(self):
        for operator in (1, 3, 18, 23):
            for k in (1, 2, 23):
                self.assertEqual(width_of(num(9) + num(1) * (2 * k) + [operator, 14]), 9 * U)
                self.assertEqual(width_of(num(1) * (2 * k) + [operator, 14]), NO_WIDTH)

    def test_hints_need_a_pair_beside_the_width(self):
        for operator in (1, 3, 18, 23):
            self.assertEqual(run(num(9) + [operator, 14]), [-3])
            self.assertEqual(run([operator, 14]), [-3])

    def test_masks(self):
        for operator in (19, 20):
            self.assertEqual(run(num(9) + num(1) * 2 + [operator, 2, 14]), [0, 9 * U])
            self.assertEqual(run(num(1) * 2 + [operator, 2, 14]), [0, NO_WIDTH])
            self.assertEqual(run(num(9) + [operator, 14]), [0, 9 * U])
            self.assertEqual(run([operator, 14]), [0, NO_WIDTH])

    def test_moves(self):
        self.assertEqual(run(nums(9, 1, 2) + [21, 14]), [4, 9 * U, 0, U, 2 * U, 3])
        self.assertEqual(run(nums(1, 2) + [21, 14]), [4, NO_WIDTH, 0, U, 2 * U, 3])
        self.assertEqual(run(nums(9, 1) + [22, 14]), [4, 9 * U, 0, U, 0, 3])
        self.assertEqual(run(nums(1) + [22, 14]), [4, NO_WIDTH, 0, U, 0, 3])
        self.assertEqual(run(nums(9, 1) + [4, 14]), [4, 9 * U, 0, 0, U, 3])
        self.assertEqual(run(nums(1) + [4, 14]), [4, NO_WIDTH, 0, 0, U, 3])

    def test_the_end(self):
        self.assertEqual(run(num(9) + [14]), [0, 9 * U])
        self.assertEqual(run([14]), [0, NO_WIDTH])

    def test_one_number_more_alone(self):
        for code in (nums(9, 9, 1, 2) + [21], nums(9, 9, 1) + [22], nums(9, 9, 1) + [4], nums(9, 9)):
            self.assertEqual(run(code + [14]), [-3], code)

    def test_it_is_told_to_the_last_bit(self):
        for number in (0, 1, -1, 98304, -32769, 2147483647):
            self.assertEqual(width_of(bits(number) + [14]), number)

    def test_a_width_of_the_least_number_looks_like_none(self):
        self.assertEqual(width_of(bits(-2147483648) + [14]), NO_WIDTH)

    def test_not_at_a_later_operator(self):
        firsts = (num(1) * 2 + [1], [19], num(1) + [22], num(1) * 2 + [21], num(1) + [4],
                  nums(9, 1, 1) + [1], num(9) + [19], nums(9, 1) + [22])
        laters = (num(1) * 3 + [1], num(1) * 3 + [3], num(1) * 3 + [18], num(1) * 3 + [23], num(1) + [19, 0, 0],
                  num(1) + [20, 0, 0], num(1) * 3 + [19, 0, 0], num(1) * 3 + [21], num(1) * 2 + [22],
                  num(1) * 2 + [4], num(1))
        for first in firsts:
            for later in laters:
                self.assertEqual(run(first + later + [14, 14]), [-3], (first, later))

    def test_not_at_a_line_or_curve(self):
        counts = {5: 2, 8: 6, 24: 8, 25: 8}
        for operator, count in counts.items():
            self.assertEqual(run(num(1) * (count + 1) + [operator]), [-3])
            self.assertEqual(run(num(0) + [22] + num(1) * (count + 1) + [operator, 14]), [-3])
        for second, count in {34: 7, 35: 13, 36: 9, 37: 11}.items():
            self.assertEqual(run(num(1) * (count + 1) + [12, second]), [-3])
            self.assertEqual(run(num(0) + [22] + num(1) * (count + 1) + [12, second, 14]), [-3])

    def test_operators_of_the_second_table_leave_it_to_come(self):
        self.assertEqual(drawn(nums(4, 5) + [12, 10] + num(1) + [22, 14]), [0, U, 0, 3])
        self.assertEqual(width_of(nums(4, 5) + [12, 10] + num(1) + [22, 14]), 9 * U)

    def test_within_and_behind_a_subroutine(self):
        self.assertEqual(run(nums(9, 1, -107) + [10, 14], own=[[22, 11]]), [4, 9 * U, 0, U, 0, 3])
        self.assertEqual(run(num(9) + num(-107) + [10] + num(1) + [22, 14], own=[[11]]), [4, 9 * U, 0, U, 0, 3])
        self.assertEqual(run(num(-107) + [10] + num(9) + [14], own=[[19, 11]]), [-3])


if __name__ == "__main__":
    unittest.main()
