"""Each refusal at its edge and just within it, and which comes first where two could be answered."""

import unittest

from tests.helper import GREATEST, LEAST, NO_WIDTH, PLENTY, U, bits, num, nums, run, width_of

# 19 without numbers and hints is an operator of one byte that does nothing; each call of this
# subroutine is a thousand operators, the call and the end of the subroutine among them.
IDLE = 19
THOUSAND = [[IDLE] * 998 + [11]]
PATH = num(0) + [22]


def behind_operators(count, code, common=None):
    """The answer to a run in which so many operators stand ahead of code."""
    idle = (num(-107) + [10]) * (count // 1000) + [IDLE] * (count % 1000)
    return run(idle + code, own=THOUSAND, common=common)


class Most(unittest.TestCase):
    def test_its_range(self):
        for most in (0, 1, 1048575, 1048576):
            self.assertEqual(run([14], most), [0, NO_WIDTH])
        for most in (-1, 1048577, LEAST, GREATEST):
            self.assertEqual(run([14], most), [-1])
            self.assertEqual(run([], most), [-1])

    def test_the_range_of_how_many_bytes(self):
        self.assertEqual(run([14] * 65536), [0, NO_WIDTH])
        self.assertEqual(run([14] * 65537), [-1])

    def check(self, code, count):
        self.assertEqual(run(code, count)[0], count)
        self.assertEqual(run(code, PLENTY)[0], count)
        self.assertEqual(run(code, count - 1), [-9])
        self.assertEqual(run(code, 0), [-9])

    def test_met_and_passed_by_one(self):
        self.check(PATH + [14], 4)
        self.check(PATH + PATH + [14], 8)
        self.check(PATH + nums(1, 1) + [5, 14], 7)
        self.check(PATH + nums(1, 1, 1, 1, 1, 1) + [8, 14], 11)
        self.check(PATH + nums(1, 1, 1, 1, 1, 1, 1, 1) + [24, 14], 14)
        self.check(PATH + num(1) * 13 + [12, 35, 14], 18)

    def test_it_is_come_to_where_it_is_drawn(self):
        # What would be refused behind is not come to.
        for most, answer in ((2, -9), (3, -4)):
            self.assertEqual(run(PATH + [2], most), [answer])
        for most, answer in ((5, -9), (6, -4)):
            self.assertEqual(run(PATH + nums(1, 1) + [5, 2], most), [answer])
        for most, answer in ((9, -9), (10, -4)):
            self.assertEqual(run(PATH + num(1) * 6 + [8, 2], most), [answer])
        for most, answer in ((6, -9), (7, -4)):
            self.assertEqual(run(PATH + PATH + [2], most), [answer])

    def test_very_many_numbers(self):
        # 48 lines of 3 numbers each, round a square, as often as told.
        square = nums(1, 1, -1, -1) * 12 + [6]
        own = [square * 100 + [11]]
        code = PATH + (num(-107) + [10]) * 69 + [14]
        self.assertEqual(run(code, own=own)[0], 3 + 6900 * 144 + 1)
        self.assertEqual(run(code, 3 + 6900 * 144, own=own), [-9])
        code = PATH + (num(-107) + [10]) * 73 + [14]
        self.assertEqual(run(code, own=own), [-9])


class Stack(unittest.TestCase):
    def test_48_and_49(self):
        self.assertEqual(run(PATH + num(1) * 48 + [6, 14])[0], 148)
        self.assertEqual(run(PATH + num(1) * 49 + [6, 14]), [-2])
        self.assertEqual(run(num(1) * 49), [-2])
        self.assertEqual(run(num(1) * 48), [-7])

    def test_each_form_of_a_number(self):
        for form in ([140], [247, 0], [251, 0], [28, 0, 1], [255, 0, 0, 0, 1]):
            self.assertEqual(run(PATH + num(1) * 47 + form + [6, 14])[0], 148)
            self.assertEqual(run(PATH + num(1) * 48 + form + [6, 14]), [-2])

    def test_the_width_is_one_of_the_48(self):
        self.assertEqual(width_of(num(5) + num(1) * 46 + [1, 14]), 5 * U)
        self.assertEqual(run(num(5) + num(1) * 48 + [1, 14]), [-2])


class NoOperator(unittest.TestCase):
    def test_bytes(self):
        for byte in (0, 2, 9, 13, 15, 16, 17):
            self.assertEqual(run([byte]), [-4])
            self.assertEqual(run(num(1) + [byte, 14]), [-4])

    def test_every_other_second_byte(self):
        known = {3, 4, 5, 9, 10, 11, 12, 14, 15, 18, 20, 21, 22, 24, 26, 27, 28, 29, 30, 34, 35, 36, 37}
        for second in range(256):
            answer = run([12, second, 14])
            self.assertEqual(answer, [-3] if second in known else [-4], second)

    def test_every_first_byte_is_known_or_refused(self):
        for byte in range(32):
            answer = run([byte])
            expected = -4 if byte in (0, 2, 9, 13, 15, 16, 17) else -7 if byte in (11, 12, 19, 20, 28) else -3
            self.assertEqual(answer, [0, NO_WIDTH] if byte == 14 else [expected], byte)

    def test_within_a_subroutine(self):
        self.assertEqual(run(num(-107) + [10, 14], own=[[2, 11]]), [-4])

    def test_ahead_of_a_wrong_count(self):
        self.assertEqual(run([0]), [-4])


class OperatorBytes(unittest.TestCase):
    def test_they_end(self):
        self.assertEqual(run([12]), [-7])
        self.assertEqual(run(num(1) + [12]), [-7])
        self.assertEqual(run(num(-107) + [10, 14], own=[[12]]), [-7])


class Operators(unittest.TestCase):
    def test_the_hundred_thousandth(self):
        self.assertEqual(behind_operators(99999, [14]), [0, NO_WIDTH])
        self.assertEqual(behind_operators(100000, [14]), [-10])

    def test_every_kind_counts(self):
        for code, count in ((num(1) + [12, 18], 1), (nums(1, 1) + [12, 10, 12, 18], 2), (num(-107) + [29], 2),
                            (num(0) + [22], 1), ([20], 1)):
            self.assertEqual(behind_operators(99999 - count, code + [14], [[11]])[1], NO_WIDTH)
            self.assertEqual(behind_operators(100000 - count, code + [14], [[11]]), [-10])

    def test_numbers_do_not_count(self):
        self.assertEqual(behind_operators(99998, num(1) * 48 + [12, 18, 12, 18]), [-7])
        self.assertEqual(behind_operators(99998, num(1) * 48 + [12, 18, 12, 18, 12, 18]), [-10])

    def test_behind_its_own_bytes(self):
        self.assertEqual(behind_operators(100000, [12]), [-7])
        self.assertEqual(behind_operators(100000, []), [-7])
        self.assertEqual(behind_operators(100000, [28, 0]), [-7])

    def test_ahead_of_all_else(self):
        for code in ([2], [12, 0], [12, 10], [5], [10], num(1) + [10], num(1) + [5], [1], num(1) * 2 + [5], [11],
                     num(1) + [12, 29]):
            self.assertEqual(behind_operators(100000, code), [-10], code)


class Order(unittest.TestCase):
    def test_no_path(self):
        self.assertEqual(run(nums(1, 1) + [5, 14]), [-12])
        self.assertEqual(run(nums(1) + [6, 14]), [-12])
        self.assertEqual(run(nums(1) + [7, 14]), [-12])
        for operator, count in ((8, 6), (24, 8), (25, 8), (26, 4), (27, 4), (30, 4), (31, 4)):
            self.assertEqual(run(num(1) * count + [operator, 14]), [-12], operator)
            self.assertEqual(len(run(PATH + num(1) * count + [operator, 14])) > 1, True, operator)
        for second, count in ((34, 7), (35, 13), (36, 9), (37, 11)):
            self.assertEqual(run(num(1) * count + [12, second, 14]), [-12], second)

    def test_no_path_after_hints(self):
        self.assertEqual(run(nums(1, 1) + [1] + nums(1, 1) + [5, 14]), [-12])

    def test_wrong_count_ahead_of_no_path(self):
        self.assertEqual(run(num(1) + [5]), [-3])
        self.assertEqual(run([6]), [-3])
        self.assertEqual(run(num(1) * 5 + [8]), [-3])
        self.assertEqual(run(num(1) * 8 + [12, 34]), [-3])

    def test_no_path_ahead_of_places_and_most(self):
        self.assertEqual(run(bits(GREATEST) * 4 + [5], 0), [-12])

    def test_wrong_count_ahead_of_what_the_numbers_say(self):
        self.assertEqual(run(num(-1) + [12, 20]), [-3])
        self.assertEqual(run(num(-1) + [12, 30]), [-3])
        self.assertEqual(run(num(0) + [12, 12]), [-3])
        self.assertEqual(run([12, 26]), [-3])
        self.assertEqual(run([12, 29]), [-3])

    def test_wrong_count_ahead_of_places_and_most(self):
        self.assertEqual(run(PATH + bits(GREATEST) * 3 + [5], 3), [-3])
        self.assertEqual(run(bits(GREATEST) * 4 + [21], 0), [-3])
        self.assertEqual(run(PATH + num(1) + [14], 3), [-3])

    def test_a_move(self):
        # The place is looked at ahead of all that is drawn, the close of the path before too.
        self.assertEqual(run(bits(GREATEST) + [22] + bits(1) + [22], 3), [-8])
        self.assertEqual(run(bits(GREATEST) + [22] + num(0) + [22], 3), [-9])
        self.assertEqual(run(bits(GREATEST) + [22] + num(0) + [22], 6), [-9])

    def test_a_line(self):
        far = bits(GREATEST) + [22]
        self.assertEqual(run(far + bits(1) + num(0) + [5], 3), [-8])
        self.assertEqual(run(far + num(0) * 2 + [5], 3), [-9])

    def test_line_by_line(self):
        far = bits(GREATEST) + [22]
        lines = num(0) * 2 + bits(1) + num(0) + [5]
        self.assertEqual(run(far + lines, 5), [-9])
        self.assertEqual(run(far + lines, 6), [-8])
        self.assertEqual(run(far + num(0) * 2 + bits(1) + [6], 5), [-9])
        self.assertEqual(run(far + num(0) * 2 + bits(1) + [6], 6), [-9])
        self.assertEqual(run(far + num(0) * 2 + bits(1) + [6], 9), [-8])

    def test_a_curve(self):
        far = bits(GREATEST) + [22]
        for k in (0, 2, 4):
            steps = num(0) * k + bits(1) + num(0) * (5 - k)
            self.assertEqual(run(far + steps + [8], 3), [-8], k)
        self.assertEqual(run(far + num(0) * 6 + [8], 3), [-9])
        self.assertEqual(run(far + num(0) * 6 + [8], 9), [-9])

    def test_curve_by_curve(self):
        far = bits(GREATEST) + [22]
        curves = num(0) * 6 + bits(1) + num(0) * 5
        self.assertEqual(run(far + curves + [8], 9), [-9])
        self.assertEqual(run(far + curves + [8], 10), [-8])
        self.assertEqual(run(far + curves + num(0) + [12, 35], 9), [-9])
        self.assertEqual(run(far + curves + num(0) + [12, 35], 10), [-8])

    def test_curves_and_a_line(self):
        far = bits(GREATEST) + [22]
        self.assertEqual(run(far + num(0) * 6 + bits(1) + num(0) + [24], 9), [-9])
        self.assertEqual(run(far + num(0) * 6 + bits(1) + num(0) + [24], 10), [-8])
        self.assertEqual(run(far + num(0) * 2 + bits(1) + num(0) * 5 + [25], 5), [-9])
        self.assertEqual(run(far + num(0) * 2 + bits(1) + num(0) * 5 + [25], 6), [-8])

    def test_the_first_that_is_come_to(self):
        self.assertEqual(run([2, 12]), [-4])
        self.assertEqual(run([5, 2]), [-3])
        self.assertEqual(run(num(0) + [10, 2]), [-5])
        self.assertEqual(run(num(1) + [12, 26, 12, 18, 2]), [-4])


if __name__ == "__main__":
    unittest.main()
