import unittest

from tests.helper import GREATEST, LEAST, NO_WIDTH, U, bits, num, nums, run, stack_of

HALF = U // 2


def top(code):
    """The number that stands alone on the stack behind code; a refusal as a list."""
    answer = run(code + [22, 14])
    if len(answer) == 1:
        return answer
    assert answer[:3] == [4, NO_WIDTH, 0] and answer[4:] == [0, 3]
    return answer[3]


def of(second, *numbers):
    """The one number that 12 and this byte make of these."""
    return top([byte for number in numbers for byte in bits(number)] + [12, second])


class TooFew(unittest.TestCase):
    def test_each(self):
        takes = {3: 2, 4: 2, 5: 1, 9: 1, 10: 2, 11: 2, 12: 2, 14: 1, 15: 2, 18: 1, 20: 2, 21: 1, 22: 4, 24: 2,
                 26: 1, 27: 1, 28: 2, 29: 1, 30: 2}
        for second, count in takes.items():
            for fewer in range(count):
                self.assertEqual(run(num(1) * fewer + [12, second, 14]), [-3], (second, fewer))

    def test_calls(self):
        self.assertEqual(run([10, 14], own=[[14]]), [-3])
        self.assertEqual(run([29, 14], common=[[14]]), [-3])

    def test_others_below_stay(self):
        one_of_two = {3: U, 4: U, 10: 5 * U, 11: -U, 15: 0, 24: 6 * U}
        for second, made in one_of_two.items():
            self.assertEqual(stack_of(nums(8, 9, 2, 3) + [12, second]), [8 * U, 9 * U, made], second)
        one_of_one = {5: 0, 9: 4 * U, 14: -4 * U, 26: 2 * U}
        for second, made in one_of_one.items():
            self.assertEqual(stack_of(nums(8, 9, 4) + [12, second]), [8 * U, 9 * U, made], second)
        self.assertEqual(stack_of(nums(8, 9, 6, 3) + [12, 12]), [8 * U, 9 * U, 2 * U])
        self.assertEqual(stack_of(nums(8, 9, 1, 2, 3, 4) + [12, 22]), [8 * U, 9 * U, U])
        self.assertEqual(stack_of(nums(8, 9, 4) + [12, 18]), [8 * U, 9 * U])
        self.assertEqual(stack_of(nums(8, 9, 4) + [12, 27]), [8 * U, 9 * U, 4 * U, 4 * U])
        self.assertEqual(stack_of(nums(8, 9, 4) + [12, 28]), [8 * U, 4 * U, 9 * U])
        self.assertEqual(stack_of(nums(8, 9, 4, 0) + [12, 20]), [8 * U, 9 * U])
        self.assertEqual(stack_of(nums(8, 9, 4) + [12, 21]), [8 * U, 9 * U, 0])
        self.assertEqual(stack_of(nums(8, 9, 4, 1) + [12, 29]), [8 * U, 9 * U, 4 * U, 9 * U])


class Truths(unittest.TestCase):
    def test_both(self):
        for a, b, made in ((0, 0, 0), (0, 1, 0), (1, 0, 0), (1, 1, U), (-1, U, U), (LEAST, GREATEST, U)):
            self.assertEqual(of(3, a, b), made)

    def test_one(self):
        for a, b, made in ((0, 0, 0), (0, 1, U), (1, 0, U), (1, 1, U), (-1, 0, U), (0, LEAST, U)):
            self.assertEqual(of(4, a, b), made)

    def test_none(self):
        for a, made in ((0, U), (1, 0), (-1, 0), (U, 0), (LEAST, 0)):
            self.assertEqual(of(5, a), made)

    def test_equal(self):
        for a, b, made in ((0, 0, U), (1, 0, 0), (5, 5, U), (-5, 5, 0), (LEAST, LEAST, U), (U, U + 1, 0)):
            self.assertEqual(of(15, a, b), made)

    def test_chosen(self):
        for c, d, made in ((1, 2, 30), (2, 2, 30), (3, 2, 40), (-3, 2, 30), (2, -3, 40), (LEAST, GREATEST, 30)):
            self.assertEqual(of(22, 30, 40, c, d), made)


class Reckoning(unittest.TestCase):
    def test_without_sign(self):
        for a, made in ((5, 5), (-5, 5), (0, 0), (GREATEST, GREATEST), (-GREATEST, GREATEST), (LEAST, [-8])):
            self.assertEqual(of(9, a), made)

    def test_other_sign(self):
        for a, made in ((5, -5), (-5, 5), (0, 0), (GREATEST, -GREATEST), (-GREATEST, GREATEST), (LEAST, [-8])):
            self.assertEqual(of(14, a), made)

    def test_plus(self):
        for a, b, made in ((5, 7, 12), (-5, 7, 2), (-5, -7, -12), (GREATEST, 0, GREATEST), (GREATEST, 1, [-8]),
                           (GREATEST - 1, 1, GREATEST), (LEAST, 0, LEAST), (LEAST, -1, [-8]),
                           (LEAST + 1, -1, LEAST), (LEAST, GREATEST, -1)):
            self.assertEqual(of(10, a, b), made)

    def test_minus(self):
        for a, b, made in ((5, 7, -2), (7, 5, 2), (-5, -7, 2), (-5, 7, -12), (GREATEST, -1, [-8]),
                           (GREATEST - 1, -1, GREATEST), (LEAST, 1, [-8]), (LEAST + 1, 1, LEAST), (0, LEAST, [-8]),
                           (-1, LEAST, GREATEST), (LEAST, LEAST, 0)):
            self.assertEqual(of(11, a, b), made)

    def test_times(self):
        for a, b, made in ((3 * U, 4 * U, 12 * U), (-3 * U, 4 * U, -12 * U), (-3 * U, -4 * U, 12 * U),
                           (HALF, HALF, U // 4), (0, LEAST, 0), (LEAST, U, LEAST), (GREATEST, U, GREATEST)):
            self.assertEqual(of(24, a, b), made)

    def test_times_rounds_down(self):
        for a, b, made in ((1, 1, 0), (1, -1, -1), (-1, 1, -1), (-1, -1, 0), (3, HALF, 1), (-3, HALF, -2),
                           (3, -HALF, -2), (-3, -HALF, 1), (1, U - 1, 0), (1, 1 - U, -1)):
            self.assertEqual(of(24, a, b), made)

    def test_times_within_bits(self):
        for a, b, made in ((GREATEST, U + 1, [-8]), (LEAST, -U, [-8]), (LEAST, U + 1, [-8]),
                           (LEAST, LEAST, [-8]), (181 * U, 181 * U, 32761 * U), (182 * U, 182 * U, [-8]),
                           (-256 * U, 128 * U, LEAST), (256 * U, 128 * U, [-8])):
            self.assertEqual(of(24, a, b), made)

    def test_divided(self):
        for a, b, made in ((12 * U, 4 * U, 3 * U), (-12 * U, 4 * U, -3 * U), (12 * U, -4 * U, -3 * U),
                           (-12 * U, -4 * U, 3 * U), (U, 2 * U, HALF), (0, U, 0), (0, -U, 0), (LEAST, U, LEAST)):
            self.assertEqual(of(12, a, b), made)

    def test_divided_is_cut_off_towards_0(self):
        for a, b, made in ((U, 3 * U, 21845), (-U, 3 * U, -21845), (U, -3 * U, -21845), (-U, -3 * U, 21845),
                           (2 * U, 3 * U, 43690), (-2 * U, 3 * U, -43690), (1, 2 * U, 0), (-1, 2 * U, 0),
                           (1, 1, U), (-1, 1, -U), (1, -1, -U), (-1, -1, U), (-2, 3, -43690), (2, -3, -43690)):
            self.assertEqual(of(12, a, b), made)

    def test_divided_by_0_and_within_bits(self):
        for a, b, made in ((U, 0, [-8]), (0, 0, [-8]), (-U, 0, [-8]), (LEAST, -U, [-8]), (32767, 1, 32767 * U),
                           (32768, 1, [-8]), (-32768, 1, LEAST), (-32769, 1, [-8]), (LEAST, 1, [-8])):
            self.assertEqual(of(12, a, b), made)

    def test_root(self):
        for a, made in ((0, 0), (U, U), (4 * U, 2 * U), (2 * U, 92681), (3 * U, 113511), (HALF, 46340), (1, 256),
                        (2, 362), (U - 1, 65535), (100 * U, 10 * U), (GREATEST, 11863283), (-1, [-8]),
                        (LEAST, [-8]), (-U, [-8])):
            self.assertEqual(of(26, a), made)

    def test_root_is_the_greatest(self):
        for a in list(range(0, 3000, 7)) + [9 * U - 1, 9 * U, 9 * U + 1, 1234567, 987654321, GREATEST - 1]:
            r = of(26, a)
            self.assertLessEqual(r * r, U * a)
            self.assertGreater((r + 1) * (r + 1), U * a)


class Moving(unittest.TestCase):
    def test_drop_double_swap(self):
        self.assertEqual(stack_of(nums(1) + [12, 18]), [])
        self.assertEqual(stack_of(nums(1) + [12, 27]), [U, U])
        self.assertEqual(stack_of(nums(1, 2) + [12, 28]), [2 * U, U])

    def test_double_on_a_full_stack(self):
        path = num(0) + [22]
        self.assertEqual(run(path + num(1) * 47 + [12, 27, 6, 14])[0], 3 + 48 * 3 + 1)
        self.assertEqual(run(path + num(1) * 48 + [12, 27, 6, 14]), [-2])

    def test_what_leaves_no_more_than_it_took_may_stand_on_a_full_stack(self):
        path = num(0) + [22]
        for ahead, second in ((num(0), 21), (num(0), 29), (num(1), 5), (num(1), 14)):
            answer = run(path + num(1) * 47 + ahead + [12, second, 6, 14])
            self.assertEqual(answer[0], 3 + 48 * 3 + 1, second)


class Cells(unittest.TestCase):
    def test_each_cell(self):
        fill = []
        for cell in range(32):
            fill += num(100 - cell) + num(cell) + [12, 20]
        for cell in range(32):
            self.assertEqual(stack_of(fill + num(cell) + [12, 21]), [(100 - cell) * U])

    def test_they_are_0_at_first(self):
        for cell in range(32):
            self.assertEqual(stack_of(num(cell) + [12, 21]), [0])

    def test_the_whole_part_says_which(self):
        fill = nums(5, 0) + [12, 20] + nums(6, 1) + [12, 20] + nums(7, 31) + [12, 20]
        self.assertEqual(stack_of(fill + bits(U - 1) + [12, 21]), [5 * U])
        self.assertEqual(stack_of(fill + bits(2 * U - 1) + [12, 21]), [6 * U])
        self.assertEqual(stack_of(fill + bits(32 * U - 1) + [12, 21]), [7 * U])
        self.assertEqual(stack_of(num(9) + bits(U + HALF) + [12, 20] + num(1) + [12, 21]), [9 * U])
        self.assertEqual(stack_of(num(9) + bits(32 * U - 1) + [12, 20] + num(31) + [12, 21]), [9 * U])

    def test_cells_that_there_are_not(self):
        for i in (-1, -U, 32 * U, 32 * U + 1, LEAST, GREATEST):
            self.assertEqual(run(bits(i) + [12, 21, 22, 14]), [-8])
            self.assertEqual(run(num(1) + bits(i) + [12, 20, 14]), [-8])

    def test_a_cell_keeps_all_bits_and_may_be_written_again(self):
        self.assertEqual(stack_of(bits(-12345) + num(3) + [12, 20] + num(3) + [12, 21]), [-12345])
        self.assertEqual(stack_of(nums(1, 3) + [12, 20] + nums(2, 3) + [12, 20] + num(3) + [12, 21]), [2 * U])

    def test_reading_leaves_what_is_in_it(self):
        self.assertEqual(stack_of(nums(4, 3) + [12, 20] + nums(3) + [12, 21] + nums(3) + [12, 21]), [4 * U, 4 * U])

    def test_cells_are_shared_with_subroutines(self):
        self.assertEqual(stack_of(nums(4, 3) + [12, 20] + num(-107) + [10], own=[num(3) + [12, 21, 11]]), [4 * U])


class OnceMore(unittest.TestCase):
    def test_places(self):
        for i, again in ((0, 3), (1, 2), (2, 1)):
            self.assertEqual(stack_of(nums(1, 2, 3, i) + [12, 29]), [U, 2 * U, 3 * U, again * U])

    def test_below_0_is_0(self):
        for i in (-1, -HALF, -U, -5 * U, LEAST):
            self.assertEqual(stack_of(nums(1, 2, 3) + bits(i) + [12, 29]), [U, 2 * U, 3 * U, 3 * U])

    def test_the_whole_part(self):
        self.assertEqual(stack_of(nums(1, 2, 3) + bits(U - 1) + [12, 29]), [U, 2 * U, 3 * U, 3 * U])
        self.assertEqual(stack_of(nums(1, 2, 3) + bits(3 * U - 1) + [12, 29]), [U, 2 * U, 3 * U, U])

    def test_places_that_there_are_not(self):
        for i in (3 * U, 4 * U, 47 * U, GREATEST):
            self.assertEqual(stack_of(nums(1, 2, 3) + bits(i) + [12, 29]), -8)

    def test_nothing_below_i(self):
        for i in (0, 1, -1, LEAST, GREATEST):
            self.assertEqual(run(bits(i) + [12, 29, 14]), [-8])

    def test_the_lowest_of_a_full_stack(self):
        code = num(0) + [22] + num(5) + num(0) * 46 + num(46) + [12, 29, 6, 14]
        self.assertEqual(run(code)[-3:], [5 * U, 5 * U, 3])


class Turn(unittest.TestCase):
    def check(self, count, by, expected):
        self.assertEqual(stack_of(nums(1, 2, 3, 4) + nums(count, by) + [12, 30]), [n * U for n in expected])

    def test_by_one(self):
        self.check(3, 1, [1, 4, 2, 3])
        self.check(4, 1, [4, 1, 2, 3])
        self.check(2, 1, [1, 2, 4, 3])

    def test_back_by_one(self):
        self.check(3, -1, [1, 3, 4, 2])
        self.check(4, -1, [2, 3, 4, 1])

    def test_by_others(self):
        self.check(4, 0, [1, 2, 3, 4])
        self.check(4, 2, [3, 4, 1, 2])
        self.check(4, 3, [2, 3, 4, 1])
        self.check(4, 4, [1, 2, 3, 4])
        self.check(4, 5, [4, 1, 2, 3])
        self.check(3, -2, [1, 4, 2, 3])
        self.check(3, -3, [1, 2, 3, 4])
        self.check(3, -4, [1, 3, 4, 2])
        self.check(3, 32767, [1, 4, 2, 3])
        self.check(3, -32768, [1, 4, 2, 3])

    def test_none_or_one_of_them(self):
        for by in (-2, -1, 0, 1, 2):
            self.check(0, by, [1, 2, 3, 4])
            self.check(1, by, [1, 2, 3, 4])

    def test_none_where_nothing_else_stands(self):
        self.assertEqual(stack_of(nums(0, 1) + [12, 30]), [])

    def test_the_whole_parts(self):
        for count, by, expected in ((4 * U - 1, U, [1, 4, 2, 3]), (3 * U, 2 * U - 1, [1, 4, 2, 3]),
                                    (3 * U, -1, [1, 3, 4, 2]), (U - 1, U, [1, 2, 3, 4])):
            self.assertEqual(stack_of(nums(1, 2, 3, 4) + bits(count) + bits(by) + [12, 30]), [n * U for n in expected])

    def test_of_more_than_there_are(self):
        for count in (5 * U, 6 * U, GREATEST):
            self.assertEqual(stack_of(nums(1, 2, 3, 4) + bits(count) + num(1) + [12, 30]), -8)
        self.assertEqual(run(nums(1, 1) + [12, 30, 14]), [-8])

    def test_of_fewer_than_none(self):
        for count in (-1, -U, -2 * U, LEAST):
            self.assertEqual(stack_of(nums(1, 2, 3, 4) + bits(count) + num(1) + [12, 30]), -8)
            self.assertEqual(stack_of(nums(1, 2, 3, 4) + bits(count) + num(0) + [12, 30]), -8)


if __name__ == "__main__":
    unittest.main()
