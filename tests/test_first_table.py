import unittest

from tests.helper import LEAST, NO_WIDTH, U, bits, drawn, in_path, num, nums, run, shape, walked

FOURS_OR_ONE_MORE = [count for count in range(4, 49) if count % 4 == 0 or count % 4 == 1]

# What each operator that draws allows of 0 to 48 numbers.
DRAWING = (
    ([5], range(2, 49, 2)),
    ([6], range(1, 49)),
    ([7], range(1, 49)),
    ([8], range(6, 49, 6)),
    ([24], range(8, 49, 6)),
    ([25], range(8, 49, 2)),
    ([26], FOURS_OR_ONE_MORE),
    ([27], FOURS_OR_ONE_MORE),
    ([30], FOURS_OR_ONE_MORE),
    ([31], FOURS_OR_ONE_MORE),
    ([12, 34], [7]),
    ([12, 35], [13]),
    ([12, 36], [9]),
    ([12, 37], [11]),
)

# The same of the others, without the width.
OTHERS = (
    ([1], range(2, 49, 2)),
    ([3], range(2, 49, 2)),
    ([18], range(2, 49, 2)),
    ([23], range(2, 49, 2)),
    ([19], range(0, 49, 2)),
    ([20], range(0, 49, 2)),
    ([21], [2]),
    ([22], [1]),
    ([4], [1]),
)


class Counts(unittest.TestCase):
    def test_lines_and_curves(self):
        for operator, allowed in DRAWING:
            for count in range(49):
                answer = run(num(0) + [22] + num(0) * count + operator + [14])
                if count in allowed:
                    self.assertGreater(answer[0], 4, (operator, count))
                else:
                    self.assertEqual(answer, [-3], (operator, count))

    def test_each_other_one_behind_another(self):
        for operator, allowed in OTHERS:
            for count in range(49):
                # As many bytes of a mask as there may be, each the end where it is none.
                code = num(0) + [22] + num(0) * count + operator + [14] * 4
                answer = run(code)
                self.assertEqual(answer != [-3], count in allowed, (operator, count))
                self.assertEqual(len(answer) > 1, count in allowed, (operator, count))

    def test_each_other_one_first(self):
        for operator, allowed in OTHERS:
            for count in range(49):
                answer = run(num(1) * count + operator + [14] * 4)
                if count in allowed:
                    self.assertEqual(answer[1], NO_WIDTH, (operator, count))
                elif count - 1 in allowed:
                    self.assertEqual(answer[1], U, (operator, count))
                else:
                    self.assertEqual(answer, [-3], (operator, count))

    def test_the_end(self):
        for count in range(49):
            first = run(num(1) * count + [14])
            self.assertEqual(first, [0, NO_WIDTH] if count == 0 else [0, U] if count == 1 else [-3])
            later = run([19] + num(1) * count + [14])
            self.assertEqual(later, [0, NO_WIDTH] if count == 0 else [-3])

    def test_the_stack_is_empty_behind_each(self):
        for operator, allowed in DRAWING:
            for count in list(allowed)[:2]:
                code = num(0) + [22] + num(0) * count + operator
                self.assertEqual(run(code + [12, 18, 14]), [-3])
                self.assertGreater(run(code + [14])[0], 0)
        for code in (num(0) * 2 + [1], num(0) * 3 + [23], num(0) * 2 + [19, 0], num(0) + [20],
                     num(0) * 3 + [21], num(0) * 2 + [22], num(0) + [4]):
            self.assertEqual(run(code + [12, 18, 14]), [-3])


class Moves(unittest.TestCase):
    def test_each(self):
        self.assertEqual(drawn(nums(3, -4) + [21, 14]), [0, 3 * U, -4 * U, 3])
        self.assertEqual(drawn(nums(3) + [22, 14]), [0, 3 * U, 0, 3])
        self.assertEqual(drawn(nums(-4) + [4, 14]), [0, 0, -4 * U, 3])

    def test_from_the_place_where_the_last_path_stopped(self):
        self.assertEqual(drawn(nums(3, 4) + [21] + nums(10, 20) + [5] + nums(5) + [22] + nums(6) + [4] +
                               nums(-1, -2) + [21, 14]),
                         [0, 3 * U, 4 * U, 1, 13 * U, 24 * U, 3, 0, 18 * U, 24 * U, 3, 0, 18 * U, 30 * U, 3,
                          0, 17 * U, 28 * U, 3])


class Lines(unittest.TestCase):
    def test_lines(self):
        self.assertEqual(shape(nums(1, 2) + [5]), walked([(1, 2)]))
        self.assertEqual(shape(nums(1, 2, -10, 20, 5, -6) + [5]), walked([(1, 2)], [(-10, 20)], [(5, -6)]))

    def test_lines_in_turn(self):
        self.assertEqual(shape(nums(1) + [6]), walked([(1, 0)]))
        self.assertEqual(shape(nums(1, 2, 3, -4) + [6]), walked([(1, 0)], [(0, 2)], [(3, 0)], [(0, -4)]))
        self.assertEqual(shape(nums(1) + [7]), walked([(0, 1)]))
        self.assertEqual(shape(nums(1, 2, 3, -4) + [7]), walked([(0, 1)], [(2, 0)], [(0, 3)], [(-4, 0)]))

    def test_each_operator_begins_its_turns_anew(self):
        self.assertEqual(shape(nums(1) + [6] + nums(2) + [6]), walked([(1, 0)], [(2, 0)]))
        self.assertEqual(shape(nums(1) + [7] + nums(2) + [7]), walked([(0, 1)], [(0, 2)]))


class Curves(unittest.TestCase):
    def test_curves(self):
        self.assertEqual(shape(nums(1, 2, 3, 4, 5, 6) + [8]), [(2, 1, 2, 4, 6, 9, 12)])
        self.assertEqual(shape(nums(1, 2, 3, 4, 5, 6, -7, 8, -9, 10, -11, 12) + [8]),
                         [(2, 1, 2, 4, 6, 9, 12), (2, 2, 20, -7, 30, -18, 42)])

    def test_curves_then_a_line(self):
        self.assertEqual(shape(nums(1, 2, 3, 4, 5, 6, 7, 8) + [24]),
                         walked([(1, 2), (3, 4), (5, 6)], [(7, 8)]))
        self.assertEqual(shape(nums(1, 2, 3, 4, 5, 6, 9, 8, 7, 6, 5, 4, 30, 40) + [24]),
                         walked([(1, 2), (3, 4), (5, 6)], [(9, 8), (7, 6), (5, 4)], [(30, 40)]))

    def test_lines_then_a_curve(self):
        self.assertEqual(shape(nums(7, 8, 1, 2, 3, 4, 5, 6) + [25]),
                         walked([(7, 8)], [(1, 2), (3, 4), (5, 6)]))
        self.assertEqual(shape(nums(7, 8, 9, 10, 11, 12, 1, 2, 3, 4, 5, 6) + [25]),
                         walked([(7, 8)], [(9, 10)], [(11, 12)], [(1, 2), (3, 4), (5, 6)]))

    def test_level(self):
        self.assertEqual(shape(nums(1, 2, 3, 4) + [27]), walked([(1, 0), (2, 3), (4, 0)]))
        self.assertEqual(shape(nums(9, 1, 2, 3, 4) + [27]), walked([(1, 9), (2, 3), (4, 0)]))
        self.assertEqual(shape(nums(9, 1, 2, 3, 4, 5, 6, 7, 8) + [27]),
                         walked([(1, 9), (2, 3), (4, 0)], [(5, 0), (6, 7), (8, 0)]))
        self.assertEqual(shape(nums(1, 2, 3, 4, 5, 6, 7, 8) + [27]),
                         walked([(1, 0), (2, 3), (4, 0)], [(5, 0), (6, 7), (8, 0)]))

    def test_standing(self):
        self.assertEqual(shape(nums(1, 2, 3, 4) + [26]), walked([(0, 1), (2, 3), (0, 4)]))
        self.assertEqual(shape(nums(9, 1, 2, 3, 4) + [26]), walked([(9, 1), (2, 3), (0, 4)]))
        self.assertEqual(shape(nums(9, 1, 2, 3, 4, 5, 6, 7, 8) + [26]),
                         walked([(9, 1), (2, 3), (0, 4)], [(0, 5), (6, 7), (0, 8)]))
        self.assertEqual(shape(nums(1, 2, 3, 4, 5, 6, 7, 8) + [26]),
                         walked([(0, 1), (2, 3), (0, 4)], [(0, 5), (6, 7), (0, 8)]))

    def test_in_turn_from_flat(self):
        self.assertEqual(shape(nums(1, 2, 3, 4) + [31]), walked([(1, 0), (2, 3), (0, 4)]))
        self.assertEqual(shape(nums(1, 2, 3, 4, 9) + [31]), walked([(1, 0), (2, 3), (9, 4)]))
        self.assertEqual(shape(nums(1, 2, 3, 4, 5, 6, 7, 8) + [31]),
                         walked([(1, 0), (2, 3), (0, 4)], [(0, 5), (6, 7), (8, 0)]))
        self.assertEqual(shape(nums(1, 2, 3, 4, 5, 6, 7, 8, 9) + [31]),
                         walked([(1, 0), (2, 3), (0, 4)], [(0, 5), (6, 7), (8, 9)]))
        self.assertEqual(shape(nums(1, 2, 3, 4, 5, 6, 7, 8, 10, 11, 12, 13, 9) + [31]),
                         walked([(1, 0), (2, 3), (0, 4)], [(0, 5), (6, 7), (8, 0)], [(10, 0), (11, 12), (9, 13)]))

    def test_in_turn_from_upright(self):
        self.assertEqual(shape(nums(1, 2, 3, 4) + [30]), walked([(0, 1), (2, 3), (4, 0)]))
        self.assertEqual(shape(nums(1, 2, 3, 4, 9) + [30]), walked([(0, 1), (2, 3), (4, 9)]))
        self.assertEqual(shape(nums(1, 2, 3, 4, 5, 6, 7, 8) + [30]),
                         walked([(0, 1), (2, 3), (4, 0)], [(5, 0), (6, 7), (0, 8)]))
        self.assertEqual(shape(nums(1, 2, 3, 4, 5, 6, 7, 8, 9) + [30]),
                         walked([(0, 1), (2, 3), (4, 0)], [(5, 0), (6, 7), (9, 8)]))
        self.assertEqual(shape(nums(1, 2, 3, 4, 5, 6, 7, 8, 10, 11, 12, 13, 9) + [30]),
                         walked([(0, 1), (2, 3), (4, 0)], [(5, 0), (6, 7), (0, 8)], [(0, 10), (11, 12), (13, 9)]))


class TwoCurves(unittest.TestCase):
    def test_of_seven(self):
        self.assertEqual(shape(nums(1, 2, 3, 4, 5, 6, 7) + [12, 34]),
                         walked([(1, 0), (2, 3), (4, 0)], [(5, 0), (6, -3), (7, 0)]))

    def test_of_seven_with_the_least_number(self):
        least = bits(LEAST)
        self.assertEqual(in_path(nums(0, 0) + least + nums(0, 0, 0, 0) + [12, 34]),
                         [2, 0, 0, 0, LEAST, 0, LEAST, 2, 0, LEAST, 0, 0, 0, 0])

    def test_of_thirteen(self):
        twelve = nums(1, 2, 3, 4, 5, 6, 7, 8, 9, 10, 11, 12)
        two = walked([(1, 2), (3, 4), (5, 6)], [(7, 8), (9, 10), (11, 12)])
        for last in (0, 50, -107):
            self.assertEqual(shape(twelve + num(last) + [12, 35]), two)

    def test_of_nine(self):
        self.assertEqual(shape(nums(1, 2, 3, 4, 5, 6, 7, 8, 9) + [12, 36]),
                         walked([(1, 2), (3, 4), (5, 0)], [(6, 0), (7, 8), (9, -14)]))
        self.assertEqual(shape(nums(1, -2, 3, 40, 5, 6, 7, -80, 9) + [12, 36]),
                         walked([(1, -2), (3, 40), (5, 0)], [(6, 0), (7, -80), (9, 42)]))

    def test_of_eleven_along_x(self):
        # dx: 1 + 3 + 5 + 7 + 9 = 25; dy: 2 + 4 - 6 + 8 + 1 = 9
        self.assertEqual(shape(nums(1, 2, 3, 4, 5, -6, 7, 8, 9, 1, 50) + [12, 37]),
                         walked([(1, 2), (3, 4), (5, -6)], [(7, 8), (9, 1), (50, -9)]))

    def test_of_eleven_along_y(self):
        # dx: 25; dy: 30
        self.assertEqual(shape(nums(1, 2, 3, 4, 5, 6, 7, 8, 9, 10, 50) + [12, 37]),
                         walked([(1, 2), (3, 4), (5, 6)], [(7, 8), (9, 10), (-25, 50)]))

    def test_of_eleven_without_the_signs_of_the_sums(self):
        # dx: -25, dy: 9; then dx: 9, dy: -25
        self.assertEqual(shape(nums(-25, 9, 0, 0, 0, 0, 0, 0, 0, 0, 50) + [12, 37])[1][-2:], (25, 0))
        self.assertEqual(shape(nums(9, -25, 0, 0, 0, 0, 0, 0, 0, 0, 50) + [12, 37])[1][-2:], (0, 25))

    def test_of_eleven_looks_at_the_sums_alone(self):
        # dx: 60 - 60 + 1 = 1, dy: 2
        self.assertEqual(shape(nums(60, 2, -60, 0, 1, 0, 0, 0, 0, 0, 50) + [12, 37])[1][-2:], (0, 52))

    def test_of_eleven_with_sums_as_great_as_each_other(self):
        self.assertEqual(shape(nums(4, 4, 0, 0, 0, 0, 0, 0, 0, 0, 50) + [12, 37])[1][-2:], (0, 54))
        self.assertEqual(shape(nums(-4, 4, 0, 0, 0, 0, 0, 0, 0, 0, 50) + [12, 37])[1][-2:], (0, 54))
        self.assertEqual(shape(nums(5, 4, 0, 0, 0, 0, 0, 0, 0, 0, 50) + [12, 37])[1][-2:], (55, 0))


class End(unittest.TestCase):
    def test_what_stands_behind_it_is_not_read(self):
        self.assertEqual(run([14, 2, 0, 255]), [0, NO_WIDTH])
        self.assertEqual(run(num(1) + [22, 14] + num(1) + [22, 14]), [4, NO_WIDTH, 0, U, 0, 3])

    def test_in_a_subroutine(self):
        self.assertEqual(run(num(-107) + [10, 2], own=[num(1) + [22, 14, 2]]), [4, NO_WIDTH, 0, U, 0, 3])
        self.assertEqual(run(num(-107) + [29, 2], common=[[14]]), [0, NO_WIDTH])

    def test_in_a_subroutine_within_another(self):
        self.assertEqual(run(num(-107) + [10, 2], own=[num(-106) + [10, 2], num(5) + [14]]), [0, 5 * U])


if __name__ == "__main__":
    unittest.main()
