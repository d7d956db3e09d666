import unittest

from tests.helper import GREATEST, LEAST, NO_WIDTH, U, bits, drawn, in_path, num, nums, run


class Drawn(unittest.TestCase):
    def test_nothing(self):
        self.assertEqual(run([14]), [0, NO_WIDTH])

    def test_a_path_is_closed_at_the_end(self):
        self.assertEqual(run(nums(1, 2) + [21, 14]), [4, NO_WIDTH, 0, U, 2 * U, 3])

    def test_a_path_is_closed_before_another_begins(self):
        for second, place in ((nums(3, 4) + [21], [4 * U, 6 * U]), (nums(3) + [22], [4 * U, 2 * U]),
                              (nums(4) + [4], [U, 6 * U])):
            self.assertEqual(run(nums(1, 2) + [21] + second + [14]),
                             [8, NO_WIDTH, 0, U, 2 * U, 3, 0] + place + [3])

    def test_a_letter(self):
        code = nums(500, 100, 100) + [21] + nums(200) + [6] + nums(10, 20, 30, 40, 50, 60) + [8]
        code += nums(-10, -20) + [21] + nums(5, 6) + [5, 14]
        places = [0, 100, 100, 1, 300, 100, 2, 310, 120, 340, 160, 390, 220, 3, 0, 380, 200, 1, 385, 206, 3]
        answer = run(code)
        self.assertEqual(answer[:2], [len(places), 500 * U])
        kinds = (0, 3, 6, 13, 14, 17, 20)
        self.assertEqual(answer[2:], [n if i in kinds else n * U for i, n in enumerate(places)])

    def test_places_are_told_to_the_last_bit(self):
        self.assertEqual(drawn(bits(1) + bits(-1) + [21] + bits(98305) + bits(-3) + [5, 14]),
                         [0, 1, -1, 1, 98306, -4, 3])

    def test_the_place_begins_at_0_0_for_each_run(self):
        self.assertEqual(drawn(num(0) + [22, 14]), [0, 0, 0, 3])

    def test_steps_of_nothing_are_drawn(self):
        self.assertEqual(in_path(nums(0, 0) + [5]), [1, 0, 0])
        self.assertEqual(in_path(nums(0, 0, 0, 0, 0, 0) + [8]), [2, 0, 0, 0, 0, 0, 0])

    def test_a_line_goes_on_after_a_curve_from_its_last_place(self):
        self.assertEqual(in_path(nums(1, 2, 3, 4, 5, 6) + [8] + nums(1, 1) + [5]),
                         [2, U, 2 * U, 4 * U, 6 * U, 9 * U, 12 * U, 1, 10 * U, 13 * U])


class Edges(unittest.TestCase):
    def test_a_move_to_the_edge_and_beyond(self):
        for edge, beyond in ((GREATEST, 1), (LEAST, -1)):
            self.assertEqual(drawn(bits(edge) + [22, 14]), [0, edge, 0, 3])
            self.assertEqual(drawn(bits(edge) + [4, 14]), [0, 0, edge, 3])
            self.assertEqual(drawn(bits(edge) + bits(edge) + [21, 14]), [0, edge, edge, 3])
            self.assertEqual(drawn(bits(edge) + [22] + bits(beyond) + [22, 14]), -8)
            self.assertEqual(drawn(bits(edge) + [4] + bits(beyond) + [4, 14]), -8)
            self.assertEqual(drawn(bits(edge) + [22] + num(0) + bits(beyond) + [21, 14]),
                             [0, edge, 0, 3, 0, edge, beyond, 3])

    def test_a_line_to_the_edge_and_beyond(self):
        for edge, beyond in ((GREATEST, 1), (LEAST, -1)):
            self.assertEqual(in_path(bits(edge) + num(0) + [5]), [1, edge, 0])
            self.assertEqual(in_path(num(0) + bits(edge) + [5]), [1, 0, edge])
            self.assertEqual(in_path(bits(edge) + num(0) + [5] + bits(beyond) + num(0) + [5]), -8)
            self.assertEqual(in_path(num(0) + bits(edge) + [5] + num(0) + bits(beyond) + [5]), -8)

    def test_each_place_of_a_curve(self):
        for edge, beyond in ((GREATEST, 1), (LEAST, -1)):
            start = bits(edge) * 2 + [5]
            for k in range(6):
                steps = [num(0)] * 6
                steps[k] = bits(beyond)
                if k < 4:
                    # A step back, so that the place of this step alone is beyond the edge.
                    steps[k + 2] = bits(-beyond)
                code = [byte for step in steps for byte in step]
                self.assertEqual(in_path(start + code + [8]), -8, k)
            self.assertEqual(in_path(start + num(0) * 6 + [8]), [1, edge, edge, 2] + [edge] * 6)

    def test_a_step_beyond_32_bits_to_a_place_within(self):
        # b + d + h is 1 - 2 ** 32: no number, but the sixth step leads back to where the curves began.
        code = num(0) + bits(GREATEST) + [5] + num(0) + bits(LEAST) + num(0) + bits(LEAST + 1) + num(0) * 5
        self.assertEqual(in_path(code + [12, 36])[3:],
                         [2, 0, -1, 0, LEAST, 0, LEAST, 2, 0, LEAST, 0, LEAST, 0, GREATEST])

    def test_sums_beyond_32_bits(self):
        # Both sums are 2 ** 32 - 2, so the sixth step takes x back.
        code = bits(LEAST) * 2 + [5] + bits(GREATEST) * 4 + num(0) * 7
        self.assertEqual(in_path(code + [12, 37])[3:],
                         [2] + [-1] * 2 + [GREATEST - 1] * 4 + [2] + [GREATEST - 1] * 4 + [LEAST, GREATEST - 1])


if __name__ == "__main__":
    unittest.main()
