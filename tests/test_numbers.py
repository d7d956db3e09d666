import unittest

from tests.helper import GREATEST, LEAST, U, run, stack_of


class Numbers(unittest.TestCase):
    def check(self, table):
        for written, value in table:
            self.assertEqual(stack_of(written), [value], written)

    def test_one_byte(self):
        self.check([([32], -107 * U), ([33], -106 * U), ([138], -U), ([139], 0), ([140], U),
                    ([245], 106 * U), ([246], 107 * U)])

    def test_two_bytes_above_0(self):
        self.check([([247, 0], 108 * U), ([247, 255], 363 * U), ([248, 0], 364 * U), ([249, 7], 627 * U),
                    ([250, 0], 876 * U), ([250, 255], 1131 * U)])

    def test_two_bytes_below_0(self):
        self.check([([251, 0], -108 * U), ([251, 255], -363 * U), ([252, 0], -364 * U), ([253, 7], -627 * U),
                    ([254, 0], -876 * U), ([254, 255], -1131 * U)])

    def test_sixteen_bits(self):
        self.check([([28, 0, 0], 0), ([28, 0, 1], U), ([28, 1, 0], 256 * U), ([28, 18, 52], 4660 * U),
                    ([28, 127, 255], 32767 * U), ([28, 255, 255], -U), ([28, 255, 0], -256 * U)])

    def test_the_least_of_sixteen_bits(self):
        self.assertEqual(run([28, 128, 0, 22, 14]), [4, LEAST, 0, -32768 * U, 0, 3])
        self.assertEqual(run([28, 128, 1, 22, 14]), [4, LEAST, 0, -32767 * U, 0, 3])

    def test_thirty_two_bits(self):
        self.check([([255, 0, 0, 0, 0], 0), ([255, 0, 0, 0, 1], 1), ([255, 0, 1, 0, 0], U),
                    ([255, 1, 2, 3, 4], 16909060), ([255, 255, 255, 255, 255], -1), ([255, 255, 255, 0, 0], -U)])

    def test_the_edges_of_thirty_two_bits(self):
        self.assertEqual(run([255, 127, 255, 255, 255, 22, 14]), [4, LEAST, 0, GREATEST, 0, 3])
        self.assertEqual(run([255, 128, 0, 0, 0, 22, 14]), [4, LEAST, 0, LEAST, 0, 3])

    def test_each_first_byte(self):
        for byte in range(32, 247):
            self.assertEqual(stack_of([byte]), [(byte - 139) * U])
        for byte in range(247, 251):
            for w in (0, 1, 128, 255):
                self.assertEqual(stack_of([byte, w]), [((byte - 247) * 256 + w + 108) * U])
        for byte in range(251, 255):
            for w in (0, 1, 128, 255):
                self.assertEqual(stack_of([byte, w]), [(-(byte - 251) * 256 - w - 108) * U])

    def test_several_stand_in_their_order(self):
        self.assertEqual(stack_of([140, 247, 0, 251, 0, 28, 0, 2, 255, 0, 0, 0, 9, 141]),
                         [U, 108 * U, -108 * U, 2 * U, 9, 2 * U])

    def test_bytes_that_end_within_one(self):
        for written in ([247, 0], [250, 0], [251, 0], [254, 0], [28, 0, 0], [255, 0, 0, 0, 0]):
            for cut in range(1, len(written)):
                self.assertEqual(run(written[:cut]), [-7])
                self.assertEqual(run([140, 22] + written[:cut]), [-7])
                # What stands behind the call is no part of the subroutine's number.
                self.assertEqual(run([32, 10, 0, 0, 0, 0, 14], own=[written[:cut]]), [-7])

    def test_bytes_that_end_come_ahead_of_a_full_stack(self):
        self.assertEqual(run([140] * 48 + [28, 0]), [-7])
        self.assertEqual(run([140] * 48 + [28, 0, 0]), [-2])


if __name__ == "__main__":
    unittest.main()
