import unittest

from tests.helper import NO_WIDTH, U, ask, bits, drawn, num, nums, run, run_call, subrs_call


def chain(count, last):
    """Subroutines each of which calls the next; the last of them is what is told."""
    return [num(i + 1 - 107) + [10, 11] for i in range(count - 1)] + [last]


class Calls(unittest.TestCase):
    def test_both_kinds(self):
        own = [num(1) + [11], num(2) + [11]]
        common = [num(3) + [11], num(4) + [11]]
        for number, operator, width in ((0, 10, 1), (1, 10, 2), (0, 29, 3), (1, 29, 4)):
            self.assertEqual(run(num(number - 107) + [operator, 14], own=own, common=common), [0, width * U])

    def test_one_kind_alone(self):
        self.assertEqual(run(num(-107) + [29, 14], own=[[11]]), [-5])
        self.assertEqual(run(num(-107) + [10, 14], common=[[11]]), [-5])

    def test_it_goes_on_behind_the_call(self):
        self.assertEqual(drawn(num(1) + [22] + nums(2, -107) + [10] + num(5) + [6, 14], own=[num(3) + [6, 11]]),
                         [0, U, 0, 1, 3 * U, 0, 1, 3 * U, 3 * U, 1, 8 * U, 3 * U, 3])

    def test_what_is_on_the_stack_stays_there(self):
        self.assertEqual(drawn(nums(1, -107) + [10, 21, 14], own=[num(2) + [11]]), [0, U, 2 * U, 3])

    def test_the_bytes_behind_its_end_are_not_read(self):
        self.assertEqual(run(num(-107) + [10, 14], own=[[11, 2, 2]]), [0, NO_WIDTH])

    def test_each_kind_within_the_other(self):
        own = [num(-107) + [29] + num(1) + [12, 10, 11]]
        common = [num(-106) + [29] + num(5) + [12, 10, 11], num(7) + [11]]
        self.assertEqual(run(num(-107) + [10, 14], own=own, common=common), [0, 13 * U])

    def test_again_and_again(self):
        self.assertEqual(run(num(0) + (num(-107) + [10]) * 40 + [14], own=[num(1) + [12, 10, 11]]), [0, 40 * U])


class Added(unittest.TestCase):
    def check(self, kind, operator, count, added):
        bodies = [num(i % 200 - 100) + [14] for i in range(count)]
        numbers = (-1, 0, 1, count - 2, count - 1, count)
        calls = [run_call(num(number - added) + [operator]) for number in numbers]
        expected = [[0, (i % 200 - 100) * U] if 0 <= i < count else [-5] for i in numbers]
        self.assertEqual(ask(subrs_call(kind, bodies), *calls)[1:], expected)

    def test_107_for_fewer_than_1240(self):
        for kind, operator in ((0, 10), (1, 29)):
            for count in (2, 3, 500, 1239):
                self.check(kind, operator, count, 107)

    def test_1131_from_1240_on(self):
        for kind, operator in ((0, 10), (1, 29)):
            for count in (1240, 1241, 2048):
                self.check(kind, operator, count, 1131)

    def test_each_kind_by_its_own_count(self):
        many = [num(4) + [14]] * 1240
        few = [num(5) + [14]]
        self.assertEqual(run(num(-107) + [29], own=many, common=few), [0, 5 * U])
        self.assertEqual(run(num(-1131) + [10], own=many, common=few), [0, 4 * U])
        self.assertEqual(run(num(-107) + [10], own=few, common=many), [0, 5 * U])
        self.assertEqual(run(num(-1131) + [29], own=few, common=many), [0, 4 * U])

    def test_the_whole_part(self):
        own = [num(1) + [14], num(2) + [14]]
        for i, answer in ((-107 * U, [0, U]), (-106 * U - 1, [0, U]), (-106 * U, [0, 2 * U]),
                          (-105 * U - 1, [0, 2 * U]), (-105 * U, [-5]), (-107 * U - 1, [-5])):
            self.assertEqual(run(bits(i) + [10], own=own), answer)

    def test_no_such_subroutine(self):
        self.assertEqual(run(num(0) + [10]), [-5])
        self.assertEqual(run(num(0) + [29]), [-5])
        for i in (-32768, -108, -106, 0, 32767):
            self.assertEqual(run(num(i) + [10], own=[[14]]), [-5])
            self.assertEqual(run(num(i) + [29], common=[[14]]), [-5])


class Within(unittest.TestCase):
    def test_ten(self):
        self.assertEqual(run(num(-107) + [10, 14], own=chain(10, [11])), [0, NO_WIDTH])
        self.assertEqual(run(num(-107) + [10], own=chain(10, num(6) + [14])), [0, 6 * U])

    def test_eleven(self):
        self.assertEqual(run(num(-107) + [10, 14], own=chain(11, [11])), [-6])
        self.assertEqual(run(num(-107) + [10, 14], own=chain(11, [14])), [-6])

    def test_both_kinds_count(self):
        # The ninth of the own kind calls a common one, which is the tenth, and may call another.
        own = chain(9, num(-107) + [29, 11])
        self.assertEqual(run(num(-107) + [10, 14], own=own, common=[[11]]), [0, NO_WIDTH])
        self.assertEqual(run(num(-107) + [10, 14], own=own, common=[num(-106) + [29, 11], [11]]), [-6])

    def test_one_behind_another_is_not_within(self):
        code = (num(-107) + [10]) * 11 + [14]
        self.assertEqual(run(code, own=chain(10, [11])), [0, NO_WIDTH])

    def test_one_that_calls_itself(self):
        self.assertEqual(run(num(-107) + [10], own=[num(-107) + [10]]), [-6])

    def test_no_such_subroutine_comes_first(self):
        self.assertEqual(run(num(-107) + [10], own=chain(10, num(50) + [10])), [-5])
        self.assertEqual(run(num(-107) + [10], own=chain(10, [10])), [-3])


class Ends(unittest.TestCase):
    def test_a_subroutine_without_its_end(self):
        self.assertEqual(run(num(-107) + [10, 14], own=[[]]), [-7])
        self.assertEqual(run(num(-107) + [10, 14], own=[num(1)]), [-7])
        self.assertEqual(run(num(-107) + [29, 14], common=[num(1) + [22]]), [-7])
        self.assertEqual(run(num(-107) + [10, 14], own=[[12]]), [-7])

    def test_a_program_without_its_end(self):
        self.assertEqual(run([]), [-7])
        self.assertEqual(run(num(1)), [-7])
        self.assertEqual(run(num(1) + [22]), [-7])
        self.assertEqual(run(num(-107) + [10], own=[[11]]), [-7])

    def test_an_end_of_a_subroutine_outside_one(self):
        self.assertEqual(run([11]), [-7])
        self.assertEqual(run([11, 14]), [-7])
        self.assertEqual(run(num(-107) + [10, 11, 14], own=[[11]]), [-7])


if __name__ == "__main__":
    unittest.main()
