import contextlib
import io
import unittest

from outlineruns.outlines import answers
from tests.helper import NO_WIDTH, U, ask, num, run_call, subrs_call, subrs_raw

LIST = (
    subrs_call(0, [num(5) + [22, 14]])
    + run_call(num(-107) + [10])
    + run_call([])
    + subrs_raw(2, [], [])
    + subrs_call(1, [[11]])
    + run_call(num(-107) + [29, 14])
    + run_call([14], -1)
)


class Interface(unittest.TestCase):
    def test_answers_stand_one_behind_another_with_their_lengths(self):
        self.assertEqual(answers(list(LIST)), [
            1, 0,
            6, 4, NO_WIDTH, 0, 5 * U, 0, 3,
            1, -7,
            1, -1,
            1, 0,
            2, 0, NO_WIDTH,
            1, -1,
        ])

    def test_a_refusal_stands_alone(self):
        self.assertEqual(answers([1, 100, 3, 140, 22, 2]), [1, -4])
        self.assertEqual(answers([0, 7, 0, 0]), [1, -1])

    def test_a_width_alone(self):
        self.assertEqual(answers([1, 0, 2, 140, 14]), [2, 0, U])

    def test_the_list_handed_in_is_the_same_afterwards(self):
        calls = list(LIST)
        answers(calls)
        self.assertEqual(calls, LIST)

    def test_the_list_handed_in_is_not_changed_for_a_while_either(self):
        class Frozen(list):
            def refuse(self, *args, **more):
                raise AssertionError("the list handed in is changed")
            __setitem__ = __delitem__ = __iadd__ = __imul__ = refuse
            append = clear = extend = insert = pop = remove = reverse = sort = refuse
        self.assertEqual(answers(Frozen(LIST)), answers(list(LIST)))

    def test_the_same_list_twice_gives_the_same(self):
        calls = list(LIST)
        first = answers(calls)
        self.assertEqual(answers(calls), first)

    def test_what_is_given_back_is_new_each_time(self):
        first = answers(list(LIST))
        kept = list(first)
        second = answers(list(LIST))
        second.clear()
        self.assertEqual(first, kept)

    def test_a_new_list_begins_with_no_subroutines(self):
        call = run_call(num(-107) + [10])
        other = run_call(num(-107) + [29])
        self.assertEqual(ask(subrs_call(0, [[14]]), subrs_call(1, [[14]]), call, other),
                         [[0], [0], [0, NO_WIDTH], [0, NO_WIDTH]])
        self.assertEqual(ask(call, other), [[-5], [-5]])

    def test_a_run_begins_with_nothing_of_the_run_before(self):
        before = num(9) + num(5) + [12, 20] + num(1) * 3 + [1] + num(8) + [22] + num(3) + [14]
        self.assertEqual(ask(run_call(before), run_call(num(5) + [12, 21, 22, 19, 14])),
                         [[-3], [4, NO_WIDTH, 0, 0, 0, 3]])
        before = num(9) + num(5) + [12, 20] + num(1) * 3 + [1] + num(8) + [22, 14]
        self.assertEqual(ask(run_call(before), run_call(num(5) + [12, 21, 22, 19, 14])),
                         [[4, U, 0, 8 * U, 0, 3], [4, NO_WIDTH, 0, 0, 0, 3]])

    def test_sixty_calls(self):
        self.assertEqual(ask(*[run_call(num(i) + [14]) for i in range(60)]), [[0, i * U] for i in range(60)])

    def test_it_gives_back_a_list_of_plain_whole_numbers(self):
        given = answers(run_call(num(1) * 2 + [12, 15, 22, 14]) + run_call(num(0) + [12, 5, 22, 14]))
        self.assertIs(type(given), list)
        self.assertEqual({type(number) for number in given}, {int})

    def test_it_prints_nothing(self):
        said = io.StringIO()
        with contextlib.redirect_stdout(said), contextlib.redirect_stderr(said):
            answers(list(LIST))
        self.assertEqual(said.getvalue(), "")

    def test_the_longest_rows(self):
        self.assertEqual(ask(run_call([19] * 29899 + [14])), [[0, NO_WIDTH]])
        self.assertEqual(ask(subrs_call(0, [[19] * 28999 + [14]]), run_call(num(-107) + [10])), [[0], [0, NO_WIDTH]])


if __name__ == "__main__":
    unittest.main()
