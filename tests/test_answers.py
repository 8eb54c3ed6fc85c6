import unittest

from asking import begins, best, check, close, fix, free, listed, pit, point, singles
from roadlaid.road import answers

MIXED = listed([begins(2, 4, 100, 100), point(6), point(7), fix(0, 6), fix(1, 7), free(0), free(0),
                begins(3, 0, 0, 0), point(0), pit(1, 2, 3), pit(0, 101, 0), close(0), fix(0, 5), best(),
                check([5, 4], (0, 1, 1)), check([5, 4]), check([6, 0]), check([5, 0], (0, 0, 1)), fix(0, 0), best(),
                begins(0, 0, 0, 0), free(0), close(0), best(), check([])])
MIXED_ANSWERS = (singles(0, 0, -1, 0, -2, 0, -4, -1, 1, 0, -1, -4, 0) + [5, 407, 1, 5, 3, 1]
                 + [1, 510] + [3, -7, 0, 1] + [3, -6, 1, 0] + [1, -1]
                 + singles(0) + [5, 618, 1, 0, 0, 6]
                 + singles(0, -2, -2) + [2, 0, 1] + singles(0))


class Unchanging(list):
    """A list that fails at each attempt to change it, so that a change taken back is seen too."""

    def refuse(self, *given, **named):
        raise AssertionError("the list handed in is changed")

    __setitem__ = __delitem__ = __iadd__ = __imul__ = refuse
    append = clear = extend = insert = pop = remove = reverse = sort = refuse


class Answers(unittest.TestCase):
    def test_each_call_has_its_count_and_its_answer_in_order(self):
        self.assertEqual(answers(MIXED), MIXED_ANSWERS)

    def test_a_list_of_whole_numbers_is_given_back(self):
        given = answers(MIXED)
        self.assertIs(type(given), list)
        self.assertEqual({type(number) for number in given}, {int})

    def test_sixty_calls(self):
        calls = [begins(1, 1, 1, 1), point(3)] + [fix(0, 1), free(0)] * 29
        self.assertEqual(answers(listed(calls)), singles(*[0] * 60))

    def test_sixty_calls_of_each_length(self):
        calls = [begins(2, 4, 1, 1), point(3), point(3), pit(0, 1, 1)]
        calls += [best(), check([3, 3]), check([2, 4], (0, 1, 1)), check([3, 4])] * 14
        self.assertEqual(len(calls), 60)
        self.assertEqual(answers(listed(calls)),
                         singles(0, 0, 1, 0) + ([5, 0, 1, 3, 3, 0] + singles(0, 3) + [3, -7, 1, -1]) * 14)

    def test_the_list_handed_in_is_as_it_was(self):
        calls = list(MIXED)
        answers(calls)
        self.assertEqual(calls, MIXED)

    def test_the_list_handed_in_is_not_changed_for_a_while_either(self):
        self.assertEqual(answers(Unchanging(MIXED)), MIXED_ANSWERS)

    def test_the_same_list_asked_twice_gives_the_same(self):
        calls = list(MIXED)
        first = answers(calls)
        second = answers(calls)
        self.assertEqual(first, MIXED_ANSWERS)
        self.assertEqual(second, MIXED_ANSWERS)

    def test_two_lists_do_not_touch_one_another(self):
        full = listed([point(1)] * 5 + [fix(0, 1)])
        other = listed([free(0), point(1), free(0), fix(1, 1)])
        self.assertEqual(answers(full), singles(0, 1, 2, 3, 4, 0))
        self.assertEqual(answers(other), singles(-2, 0, -4, -2))
        self.assertEqual(answers(full), singles(0, 1, 2, 3, 4, 0))

    def test_what_was_given_back_is_the_asker_s_own(self):
        first = answers(MIXED)
        first.clear()
        self.assertEqual(answers(MIXED), MIXED_ANSWERS)


if __name__ == "__main__":
    unittest.main()
