"""The interface: how calls and answers stand in their lists, and that nothing is changed or kept."""

import unittest

from renamedfiles.folder import answers

from folder_calls import BEGIN, FINISH, STEP, add, codes, laid_out, single_answers, wish


class Unchangeable(list):
    """A list that fails as soon as it is changed, if only for a while."""

    def refuse(self, *told, **named):
        raise AssertionError("the list that was handed in was changed")

    append = clear = extend = insert = pop = remove = reverse = sort = refuse
    __setitem__ = __delitem__ = __iadd__ = __imul__ = refuse


EVERY_CALL = [BEGIN, add("0"), add("1"), add("A"), add("1"), wish("#", 0, [1, 0]), STEP, add("b"), FINISH, STEP,
              wish("", 0, []), wish("x", 0, [7]), wish("+", 0, [1]), wish("x", 0, [0, 1])]
EVERY_ANSWER = [0, 0, 1, -22, -17, 3, 1, -15, 0, -61, -71, -22, -1001, -2001]


class Layout(unittest.TestCase):
    def test_numbers_as_they_stand(self):
        calls = [0, 1, 1, 97, 1, 3, 98, 46, 99, 2, 7, 3, 42, 35, 43, 2, 1, 0, 3, 3, 4]
        self.assertEqual(answers(calls), [1, 0, 1, 0, 1, 1, 1, 2, 1, 1, 1, 0, 1, -61])

    def test_empty_rows(self):
        self.assertEqual(answers([1, 0, 2, 0, 0, 0, 2, 5, 1, 97, 0, 3]), [1, -22, 1, -71, 1, 0, 1, -61])

    def test_a_refused_call_is_read_to_its_end(self):
        calls = [2, 0, 2] + codes("~~") + [3, 3, 4, 0] + [1, 2] + codes("~~") + [1, 1] + codes("a")
        self.assertEqual(answers(calls), [1, -71, 1, -22, 1, 0])

    def test_rows_that_look_like_calls(self):
        self.assertEqual(answers([1, 4, 0, 3, 4, 1, 0]), [1, -22, 1, 0])

    def test_rows_of_100_numbers(self):
        calls = [add("a" * 100), wish("a" * 100, 4294967295, [4294967295] * 100), wish("a", 0, list(range(100))), BEGIN]
        self.assertEqual(single_answers(calls), [-22, -71, -22, 0])

    def test_any_call_may_be_first(self):
        firsts = ((BEGIN, 0), (add("a"), 0), (wish("a", 0, []), 0), (STEP, -61), (FINISH, -61))
        for first, expected in firsts:
            with self.subTest(first=first):
                self.assertEqual(answers(first), [1, expected])

    def test_answers_are_whole_numbers_in_a_list(self):
        given = answers(laid_out(EVERY_CALL))
        self.assertIs(type(given), list)
        self.assertEqual({type(number) for number in given}, {int})

    def test_every_call_and_every_refusal(self):
        self.assertEqual(single_answers(EVERY_CALL), EVERY_ANSWER)

    def test_5000_calls_and_nearly_so_many(self):
        self.assertEqual(single_answers([STEP] * 5000), [-61] * 5000)
        turn = [wish("##", 0, [1, 0]), FINISH, wish("##", 0, [0, 1]), STEP, STEP, STEP]
        given = single_answers([add("00"), add("01")] + turn * 800)
        self.assertEqual(given, [0, 1] + [3, 0, 3, 1, 1, 0] * 800)

    def test_nearly_31000_numbers(self):
        names = [f"{number:02}" for number in range(16)]
        order = list(range(1, 16)) + [0]
        there = [wish("##", 0, order), FINISH]
        back = [wish("##", 0, list(range(16))), FINISH]
        calls = [add(name) for name in names] + (there + back) * 670
        self.assertTrue(30000 < len(laid_out(calls)) <= 31000)
        given = single_answers(calls)
        self.assertEqual(given, list(range(16)) + [17, 0, 17, 0] * 670)


class WhatIsHandedIn(unittest.TestCase):
    def test_stays_as_it_was(self):
        calls = laid_out(EVERY_CALL)
        copy = list(calls)
        answers(calls)
        self.assertEqual(calls, copy)

    def test_is_not_changed_for_a_while_either(self):
        calls = Unchangeable(laid_out(EVERY_CALL))
        self.assertEqual(answers(calls)[1::2], EVERY_ANSWER)

    def test_is_not_given_back(self):
        calls = [0, 0]
        given = answers(calls)
        given.append(9)
        self.assertEqual(calls, [0, 0])


class NothingIsKept(unittest.TestCase):
    def test_the_same_answers_again(self):
        self.assertEqual(single_answers(EVERY_CALL), EVERY_ANSWER)
        self.assertEqual(single_answers(EVERY_CALL), EVERY_ANSWER)

    def test_no_files_and_no_wish_from_the_time_before(self):
        self.assertEqual(single_answers([add("a"), wish("b", 0, [0])]), [0, 1])
        self.assertEqual(single_answers([STEP, add("a"), wish("b", 0, [0])]), [-61, 0, 1])

    def test_answers_of_before_stay_as_they_were(self):
        first = answers([0])
        answers([3])
        self.assertEqual(first, [1, 0])


if __name__ == "__main__":
    unittest.main()
