"""The interface: how calls and answers stand in their lists, and that nothing is changed or kept."""

import unittest

from renamedfiles.folder import UnknownCall, answers

from folder_calls import (ALL, BACK, BEGIN, FINISH, STATE, STEP, add, all_answers, codes, find, laid_out, name_of,
                          single_answers, wish)


class Unchangeable(list):
    """A list that fails as soon as it is changed, if only for a while."""

    def refuse(self, *told, **named):
        raise AssertionError("the list that was handed in was changed")

    append = clear = extend = insert = pop = remove = reverse = sort = refuse
    __setitem__ = __delitem__ = __iadd__ = __imul__ = refuse


# Every call, with each of its answers and refusals.
CALLS_AND_ANSWERS = (
    (BEGIN, [0]),
    (STATE, [0, 0, 0, 0]),
    (add("0"), [0]),
    (add("1"), [1]),
    (add("A"), [-22]),
    (add("1"), [-17]),
    (BACK, [-61]),
    (ALL, [-61]),
    (wish("#", 0, [1, 0]), [3]),
    (STEP, [1]),
    (add("b"), [-15]),
    (name_of(0), [1, 126]),
    (name_of(2), [-2]),
    (find("~"), [0]),
    (find("0"), [-2]),
    (STATE, [1, 2, 1, 2]),
    (BACK, [1]),
    (BACK, [0]),
    (wish("#", 0, [1, 0]), [3]),
    (wish("#", 0, [1, 0]), [-15]),
    (STEP, [1]),
    (ALL, [0]),
    (wish("file_#.x", 7, [1]), [1]),
    (FINISH, [0]),
    (name_of(1), [8, 102, 105, 108, 101, 95, 55, 46, 120]),
    (STEP, [-61]),
    (FINISH, [-61]),
    (wish("", 0, []), [-71]),
    (wish("x", 0, [7]), [-22]),
    (wish("+", 0, [0]), [-1000]),
    (wish("x", 0, [0, 1]), [-2001]),
    (wish("*+", 0, [0, 1]), [0]),
)
EVERY_CALL = [call for call, answered in CALLS_AND_ANSWERS]
EVERY_ANSWER = [answered for call, answered in CALLS_AND_ANSWERS]
EVERY_ANSWER_LAID_OUT = [number for answered in EVERY_ANSWER for number in [len(answered)] + answered]


class Layout(unittest.TestCase):
    def test_numbers_as_they_stand(self):
        calls = [0, 1, 1, 97, 1, 3, 98, 46, 99, 2, 7, 3, 42, 35, 43, 2, 1, 0, 3, 3, 4]
        self.assertEqual(answers(calls), [1, 0, 1, 0, 1, 1, 1, 2, 1, 1, 1, 0, 1, -61])

    def test_of_name_its_bytes_behind_the_number_that_tells_them(self):
        self.assertEqual(answers([7, 0, 1, 3, 98, 46, 99, 7, 0, 7, 1]), [1, -2, 1, 0, 4, 3, 98, 46, 99, 1, -2])

    def test_of_find_the_number_alone(self):
        self.assertEqual(answers([8, 1, 97, 1, 1, 97, 8, 1, 97, 8, 0]), [1, -2, 1, 0, 1, 0, 1, -2])

    def test_of_state_three_numbers_behind_the_first(self):
        calls = [9, 1, 1, 97, 9, 2, 0, 1, 98, 1, 0, 9, 5, 9, 6]
        self.assertEqual(answers(calls), [4, 0, 0, 0, 0, 1, 0, 4, 0, 1, 0, 0, 1, 1, 4, 1, 1, 0, 1, 1, 0, 4, 0, 1, 0, 0,
                                          1, -61])

    def test_empty_rows(self):
        self.assertEqual(answers([8, 0, 9]), [1, -2, 4, 0, 0, 0, 0])
        self.assertEqual(answers([1, 0, 2, 0, 0, 0, 2, 5, 1, 97, 0, 3]), [1, -22, 1, -71, 1, 0, 1, -61])

    def test_a_refused_call_is_read_to_its_end(self):
        calls = [2, 0, 2] + codes("~~") + [3, 3, 4, 0] + [1, 2] + codes("~~") + [1, 1] + codes("a")
        self.assertEqual(answers(calls), [1, -71, 1, -22, 1, 0])

    def test_rows_that_look_like_calls(self):
        self.assertEqual(answers([1, 4, 0, 3, 4, 1, 0]), [1, -22, 1, 0])
        self.assertEqual(answers([8, 3, 9, 9, 9, 7, 9, 5]), [1, -2, 1, -2, 1, -61])

    def test_rows_of_100_numbers(self):
        calls = [add("a" * 100), wish("a" * 100, 4294967295, [4294967295] * 100), wish("a", 0, list(range(100))),
                 find("a" * 100), BEGIN]
        self.assertEqual(single_answers(calls), [-22, -71, -22, -2, 0])

    def test_any_call_may_be_first(self):
        firsts = ((BEGIN, [0]), (add("a"), [0]), (wish("a", 0, []), [0]), (STEP, [-61]), (FINISH, [-61]), (BACK, [-61]),
                  (ALL, [-61]), (name_of(0), [-2]), (find("a"), [-2]), (STATE, [0, 0, 0, 0]))
        for first, expected in firsts:
            with self.subTest(first=first):
                self.assertEqual(answers(first), [len(expected)] + expected)

    def test_answers_are_whole_numbers_in_a_list(self):
        given = answers(laid_out(EVERY_CALL))
        self.assertIs(type(given), list)
        self.assertEqual({type(number) for number in given}, {int})

    def test_every_call_and_every_refusal(self):
        self.assertEqual(all_answers(EVERY_CALL), EVERY_ANSWER)
        self.assertEqual(answers(laid_out(EVERY_CALL)), EVERY_ANSWER_LAID_OUT)

    def test_a_call_that_is_none(self):
        with self.assertRaises(UnknownCall):
            answers([10])

    def test_5000_calls_and_nearly_so_many(self):
        self.assertEqual(single_answers([STEP] * 5000), [-61] * 5000)
        turn = [wish("##", 0, [1, 0]), FINISH, wish("##", 0, [0, 1]), STEP, STEP, STEP]
        given = single_answers([add("00"), add("01")] + turn * 800)
        self.assertEqual(given, [0, 1] + [3, 0, 3, 1, 1, 0] * 800)

    def test_5000_calls_in_the_midst_of_a_wish(self):
        names = [f"{number:02}" for number in range(16)]
        begun = [add(name) for name in names] + [wish("##", 0, list(range(1, 16)) + [0])] + [STEP] * 3
        turn = [STEP, STATE, find("~"), name_of(0), BACK]
        given = all_answers(begun + turn * 996)
        self.assertEqual(len(given), 5000)
        self.assertEqual(given[20:], [[1], [1, 16, 4, 13], [0], [1, 126], [1]] * 996)

    def test_5000_names(self):
        given = all_answers([add("0123456789abcdef")] + [name_of(0)] * 4999)
        self.assertEqual(given, [[0]] + [[16] + codes("0123456789abcdef")] * 4999)

    def test_nearly_31000_numbers(self):
        names = [f"{number:02}" for number in range(16)]
        order = list(range(1, 16)) + [0]
        there = [wish("##", 0, order), FINISH]
        back = [wish("##", 0, list(range(16))), FINISH]
        calls = [add(name) for name in names] + (there + back) * 670
        self.assertTrue(30000 < len(laid_out(calls)) <= 31000)
        given = single_answers(calls)
        self.assertEqual(given, list(range(16)) + [17, 0, 17, 0] * 670)


class WhatIsHandedIn(unittest.TestCase):
    def test_stays_as_it_was(self):
        calls = laid_out(EVERY_CALL)
        copy = list(calls)
        answers(calls)
        self.assertEqual(calls, copy)

    def test_is_not_changed_for_a_while_either(self):
        calls = Unchangeable(laid_out(EVERY_CALL))
        self.assertEqual(answers(calls), EVERY_ANSWER_LAID_OUT)

    def test_is_not_given_back(self):
        calls = [0, 0]
        given = answers(calls)
        given.append(9)
        self.assertEqual(calls, [0, 0])


class NothingIsKept(unittest.TestCase):
    def test_the_same_answers_again(self):
        self.assertEqual(all_answers(EVERY_CALL), EVERY_ANSWER)
        self.assertEqual(all_answers(EVERY_CALL), EVERY_ANSWER)

    def test_no_files_and_no_wish_from_the_time_before(self):
        self.assertEqual(single_answers([add("a"), wish("b", 0, [0])]), [0, 1])
        self.assertEqual(single_answers([STEP, add("a"), wish("b", 0, [0])]), [-61, 0, 1])
        self.assertEqual(all_answers([STATE, name_of(0), find("a"), BACK]), [[0, 0, 0, 0], [-2], [-2], [-61]])

    def test_answers_of_before_stay_as_they_were(self):
        first = answers([0])
        answers([3])
        self.assertEqual(first, [1, 0])


if __name__ == "__main__":
    unittest.main()
