"""Point 3: wish, its refusals, and how many renamings there will be."""

import itertools
import unittest

from folder_calls import FINISH, STEP, add, answers_behind, finished_names, single_answers, wish

SIXTEEN = [f"{number:02}" for number in range(16)]


class HowManyRenamings(unittest.TestCase):
    def test_one_for_each_file_where_nobody_is_in_the_way(self):
        self.assertEqual(answers_behind(["a", "b", "c"], [wish("n#", 0, [0, 1, 2])]), [3])
        self.assertEqual(answers_behind(["a", "b", "c"], [wish("n#", 0, [1])]), [1])

    def test_two_that_change_names(self):
        self.assertEqual(answers_behind(["0", "1"], [wish("#", 0, [1, 0])]), [3])

    def test_a_row_of_files_that_move_on_by_one(self):
        self.assertEqual(answers_behind(["0", "1", "2"], [wish("#", 1, [0, 1, 2])]), [3])

    def test_16_files_in_one_ring(self):
        for turn in (1, 15):
            with self.subTest(turn=turn):
                files = [(number + turn) % 16 for number in range(16)]
                self.assertEqual(answers_behind(SIXTEEN, [wish("##", 0, files)]), [17])

    def test_16_files_in_eight_rings(self):
        files = [number ^ 1 for number in range(16)]
        self.assertEqual(answers_behind(SIXTEEN, [wish("##", 0, files)]), [24])

    def test_every_order_of_five(self):
        for order in itertools.permutations(range(5)):
            with self.subTest(order=order):
                moved = len([place for place in range(5) if order[place] != place])
                names = [str(number) for number in range(5)]
                self.assertEqual(answers_behind(names, [wish("#", 0, order)]), [moved + rings_in(order)])


def rings_in(order):
    rings = 0
    seen = set()
    for first in range(len(order)):
        if first not in seen and order[first] != first:
            rings += 1
        place = first
        while place not in seen:
            seen.add(place)
            place = order[place]
    return rings


class WhatChangesNothing(unittest.TestCase):
    def test_no_wish_is_under_way_then(self):
        for rule, start, files in (("*+", 0, [0, 1]), ("*+", 0, []), ("x", 5, []), ("#", 1, [0, 1]), ("1", 0, [0])):
            with self.subTest(rule=rule, files=files):
                calls = [wish(rule, start, files), STEP, FINISH, add("a")]
                self.assertEqual(answers_behind(["1", "2"], calls), [0, -61, -61, 2])

    def test_with_no_files(self):
        self.assertEqual(single_answers([wish("a", 0, []), STEP]), [0, -61])


class FilesThatAreTold(unittest.TestCase):
    def test_one_that_is_not_there(self):
        for file in (2, 3, 16, 4294967295):
            with self.subTest(file=file):
                calls = [wish("n#", 0, [file]), wish("n#", 0, [0, file]), wish("n#", 0, [file, 0]), STEP]
                self.assertEqual(answers_behind(["a", "b"], calls), [-22, -22, -22, -61])

    def test_one_that_is_told_twice(self):
        for files in ([0, 0], [1, 1], [0, 1, 0], [1, 0, 0], [0] * 100):
            with self.subTest(files=files):
                self.assertEqual(answers_behind(["a", "b"], [wish("*#", 0, files), STEP]), [-22, -61])

    def test_they_get_numbers_in_the_order_in_which_they_are_told(self):
        self.assertEqual(finished_names(["a", "b", "c"], "*#", 4, [2, 0, 1]), ["a5", "b6", "c4"])

    def test_all_others_keep_theirs(self):
        self.assertEqual(finished_names(["a", "b", "c"], "*#", 4, [1]), ["a", "b4", "c"])


class FilesThatWouldGetNoName(unittest.TestCase):
    def test_the_file_itself_is_told(self):
        names = ["a", "b" * 16, "c", "d"]
        self.assertEqual(answers_behind(names, [wish("*x", 0, [0, 1, 2]), STEP]), [-1001, -61])
        self.assertEqual(answers_behind(names, [wish("*#", 9, [0, 2]), STEP]), [-1002, -61])

    def test_the_first_by_its_number_not_by_the_order_in_which_they_are_told(self):
        self.assertEqual(answers_behind(["a", "b", "c"], [wish("+", 0, [2, 1])]), [-1001])
        self.assertEqual(answers_behind(["a", "b", "c"], [wish("+", 0, [1, 2])]), [-1001])

    def test_the_last_of_16(self):
        self.assertEqual(answers_behind(SIXTEEN, [wish("+", 0, [15])]), [-1015])


class FilesThatWouldGetTheSame(unittest.TestCase):
    def test_two_that_are_told(self):
        self.assertEqual(answers_behind(["a", "b", "c"], [wish("x", 0, [0, 2]), STEP]), [-2002, -61])
        self.assertEqual(answers_behind(["a", "b", "c"], [wish("x", 0, [2, 0]), STEP]), [-2002, -61])

    def test_a_name_that_one_before_who_stays_has(self):
        self.assertEqual(answers_behind(["a", "b", "c"], [wish("a", 0, [2]), STEP]), [-2002, -61])

    def test_a_name_that_one_behind_who_stays_has(self):
        self.assertEqual(answers_behind(["a", "b", "c"], [wish("b", 0, [0]), STEP]), [-2001, -61])

    def test_a_name_that_one_who_is_told_keeps(self):
        self.assertEqual(answers_behind(["x1", "x"], [wish("x#", 1, [0]), wish("x1", 0, [0, 1])]), [0, -2001])

    def test_the_first_that_is_the_same_as_one_before(self):
        self.assertEqual(answers_behind(["a", "b", "c", "d"], [wish("x", 0, [3, 2, 1])]), [-2002])
        names = ["a.x", "b.y", "c.y", "d.x"]
        self.assertEqual(answers_behind(names, [wish("n+", 0, [0, 1, 2, 3])]), [-2002])

    def test_the_last_of_16(self):
        self.assertEqual(answers_behind(SIXTEEN, [wish("00", 0, [15])]), [-2015])

    def test_a_name_that_gets_free_is_no_hindrance(self):
        self.assertEqual(answers_behind(["0", "1"], [wish("#", 1, [0, 1])]), [2])


class AWishUnderWay(unittest.TestCase):
    def test_no_other_is_taken(self):
        calls = [wish("#", 0, [1, 0]), wish("x", 0, [0]), STEP, wish("x", 0, [0]), wish("x", 0, []), STEP, STEP]
        self.assertEqual(answers_behind(["0", "1"], calls), [3, -15, 1, -15, -15, 1, 0])

    def test_another_when_it_is_done(self):
        calls = [wish("#", 0, [1, 0]), FINISH, wish("#", 0, [0, 1]), FINISH, wish("#", 0, [0, 1])]
        self.assertEqual(answers_behind(["0", "1"], calls), [3, 0, 3, 0, 0])


class WhichRefusalOfWishComesFirst(unittest.TestCase):
    def test_a_wish_under_way_ahead_of_all(self):
        refused = [wish("", 0, [0]), wish("A", 0, [9]), wish("x", 0, [9]), wish("x", 0, [0, 0]), wish("+", 0, [0]),
                   wish("x", 0, [0, 1]), wish("*+", 0, [0])]
        self.assertEqual(answers_behind(["a", "b"], [wish("n", 0, [0])] + refused), [1] + [-15] * len(refused))

    def test_no_rule_ahead_of_files(self):
        calls = [wish("", 0, [9]), wish("~", 0, [0, 0]), wish("a" * 25, 0, [2]), wish("", 0, [])]
        self.assertEqual(answers_behind(["a", "b"], calls), [-71, -71, -71, -71])

    def test_files_ahead_of_new_names(self):
        calls = [wish("+", 0, [0, 9]), wish("+", 0, [0, 0]), wish("x", 0, [0, 1, 2]), wish("x", 0, [0, 1, 1])]
        self.assertEqual(answers_behind(["a", "b"], calls), [-22, -22, -22, -22])

    def test_no_new_name_ahead_of_the_same(self):
        names = ["a", "b", "c", "d"]
        self.assertEqual(answers_behind(["a.x", "b.x", "c"], [wish("+", 0, [0, 1, 2])]), [-1002])
        self.assertEqual(answers_behind(names + ["e" * 16], [wish("d+", 0, [1]), wish("*d", 0, [4])]), [-2003, -1004])
        self.assertEqual(answers_behind(["a" * 8, "a", "a.b"], [wish("***", 0, [0, 1, 2])]), [-1000])


class WhatIsRefusedChangesNothing(unittest.TestCase):
    def test_the_files_have_their_names_still(self):
        refused = [wish("", 0, [0]), wish("x", 0, [5]), wish("x", 0, [0, 0]), wish("+", 0, [0]), wish("x", 0, [0, 1]),
                   wish("b", 0, [0])]
        kept = [add("a"), add("b"), add("x"), wish("*+", 0, [0, 1, 2])]
        expected = [-71, -22, -22, -1000, -2001, -2001, -17, -17, 2, 0]
        self.assertEqual(answers_behind(["a", "b"], refused + kept), expected)


if __name__ == "__main__":
    unittest.main()
