"""Point 1: begin, and what an object is at first."""

import unittest

from folder_calls import (ALL, BACK, BEGIN, FINISH, STATE, STEP, add, all_answers, all_answers_behind, answers_behind,
                          find, name_of, single_answers, wish)


class Begin(unittest.TestCase):
    def test_on_a_new_object(self):
        self.assertEqual(single_answers([BEGIN]), [0])

    def test_again_and_again(self):
        self.assertEqual(single_answers([BEGIN, BEGIN, BEGIN]), [0, 0, 0])

    def test_at_first_there_are_no_files_and_no_wish(self):
        self.assertEqual(single_answers([STEP]), [-61])
        self.assertEqual(single_answers([FINISH]), [-61])
        self.assertEqual(single_answers([BACK]), [-61])
        self.assertEqual(single_answers([ALL]), [-61])
        self.assertEqual(all_answers([STATE]), [[0, 0, 0, 0]])
        self.assertEqual(single_answers([wish("a", 0, [0])]), [-22])
        self.assertEqual(single_answers([add("a")]), [0])

    def test_takes_the_files_away(self):
        calls = [BEGIN, wish("c", 0, [0]), add("b"), add("a"), wish("c", 0, [2])]
        self.assertEqual(answers_behind(["a", "b"], calls), [0, -22, 0, 1, -22])

    def test_neither_names_nor_renamings_are_left(self):
        calls = [wish("#", 0, [1, 0]), STEP, BEGIN, STATE, name_of(0), find("~"), find("1"), BACK, ALL]
        expected = [[3], [1], [0], [0, 0, 0, 0], [-2], [-2], [-2], [-61], [-61]]
        self.assertEqual(all_answers_behind(["0", "1"], calls), expected)

    def test_nothing_of_the_wish_before_is_taken_back(self):
        calls = [wish("#", 0, [1, 0]), STEP, BEGIN, add("5"), wish("6", 0, [0]), STATE, BACK, STATE, name_of(0)]
        expected = [[0], [0], [1], [1, 1, 0, 1], [0], [0, 1, 0, 0], [1, 53]]
        self.assertEqual(all_answers_behind(["0", "1"], calls)[2:], expected)

    def test_makes_room_for_16_files(self):
        names = [f"n{number}" for number in range(16)]
        calls = [BEGIN] + [add(name) for name in names] + [add("one.more")]
        self.assertEqual(answers_behind(names, calls), [0] + list(range(16)) + [-12])

    def test_takes_the_wish_away(self):
        for begun in ([], [STEP]):
            with self.subTest(begun=begun):
                calls = [wish("#", 0, [1, 0])] + begun + [BEGIN, STEP, FINISH, add("0"), wish("b", 0, [0]), STEP]
                expected = [3] + [1] * len(begun) + [0, -61, -61, 0, 1, 0]
                self.assertEqual(answers_behind(["0", "1"], calls), expected)


if __name__ == "__main__":
    unittest.main()
