"""Point 2: add, and what a name is."""

import unittest

from folder_calls import FINISH, STEP, add, answers_behind, single_answers, wish

NAME_SIGNS = "abcdefghijklmnopqrstuvwxyz0123456789._-"
SIXTEEN = [f"file{number}" for number in range(16)]


class Add(unittest.TestCase):
    def test_files_are_numbered_from_0(self):
        self.assertEqual(single_answers([add("a"), add("b.txt"), add("c-d_e")]), [0, 1, 2])

    def test_names_have_1_to_16_signs(self):
        for length in range(0, 20):
            with self.subTest(length=length):
                expected = 0 if 1 <= length <= 16 else -22
                self.assertEqual(single_answers([add("a" * length)]), [expected])
        self.assertEqual(single_answers([add("a" * 100)]), [-22])

    def test_every_sign_by_itself(self):
        for code in range(256):
            with self.subTest(code=code):
                expected = 0 if chr(code) in NAME_SIGNS else -22
                self.assertEqual(single_answers([add(chr(code))]), [expected])

    def test_every_sign_at_the_front_in_the_midst_and_at_the_end(self):
        for code in range(256):
            expected = 0 if chr(code) in NAME_SIGNS else -22
            for name in (chr(code) + "ab", "a" + chr(code) + "b", "ab" + chr(code)):
                with self.subTest(name=name):
                    self.assertEqual(single_answers([add(name)]), [expected])

    def test_names_of_dots_alone(self):
        self.assertEqual(single_answers([add("."), add(".."), add("." * 16)]), [0, 1, 2])

    def test_a_name_that_a_file_has(self):
        calls = [add("a"), add("b"), add("a"), add("b"), add("c")]
        self.assertEqual(single_answers(calls), [0, 1, -17, -17, 2])

    def test_a_name_that_begins_like_another_is_another(self):
        self.assertEqual(single_answers([add("ab"), add("a"), add("abc")]), [0, 1, 2])

    def test_at_most_16_files(self):
        self.assertEqual(answers_behind(SIXTEEN, [add("one.more"), add("another")]), [-12, -12])
        self.assertEqual(answers_behind(SIXTEEN[:15], [add("one.more"), add("another")]), [15, -12])

    def test_what_is_refused_changes_nothing(self):
        calls = [add(""), add("A"), add("a"), add("a"), add("~"), add("b")]
        self.assertEqual(single_answers(calls), [-22, -22, 0, -17, -22, 1])


class AddWhileAWishIsUnderWay(unittest.TestCase):
    def test_refused_until_the_last_step(self):
        calls = [wish("#", 0, [1, 0]), add("c"), STEP, add("c"), STEP, add("c"), STEP, add("c")]
        self.assertEqual(answers_behind(["0", "1"], calls), [3, -15, 1, -15, 1, -15, 0, 2])

    def test_refused_until_it_is_finished(self):
        calls = [wish("#", 0, [1, 0]), add("c"), FINISH, add("c")]
        self.assertEqual(answers_behind(["0", "1"], calls), [3, -15, 0, 2])

    def test_not_refused_behind_a_wish_that_changes_nothing_or_is_refused(self):
        calls = [wish("*+", 0, [0, 1]), add("c"), wish("a", 0, [0, 1]), add("d")]
        self.assertEqual(answers_behind(["a", "b"], calls), [0, 2, -2001, 3])


class WhichRefusalOfAddComesFirst(unittest.TestCase):
    def test_a_wish_under_way_ahead_of_all(self):
        calls = [wish("new#", 9, [0]), add(""), add("~"), add("file1"), add("one.more")]
        self.assertEqual(answers_behind(SIXTEEN, calls), [1, -15, -15, -15, -15])

    def test_no_name_ahead_of_too_many_files(self):
        self.assertEqual(answers_behind(SIXTEEN, [add(""), add("a" * 17), add("B")]), [-22, -22, -22])

    def test_a_name_that_is_had_ahead_of_too_many_files(self):
        self.assertEqual(answers_behind(SIXTEEN, [add("file0"), add("file15")]), [-17, -17])


if __name__ == "__main__":
    unittest.main()
