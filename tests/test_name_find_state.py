"""Point 6: name, find and state."""

import unittest

from folder_calls import (ALL, BACK, BEGIN, FINISH, STATE, STEP, add, all_answers, all_answers_behind, answers_behind,
                          codes, find, name_of, names_along, single_answers, wish)

RING = ["0", "1"]
RING_WISH = wish("#", 0, [1, 0])
SIXTEEN = [f"{number:02}" for number in range(16)]
SIXTEEN_WISH = wish("##", 0, list(range(1, 16)) + [0])
NAME_SIGNS = "abcdefghijklmnopqrstuvwxyz0123456789._-"


class Name(unittest.TestCase):
    def test_no_such_file(self):
        self.assertEqual(single_answers([name_of(0), name_of(4294967295)]), [-2, -2])
        for file in (2, 3, 15, 16, 4294967295):
            with self.subTest(file=file):
                self.assertEqual(answers_behind(RING, [name_of(file)]), [-2])

    def test_no_such_file_behind_begin(self):
        self.assertEqual(answers_behind(RING, [BEGIN, name_of(0), name_of(1)]), [0, -2, -2])

    def test_how_many_bytes_then_these(self):
        names = ["a", "photo.jpg", "0123456789abcdef", "._-"]
        given = all_answers_behind(names, [name_of(file) for file in (0, 1, 2, 3, 0)])
        self.assertEqual(given, [[len(names[file])] + codes(names[file]) for file in (0, 1, 2, 3, 0)])

    def test_names_of_every_length_and_sign(self):
        names = ["a" * length for length in range(1, 17)]
        given = all_answers_behind(names, [name_of(file) for file in range(16)])
        self.assertEqual(given, [[length] + [97] * length for length in range(1, 17)])
        for sign in NAME_SIGNS:
            with self.subTest(sign=sign):
                self.assertEqual(all_answers_behind([sign], [name_of(0)]), [[1, ord(sign)]])

    def test_the_last_of_16(self):
        self.assertEqual(all_answers_behind(SIXTEEN, [name_of(15), name_of(16)]), [[2, 49, 53], [-2]])

    def test_its_name_now(self):
        calls = [wish("new", 0, [0]), name_of(0), STEP, name_of(0), wish("old", 0, [0]), name_of(0), FINISH, name_of(0)]
        now = [[1, 97], [3] + codes("new"), [3] + codes("new"), [3] + codes("old")]
        self.assertEqual(all_answers_behind(["a"], calls)[1::2], now)

    def test_the_name_between_in_the_midst_of_a_ring(self):
        calls = [RING_WISH, STEP, name_of(0), name_of(1), STEP, name_of(0), name_of(1), STEP, name_of(0), name_of(1)]
        expected = [[3], [1], [1, 126], [1, 49], [1], [1, 126], [1, 48], [0], [1, 49], [1, 48]]
        self.assertEqual(all_answers_behind(RING, calls), expected)

    def test_behind_back_and_all(self):
        calls = [RING_WISH, STEP, STEP, BACK, name_of(0), name_of(1), ALL, name_of(0), name_of(1)]
        self.assertEqual(all_answers_behind(RING, calls)[4:], [[1, 126], [1, 49], [0], [1, 48], [1, 49]])

    def test_asked_again_and_again_it_changes_nothing(self):
        calls = [name_of(0)] * 3 + [name_of(9)] * 3 + [RING_WISH] + [name_of(0), name_of(9), STEP] * 3
        expected = [[1, 48]] * 3 + [[-2]] * 3 + [[3], [1, 48], [-2], [1], [1, 126], [-2], [1], [1, 126], [-2], [0]]
        self.assertEqual(all_answers_behind(RING, calls), expected)


class Find(unittest.TestCase):
    def test_no_file_has_it(self):
        self.assertEqual(single_answers([find("a"), find("~"), find("")]), [-2, -2, -2])
        missing = ["c", "aa", "A", "a.", "~", "", "a" * 16, "a" * 17, "a" * 100, "\x00", "\xff" * 100]
        self.assertEqual(answers_behind(["a", "b"], [find(name) for name in missing]), [-2] * len(missing))

    def test_which_file_has_it(self):
        names = ["b", "a", "a.b", "0123456789abcdef"]
        self.assertEqual(answers_behind(names, [find(name) for name in reversed(names)]), [3, 2, 1, 0])
        self.assertEqual(answers_behind(SIXTEEN, [find(name) for name in SIXTEEN]), list(range(16)))

    def test_parts_of_a_name_are_not_it(self):
        self.assertEqual(answers_behind(["photo.jpg"], [find("photo"), find(".jpg"), find("photo.jpg ")]), [-2] * 3)

    def test_by_the_names_that_they_have_now(self):
        calls = [wish("n#", 0, [0, 1]), find("a"), find("n0"), STEP, find("a"), find("n0"), find("b"), find("n1"),
                 STEP, find("b"), find("n1")]
        expected = [2, 0, -2, 1, -2, 0, 1, -2, 0, -2, 1]
        self.assertEqual(answers_behind(["a", "b"], calls), expected)

    def test_the_name_between_while_a_file_has_it(self):
        asked = [find("~"), find("0"), find("1")]
        calls = [RING_WISH] + asked + [STEP] + asked + [STEP] + asked + [STEP] + asked
        expected = [3, -2, 0, 1] + [1, 0, -2, 1] + [1, 0, 1, -2] + [0, -2, 1, 0]
        self.assertEqual(answers_behind(RING, calls), expected)

    def test_the_name_between_of_another_file_than_the_first(self):
        calls = [wish("#", 0, [0, 2, 1]), STEP, find("~"), find("~~"), FINISH, find("~")]
        self.assertEqual(answers_behind(["0", "1", "2"], calls), [3, 1, 1, -2, 0, -2])

    def test_behind_back_and_all(self):
        asked = [find("~"), find("0"), find("1")]
        calls = [RING_WISH, STEP, STEP, BACK] + asked + [BACK] + asked + [STEP, ALL] + asked
        expected = [3, 1, 1, 1, 0, -2, 1, 1, -2, 0, 1, 1, 0, -2, 0, 1]
        self.assertEqual(answers_behind(RING, calls), expected)

    def test_behind_begin(self):
        self.assertEqual(answers_behind(RING, [BEGIN, find("0"), add("1"), find("1")]), [0, -2, 0, 0])


class State(unittest.TestCase):
    def test_without_a_wish(self):
        self.assertEqual(all_answers([STATE]), [[0, 0, 0, 0]])
        for many in range(17):
            with self.subTest(many=many):
                self.assertEqual(all_answers_behind(SIXTEEN[:many], [STATE]), [[0, many, 0, 0]])

    def test_in_the_midst(self):
        calls = [RING_WISH, STATE, STEP, STATE, STEP, STATE, STEP, STATE]
        expected = [[1, 2, 0, 3], [1, 2, 1, 2], [1, 2, 2, 1], [0, 2, 0, 0]]
        self.assertEqual(all_answers_behind(RING, calls)[1::2], expected)

    def test_behind_back(self):
        calls = [RING_WISH, STATE, STEP, STATE, STEP, STATE, BACK, STATE, BACK, STATE, STEP, STATE, BACK, STATE, BACK,
                 STATE]
        expected = [[1, 2, 0, 3], [1, 2, 1, 2], [1, 2, 2, 1], [1, 2, 1, 2], [1, 2, 0, 3], [1, 2, 1, 2], [1, 2, 0, 3],
                    [0, 2, 0, 0]]
        self.assertEqual(all_answers_behind(RING, calls)[1::2], expected)

    def test_behind_finish_and_all(self):
        for ended in (FINISH, ALL):
            with self.subTest(ended=ended):
                calls = [RING_WISH, STEP, ended, STATE]
                self.assertEqual(all_answers_behind(RING, calls)[-1], [0, 2, 0, 0])

    def test_behind_begin(self):
        self.assertEqual(all_answers_behind(RING, [RING_WISH, STEP, BEGIN, STATE])[-1], [0, 0, 0, 0])

    def test_renamings_are_counted_anew_with_each_wish(self):
        calls = [RING_WISH, FINISH, wish("#", 0, [0, 1]), STATE, STEP, STATE, ALL, RING_WISH, STATE]
        given = all_answers_behind(RING, calls)
        self.assertEqual([given[3], given[5], given[7], given[8]], [[1, 2, 0, 3], [1, 2, 1, 2], [0], [0, 2, 0, 0]])

    def test_behind_a_wish_that_changes_nothing_or_is_refused(self):
        for wished in (wish("*+", 0, [0, 1]), wish("x", 0, [0, 1]), wish("", 0, [0]), wish("+", 0, [0])):
            with self.subTest(wished=wished):
                self.assertEqual(all_answers_behind(RING, [wished, STATE])[1], [0, 2, 0, 0])

    def test_16_files_in_one_ring(self):
        calls = [SIXTEEN_WISH] + [STATE, STEP] * 17 + [STATE]
        given = all_answers_behind(SIXTEEN, calls)[1::2]
        self.assertEqual(given, [[1, 16, done, 17 - done] for done in range(17)] + [[0, 16, 0, 0]])

    def test_files_that_stay_count_too(self):
        calls = [wish("n#", 0, [1]), STATE]
        self.assertEqual(all_answers_behind(["a", "b", "c"], calls)[1], [1, 3, 0, 1])

    def test_asked_again_and_again_it_changes_nothing(self):
        calls = [RING_WISH] + [STATE] * 5 + [STEP] + [STATE] * 5 + [STEP]
        self.assertEqual(all_answers_behind(RING, calls)[-6:], [[1, 2, 1, 2]] * 5 + [[1]])
        self.assertEqual(names_along(RING, [RING_WISH, STATE, STATE, STEP, STATE]), [RING] * 3 + [["~", "1"]] * 2)


if __name__ == "__main__":
    unittest.main()
