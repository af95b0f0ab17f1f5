"""Point 5, and what point 4 says of back and all."""

import unittest

from folder_calls import (ALL, BACK, BEGIN, FINISH, STATE, STEP, add, all_answers_behind, answers_behind, names_along,
                          names_behind, single_answers, wish)

RING = ["0", "1"]
RING_WISH = wish("#", 0, [1, 0])
SIXTEEN = [f"{number:02}" for number in range(16)]
SIXTEEN_WISH = wish("##", 0, list(range(1, 16)) + [0])


class WithoutAWish(unittest.TestCase):
    def test_refused(self):
        self.assertEqual(single_answers([BACK]), [-61])
        self.assertEqual(single_answers([ALL]), [-61])
        self.assertEqual(answers_behind(["a"], [BACK, ALL]), [-61, -61])

    def test_refused_when_the_wish_is_done(self):
        for done in ([STEP], [FINISH]):
            with self.subTest(done=done):
                self.assertEqual(answers_behind(["a"], [wish("b", 0, [0])] + done + [BACK, ALL]), [1, 0, -61, -61])
                self.assertEqual(names_behind(["a"], [wish("b", 0, [0])] + done + [BACK, ALL]), ["b"])

    def test_refused_when_the_wish_is_given_up(self):
        for given_up in (BACK, ALL):
            with self.subTest(given_up=given_up):
                calls = [RING_WISH, given_up, BACK, ALL, STEP, FINISH]
                self.assertEqual(answers_behind(RING, calls), [3, 0, -61, -61, -61, -61])

    def test_refused_behind_begin(self):
        self.assertEqual(answers_behind(RING, [RING_WISH, STEP, BEGIN, BACK, ALL]), [3, 1, 0, -61, -61])

    def test_refused_behind_a_wish_that_changes_nothing_or_is_refused(self):
        for wished, answered in ((wish("*+", 0, [0, 1]), 0), (wish("x", 0, [0, 1]), -2001), (wish("", 0, []), -71)):
            with self.subTest(wished=wished):
                self.assertEqual(answers_behind(RING, [wished, BACK, ALL]), [answered, -61, -61])


class Back(unittest.TestCase):
    def test_takes_the_first_one_back(self):
        calls = [wish("n#", 0, [0, 1]), STEP, BACK]
        self.assertEqual(answers_behind(["a", "b"], calls), [2, 1, 1])
        self.assertEqual(names_behind(["a", "b"], calls), ["a", "b"])

    def test_behind_the_first_one_the_wish_is_still_under_way(self):
        calls = [wish("n#", 0, [0, 1]), STEP, BACK, add("c"), wish("x", 0, [0]), STEP, STEP]
        self.assertEqual(answers_behind(["a", "b"], calls), [2, 1, 1, -15, -15, 1, 0])

    def test_takes_the_last_one_back_and_no_other(self):
        seen = names_along(["a", "b", "c"], [wish("n#", 0, [0, 1, 2]), STEP, STEP, BACK, BACK])
        self.assertEqual(seen[1:], [["n0", "b", "c"], ["n0", "n1", "c"], ["n0", "b", "c"], ["a", "b", "c"]])

    def test_with_none_done_the_wish_is_given_up(self):
        calls = [RING_WISH, BACK, STEP, add("2"), RING_WISH]
        self.assertEqual(answers_behind(RING, calls), [3, 0, -61, 2, 3])
        self.assertEqual(names_behind(RING, [RING_WISH, BACK]), RING)

    def test_with_all_of_them_taken_back_the_wish_is_given_up(self):
        calls = [RING_WISH, STEP, STEP, BACK, BACK, BACK, BACK]
        self.assertEqual(answers_behind(RING, calls), [3, 1, 1, 1, 1, 0, -61])
        self.assertEqual(names_behind(RING, calls), RING)

    def test_there_and_back_again_and_again(self):
        calls = [RING_WISH] + [STEP, BACK] * 100 + [STEP, STEP] + [BACK, STEP] * 100 + [STEP]
        self.assertEqual(answers_behind(RING, calls), [3] + [1] * 402 + [0])
        self.assertEqual(names_behind(RING, calls), ["1", "0"])

    def test_what_is_done_behind_it_is_the_same_as_before(self):
        first = names_along(RING, [RING_WISH, STEP, STEP, STEP])[1:]
        again = names_along(RING, [RING_WISH, STEP, STEP, BACK, BACK, STEP, STEP, STEP])[5:]
        self.assertEqual(first, [["~", "1"], ["~", "0"], ["1", "0"]])
        self.assertEqual(again, first)

    def test_16_files_in_one_ring(self):
        calls = [SIXTEEN_WISH] + [STEP] * 16 + [BACK] * 18
        self.assertEqual(answers_behind(SIXTEEN, calls), [17] + [1] * 32 + [0, -61])
        seen = names_along(SIXTEEN, calls)
        self.assertEqual(seen[16:33], seen[16::-1])
        self.assertEqual(seen[34], SIXTEEN)

    def test_only_the_renamings_of_this_wish(self):
        calls = [wish("b", 0, [0]), FINISH, wish("c", 0, [0]), BACK, BACK]
        self.assertEqual(answers_behind(["a"], calls), [1, 0, 1, 0, -61])
        self.assertEqual(names_behind(["a"], calls), ["b"])

    def test_not_those_of_a_wish_that_was_taken_back(self):
        for given_up in ([STEP, BACK, BACK], [STEP, ALL]):
            with self.subTest(given_up=given_up):
                calls = [wish("n#", 0, [0, 1])] + given_up + [wish("m#", 0, [1, 0]), BACK]
                self.assertEqual(answers_behind(["a", "b"], calls)[-2:], [2, 0])
                self.assertEqual(names_behind(["a", "b"], calls), ["a", "b"])


class All(unittest.TestCase):
    def test_with_none_done(self):
        calls = [RING_WISH, ALL, STEP, add("2"), RING_WISH]
        self.assertEqual(answers_behind(RING, calls), [3, 0, -61, 2, 3])
        self.assertEqual(names_behind(RING, [RING_WISH, ALL]), RING)

    def test_with_some_done(self):
        for steps in range(1, 3):
            with self.subTest(steps=steps):
                calls = [RING_WISH] + [STEP] * steps + [ALL]
                self.assertEqual(answers_behind(RING, calls + [ALL]), [3] + [1] * steps + [0, -61])
                self.assertEqual(names_behind(RING, calls), RING)
                self.assertEqual(all_answers_behind(RING, calls + [STATE])[-1], [0, 2, 0, 0])

    def test_16_files_in_one_ring_from_wherever_in_the_midst(self):
        for steps in range(17):
            with self.subTest(steps=steps):
                calls = [SIXTEEN_WISH] + [STEP] * steps + [ALL]
                self.assertEqual(answers_behind(SIXTEEN, calls), [17] + [1] * steps + [0])
                self.assertEqual(names_behind(SIXTEEN, calls), SIXTEEN)

    def test_behind_some_that_were_taken_back(self):
        calls = [SIXTEEN_WISH] + [STEP] * 9 + [BACK] * 4 + [STEP] * 2 + [ALL]
        self.assertEqual(answers_behind(SIXTEEN, calls), [17] + [1] * 15 + [0])
        self.assertEqual(names_behind(SIXTEEN, calls), SIXTEEN)

    def test_only_the_renamings_of_this_wish(self):
        calls = [wish("n#", 0, [0, 1]), FINISH, wish("m#", 0, [0, 1]), STEP, ALL]
        self.assertEqual(answers_behind(["a", "b"], calls), [2, 0, 2, 1, 0])
        self.assertEqual(names_behind(["a", "b"], calls), ["n0", "n1"])

    def test_files_and_wishes_are_taken_again(self):
        calls = [RING_WISH, STEP, ALL, add("0"), add("~"), add("2"), wish("##", 0, [2, 1, 0])]
        self.assertEqual(answers_behind(RING, calls), [3, 1, 0, -17, -22, 2, 3])


if __name__ == "__main__":
    unittest.main()
