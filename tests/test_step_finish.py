"""Point 4, as far as it speaks of step and finish."""

import unittest

from folder_calls import BEGIN, FINISH, STEP, add, answers_behind, names_along, names_behind, single_answers, wish

SIXTEEN = [f"{number:02}" for number in range(16)]


def names_step_by_step(names, rule, start, files):
    wished = wish(rule, start, files)
    many = answers_behind(names, [wished])[0]
    calls = [wished] + [STEP] * many
    expected = [many] + [1] * (many - 1) + [0] * (many > 0)
    if answers_behind(names, calls) != expected:
        raise AssertionError(f"not {expected}: {answers_behind(names, calls)}")
    return names_along(names, calls)[1:]


class WithoutAWish(unittest.TestCase):
    def test_refused(self):
        self.assertEqual(single_answers([STEP, FINISH]), [-61, -61])
        self.assertEqual(answers_behind(["a"], [STEP, FINISH]), [-61, -61])

    def test_refused_when_the_wish_is_done(self):
        self.assertEqual(answers_behind(["a"], [wish("b", 0, [0]), STEP, STEP, FINISH]), [1, 0, -61, -61])
        self.assertEqual(answers_behind(["a"], [wish("b", 0, [0]), FINISH, FINISH, STEP]), [1, 0, -61, -61])

    def test_refused_behind_begin(self):
        self.assertEqual(answers_behind(["a"], [wish("b", 0, [0]), BEGIN, STEP, FINISH]), [1, 0, -61, -61])


class Step(unittest.TestCase):
    def test_one_renaming_at_a_time(self):
        calls = [wish("n#", 0, [0, 1, 2]), STEP, STEP, STEP, STEP]
        self.assertEqual(answers_behind(["a", "b", "c"], calls), [3, 1, 1, 0, -61])

    def test_what_was_wished_is_there_behind_the_last(self):
        calls = [wish("n#", 0, [1, 0]), STEP, STEP, add("n0"), add("n1"), add("a"), add("b")]
        self.assertEqual(answers_behind(["a", "b"], calls), [2, 1, 0, -17, -17, 2, 3])

    def test_in_the_order_of_the_files_not_in_that_in_which_they_are_told(self):
        seen = names_step_by_step(["a", "b", "c"], "n#", 0, [2, 1, 0])
        self.assertEqual(seen, [["n2", "b", "c"], ["n2", "n1", "c"], ["n2", "n1", "n0"]])

    def test_two_that_change_names(self):
        seen = names_step_by_step(["0", "1"], "#", 0, [1, 0])
        self.assertEqual(seen, [["~", "1"], ["~", "0"], ["1", "0"]])

    def test_one_whose_name_to_get_is_free_goes_ahead(self):
        seen = names_step_by_step(["0", "1", "2"], "#", 1, [0, 1, 2])
        self.assertEqual(seen, [["0", "1", "3"], ["0", "2", "3"], ["1", "2", "3"]])

    def test_each_time_the_first_one_is_looked_for_anew(self):
        seen = names_step_by_step(["1", "0", "b"], "#", 2, [0, 1, 2])
        self.assertEqual(seen, [["2", "0", "b"], ["2", "3", "b"], ["2", "3", "4"]])
        seen = names_step_by_step(["0", "1", "b"], "#", 1, [0, 1, 2])
        self.assertEqual(seen, [["0", "2", "b"], ["1", "2", "b"], ["1", "2", "3"]])

    def test_a_ring_waits_until_nothing_else_is_left(self):
        seen = names_step_by_step(["0", "1", "x", "2"], "#", 0, [1, 0, 3, 2])
        self.assertEqual(seen, [["0", "1", "3", "2"], ["~", "1", "3", "2"], ["~", "0", "3", "2"], ["1", "0", "3", "2"]])

    def test_one_ring_behind_another(self):
        seen = names_step_by_step(["0", "1", "2", "3"], "#", 0, [2, 3, 0, 1])
        self.assertEqual(seen, [["~", "1", "2", "3"], ["~", "1", "0", "3"], ["2", "1", "0", "3"],
                                ["2", "~", "0", "3"], ["2", "~", "0", "1"], ["2", "3", "0", "1"]])

    def test_the_name_between_goes_to_the_first_that_has_not_its_name(self):
        seen = names_step_by_step(["0", "1", "2"], "#", 0, [0, 2, 1])
        self.assertEqual(seen, [["0", "~", "2"], ["0", "~", "1"], ["0", "2", "1"]])

    def test_16_files_in_one_ring(self):
        calls = [wish("##", 0, list(range(1, 16)) + [0])] + [STEP] * 18
        self.assertEqual(answers_behind(SIXTEEN, calls), [17] + [1] * 16 + [0, -61])


class Finish(unittest.TestCase):
    def test_all_at_once(self):
        calls = [wish("n#", 0, [0, 1]), FINISH, add("n0"), add("n1"), add("a"), add("b")]
        self.assertEqual(answers_behind(["a", "b"], calls), [2, 0, -17, -17, 2, 3])

    def test_16_files_in_one_ring_from_wherever_in_the_midst(self):
        wished = wish("##", 0, list(range(1, 16)) + [0])
        for steps in range(17):
            with self.subTest(steps=steps):
                calls = [wished] + [STEP] * steps + [FINISH]
                self.assertEqual(answers_behind(SIXTEEN, calls + [FINISH]), [17] + [1] * steps + [0, -61])
                self.assertEqual(names_behind(SIXTEEN, calls), ["15"] + SIXTEEN[:15])

    def test_seen_from_outside_from_wherever_in_the_midst(self):
        for steps in range(3):
            with self.subTest(steps=steps):
                calls = [wish("#", 0, [1, 0])] + [STEP] * steps + [FINISH, wish("#", 0, [1, 0]), wish("#", 0, [0, 1])]
                self.assertEqual(answers_behind(["0", "1"], calls), [3] + [1] * steps + [0, 0, 3])


if __name__ == "__main__":
    unittest.main()
