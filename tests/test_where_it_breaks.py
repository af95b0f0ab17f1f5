"""Where it usually breaks, line by line."""

import unittest

from folder_calls import (ALL, BACK, FINISH, STATE, STEP, add, all_answers_behind, answers_behind, find, names_along,
                          names_behind, wish)

RING = ["0", "1"]
RING_WISH = wish("#", 0, [1, 0])
SIXTEEN = [f"{number:02}" for number in range(16)]


class TwoThatChangeNames(unittest.TestCase):
    def test_step_by_step(self):
        calls = [RING_WISH, STEP, STEP, STEP]
        self.assertEqual(answers_behind(RING, calls), [3, 1, 1, 0])
        self.assertEqual(names_along(RING, calls), [RING, ["~", "1"], ["~", "0"], ["1", "0"]])

    def test_with_others_around_them(self):
        names = ["a", "1", "b", "0", "c"]
        calls = [wish("#", 0, [1, 3]), FINISH]
        self.assertEqual(answers_behind(names, calls), [3, 0])
        self.assertEqual(names_behind(names, calls), ["a", "0", "b", "1", "c"])

    def test_again_they_have_their_names_from_before(self):
        calls = [RING_WISH, FINISH, wish("#", 0, [0, 1]), FINISH]
        self.assertEqual(answers_behind(RING, calls), [3, 0, 3, 0])
        self.assertEqual(names_behind(RING, calls), RING)


class TakenBackInTheMidstOfARing(unittest.TestCase):
    NAMES = ["0", "1", "2"]
    WISH = wish("#", 0, [1, 2, 0])

    def test_one_by_one(self):
        calls = [self.WISH, STEP, STEP, STEP, BACK, BACK, BACK, BACK]
        self.assertEqual(answers_behind(self.NAMES, calls), [4, 1, 1, 1, 1, 1, 1, 0])
        there = [["0", "1", "2"], ["~", "1", "2"], ["~", "0", "2"], ["~", "0", "1"]]
        self.assertEqual(names_along(self.NAMES, calls), there + there[2::-1] + there[:1])

    def test_all_at_once(self):
        for steps in range(4):
            with self.subTest(steps=steps):
                calls = [self.WISH] + [STEP] * steps + [ALL]
                self.assertEqual(answers_behind(self.NAMES, calls), [4] + [1] * steps + [0])
                self.assertEqual(names_behind(self.NAMES, calls), self.NAMES)

    def test_in_the_midst_of_the_second_ring(self):
        names = ["0", "1", "2", "3"]
        calls = [wish("#", 0, [1, 0, 3, 2])] + [STEP] * 4
        self.assertEqual(names_behind(names, calls), ["1", "0", "~", "3"])
        self.assertEqual(names_behind(names, calls + [BACK] * 2), ["~", "0", "2", "3"])
        self.assertEqual(names_behind(names, calls + [ALL]), names)


class FinishedBehindSomeStepsBack(unittest.TestCase):
    def test_from_wherever(self):
        for steps in range(17):
            for backs in range(steps + 1):
                with self.subTest(steps=steps, backs=backs):
                    calls = [wish("##", 0, list(range(1, 16)) + [0])] + [STEP] * steps + [BACK] * backs + [FINISH]
                    self.assertEqual(answers_behind(SIXTEEN, calls), [17] + [1] * (steps + backs) + [0])
                    self.assertEqual(names_behind(SIXTEEN, calls), ["15"] + SIXTEEN[:15])

    def test_then_no_wish_is_under_way(self):
        calls = [RING_WISH, STEP, STEP, BACK, FINISH, STATE, BACK, FINISH]
        self.assertEqual(all_answers_behind(RING, calls)[4:], [[0], [0, 2, 0, 0], [-61], [-61]])


class AWishThatChangesNothing(unittest.TestCase):
    def test_answers_0_and_is_not_under_way(self):
        for wished in (wish("*+", 0, [0, 1]), wish("#", 0, [0, 1]), wish("x", 0, []), wish("1", 0, [1])):
            with self.subTest(wished=wished):
                calls = [wished, STATE, STEP, FINISH, BACK, ALL, add("c")]
                expected = [[0], [0, 2, 0, 0], [-61], [-61], [-61], [-61], [2]]
                self.assertEqual(all_answers_behind(RING, calls), expected)
                self.assertEqual(names_behind(RING, [wished]), RING)


class AFileAddedWhileOneIsUnderWay(unittest.TestCase):
    def test_refused_and_nothing_changes(self):
        calls = [RING_WISH, add("c"), STATE, STEP, add("c"), STATE, BACK, add("c"), STATE, find("c")]
        expected = [[3], [-15], [1, 2, 0, 3], [1], [-15], [1, 2, 1, 2], [1], [-15], [1, 2, 0, 3], [-2]]
        self.assertEqual(all_answers_behind(RING, calls), expected)

    def test_taken_when_it_is_done_or_given_up(self):
        for ended in ([FINISH], [STEP, STEP, STEP], [BACK], [STEP, BACK, BACK], [ALL], [STEP, ALL]):
            with self.subTest(ended=ended):
                given = answers_behind(RING, [RING_WISH] + ended + [add("c"), find("c")])
                self.assertEqual(given[-3:], [0, 2, 2])


class ANameThatOneWhoStaysHas(unittest.TestCase):
    def test_refused_whoever_comes_first(self):
        names = ["a", "b", "c"]
        for rule, files, refusal in (("a", [1], -2001), ("b", [0], -2001), ("c", [0], -2002), ("a", [2], -2002)):
            with self.subTest(rule=rule, files=files):
                calls = [wish(rule, 0, files), STATE, STEP]
                self.assertEqual(all_answers_behind(names, calls), [[refusal], [0, 3, 0, 0], [-61]])
                self.assertEqual(names_behind(names, calls), names)

    def test_taken_when_the_other_moves_away(self):
        calls = [wish("#", 1, [0, 1]), FINISH]
        self.assertEqual(answers_behind(RING, calls), [2, 0])
        self.assertEqual(names_behind(RING, calls), ["1", "2"])


class SixteenFilesInOneRing(unittest.TestCase):
    def test_there_and_back_in_both_turns(self):
        for turn in (1, 15):
            with self.subTest(turn=turn):
                wished = wish("##", 0, [(number + turn) % 16 for number in range(16)])
                turned = [SIXTEEN[(number - turn) % 16] for number in range(16)]
                calls = [wished] + [STEP] * 16 + [BACK] * 16 + [STEP] * 17
                self.assertEqual(answers_behind(SIXTEEN, calls), [17] + [1] * 48 + [0])
                seen = names_along(SIXTEEN, calls)
                self.assertEqual(seen[32], SIXTEEN)
                self.assertEqual(seen[49], turned)
                self.assertTrue(all(len(set(now)) == 16 for now in seen))


class GivenUpWithNothingDone(unittest.TestCase):
    def test_each_keeps_its_name(self):
        for given_up in (BACK, ALL):
            for ahead in ([], [STEP, BACK], [STEP, STEP, BACK, BACK]):
                with self.subTest(given_up=given_up, ahead=ahead):
                    calls = [RING_WISH] + ahead + [given_up]
                    self.assertEqual(all_answers_behind(RING, calls + [STATE])[-2:], [[0], [0, 2, 0, 0]])
                    self.assertEqual(names_behind(RING, calls), RING)


if __name__ == "__main__":
    unittest.main()
