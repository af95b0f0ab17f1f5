"""What holds, a to d, over many wishes and many ways through them."""

import itertools
import unittest

from folder_calls import (ALL, BACK, BEGIN, FINISH, STATE, STEP, add, all_answers_behind, answers_behind, find,
                          name_of, names_along, names_behind, wish)

# Names, rule, start and files of wishes that are taken, small enough for every way through them.
WISHES = (
    (["a"], "b", 0, [0]),
    (["0", "1"], "#", 0, [1, 0]),
    (["0", "1"], "#", 1, [0, 1]),
    (["0", "1", "2"], "#", 0, [1, 2, 0]),
    (["0", "1", "2", "x"], "#", 0, [0, 2, 1]),
    (["1", "0", "3", "x"], "#", 0, [0, 1, 3, 2]),
)


def trail_of(names, wished):
    """The names behind each renaming, as the document tells the next one, from a plain reading of its words."""
    trail = [list(names)]
    while trail[-1] != wished:
        now = list(trail[-1])
        waiting = [file for file in range(len(now)) if now[file] != wished[file]]
        free = [file for file in waiting if wished[file] not in now]
        if free:
            now[free[0]] = wished[free[0]]
        else:
            now[waiting[0]] = "~"
        trail.append(now)
    return trail


def wished_names(names, rule, start, files):
    """For rules of one # or of no sign that stands for another."""
    wished = list(names)
    for place, file in enumerate(files):
        wished[file] = rule.replace("#", str(start + place))
    return wished


class OverEveryMove(unittest.TestCase):
    def check(self, names, files, start):
        trail = trail_of(names, wished_names(names, "#", start, files))
        calls = [wish("#", start, files)] + [STEP] * (len(trail) - 1)
        self.assertEqual(names_along(names, calls), trail)
        for before, now in zip(trail, trail[1:]):
            changed = [file for file in range(len(now)) if now[file] != before[file]]
            self.assertEqual(len(changed), 1)
            self.assertNotIn(now[changed[0]], before)
        if len(trail) > 1:
            # Not the last step, since behind it there's no wish to go back in; the last back gives the wish up.
            there = trail[:-1]
            calls = calls[:-1] + [BACK] * len(there)
            self.assertEqual(names_along(names, calls), there + there[:-1][::-1] + [names])

    def test_over_every_order_of_five(self):
        names = ["3", "1", "4", "0", "2"]
        for start in range(5):
            for files in itertools.permutations(range(5)):
                with self.subTest(start=start, files=files):
                    self.check(names, files, start)

    def test_over_some_of_four_files(self):
        names = ["0", "1", "2", "9"]
        for many in range(1, 4):
            for files in itertools.permutations(range(4), many):
                wished = wished_names(names, "#", 0, files)
                if len(set(wished)) == 4:
                    with self.subTest(files=files):
                        self.check(names, files, 0)


class OverEveryWay(unittest.TestCase):
    """Every way of six calls through each of the wishes, beside where the trail of renamings has it."""

    WAY = 6

    def expected_along(self, trail, way):
        place = 0
        under_way = True
        rows = []
        for call in way:
            answered = -61
            if under_way and call == STEP:
                place += 1
                under_way = place < len(trail) - 1
                answered = 1 if under_way else 0
            elif under_way and call == FINISH:
                place, under_way, answered = len(trail) - 1, False, 0
            elif under_way and call == BACK and place > 0:
                place, answered = place - 1, 1
            elif under_way:
                place, under_way, answered = 0, False, 0
            state = [1, len(trail[0]), place, len(trail) - 1 - place] if under_way else [0, len(trail[0]), 0, 0]
            names = [[len(name)] + [ord(sign) for sign in name] for name in trail[place]]
            rows += [[answered], state] + names
        return rows

    def test_answers_states_and_names(self):
        for names, rule, start, files in WISHES:
            trail = trail_of(names, wished_names(names, rule, start, files))
            asked = [STATE] + [name_of(file) for file in range(len(names))]
            for way in itertools.product([STEP, FINISH, BACK, ALL], repeat=self.WAY):
                calls = [wish(rule, start, files)] + [one for call in way for one in [call] + asked]
                given = all_answers_behind(names, calls)
                if given != [[len(trail) - 1]] + self.expected_along(trail, way):
                    self.fail(f"{names} {rule} {start} {files} {way}: {given}")


class NeverTwoWithOneName(unittest.TestCase):
    """a."""

    def test_behind_each_renaming_and_each_one_taken_back(self):
        names = [f"{number:02}" for number in range(16)]
        orders = ([number ^ 1 for number in range(16)], list(range(15, -1, -1)), [(5 * n + 3) % 16 for n in range(16)])
        for order in orders:
            with self.subTest(order=order):
                wished = wish("##", 0, order)
                many = answers_behind(names, [wished])[0]
                calls = [wished] + [STEP] * (many - 1) + [BACK] * (many - 1) + ([STEP, STEP, BACK] * many)[:-1]
                for now in names_along(names, calls):
                    self.assertEqual(len(set(now)), 16)

    def test_find_and_name_tell_the_same(self):
        names = ["0", "1", "2", "3"]
        wished = wish("#", 0, [1, 2, 3, 0])
        for way in ([], [STEP], [STEP] * 2, [STEP] * 4, [STEP] * 3 + [BACK], [STEP] * 2 + [ALL], [FINISH]):
            with self.subTest(way=way):
                now = names_behind(names, [wished] + way)
                given = answers_behind(names, [wished] + way + [find(name) for name in now])
                self.assertEqual(given[-4:], [0, 1, 2, 3])


class FinishedAndTakenBack(unittest.TestCase):
    """b and c."""

    def ways_into_the_midst(self, many):
        for steps in range(many):
            for backs in range(steps + 1):
                yield [STEP] * steps + [BACK] * backs

    def test_finished_from_wherever_each_has_the_name_that_was_wished(self):
        for names, rule, start, files in WISHES:
            wished = wish(rule, start, files)
            for way in self.ways_into_the_midst(answers_behind(names, [wished])[0]):
                with self.subTest(names=names, files=files, way=way):
                    calls = [wished] + way + [FINISH]
                    self.assertEqual(names_behind(names, calls), wished_names(names, rule, start, files))

    def test_taken_back_from_wherever_each_has_the_name_from_before(self):
        for names, rule, start, files in WISHES:
            wished = wish(rule, start, files)
            for way in self.ways_into_the_midst(answers_behind(names, [wished])[0]):
                with self.subTest(names=names, files=files, way=way):
                    left = way.count(STEP) - way.count(BACK)
                    self.assertEqual(names_behind(names, [wished] + way + [ALL]), names)
                    self.assertEqual(names_behind(names, [wished] + way + [BACK] * left), names)
                    self.assertEqual(names_behind(names, [wished] + way + [BACK] * (left + 1)), names)

    def test_with_names_of_stem_and_ending(self):
        names = ["a.txt", "b", ".c", "d.tar.gz"]
        calls = [wish("##-*+", 9, [3, 2, 1, 0]), STEP, STEP, BACK]
        self.assertEqual(names_behind(names, calls + [FINISH]), ["12-a.txt", "11-b", "10-.c", "09-d.tar.gz"])
        self.assertEqual(names_behind(names, calls + [ALL]), names)


class UnderWayJustIfAllCanBeCalledSo(unittest.TestCase):
    """d, its first half."""

    def test_over_every_move_of_three_among_four(self):
        names = ["0", "1", "2", "3"]
        for start in (0, 1, 2, 7, 8):
            for files in itertools.permutations(range(4), 3):
                with self.subTest(start=start, files=files):
                    wished = wished_names(names, "#", start, files)
                    can_be = len(set(wished)) == 4 and all(len(name) == 1 for name in wished)
                    under_way = 1 if can_be and wished != names else 0
                    given = all_answers_behind(names, [wish("#", start, files), STATE])
                    self.assertEqual(given[1][0], under_way)
                    self.assertEqual(given[0][0] >= 0, can_be)


class WhatIsRefusedChangesNothing(unittest.TestCase):
    """d, its second half."""

    WITHOUT_A_WISH = [add(""), add("~"), add("a" * 17), add("0"), wish("", 0, [0]), wish("~", 0, [0]),
                      wish("x", 0, [2]), wish("x", 0, [0, 0]), wish("+", 0, [0]), wish("#", 10, [1]),
                      wish("x", 0, [0, 1]), wish("1", 0, [0]), STEP, FINISH, BACK, ALL, name_of(2), find("~"), find("")]
    WITH_A_WISH = [add("c"), add(""), add("0"), wish("x", 0, [0]), wish("", 0, [0]), wish("*+", 0, [0]), name_of(2),
                   find("x"), find("")]
    SEEN = [STATE, name_of(0), name_of(1), find("0"), find("1"), find("~")]

    def check(self, way, refused):
        seen = all_answers_behind(["0", "1"], way + self.SEEN)[len(way):]
        for call in refused:
            with self.subTest(way=way, call=call):
                given = all_answers_behind(["0", "1"], way + [call] + self.SEEN)[len(way):]
                self.assertEqual(len(given[0]), 1)
                self.assertLess(given[0][0], 0)
                self.assertEqual(given[1:], seen)

    def test_without_a_wish(self):
        self.check([], self.WITHOUT_A_WISH)
        self.check([wish("#", 0, [1, 0]), FINISH], self.WITHOUT_A_WISH[:4])

    def test_with_a_wish_under_way(self):
        for way in ([], [STEP], [STEP, STEP], [STEP, STEP, BACK], [STEP, BACK]):
            self.check([wish("#", 0, [1, 0])] + way, self.WITH_A_WISH)

    def test_the_way_goes_on_as_if_nothing_had_been_asked(self):
        calls = [wish("#", 0, [1, 0])]
        for call in (STEP, STEP, BACK, BACK, STEP, STEP, STEP):
            calls += self.WITH_A_WISH + [call]
        self.assertEqual(names_behind(["0", "1"], calls), ["1", "0"])

    def test_a_seventeenth_file(self):
        names = [f"{number:02}" for number in range(16)]
        given = all_answers_behind(names, [add("16"), STATE, find("16"), name_of(16), BEGIN, STATE])
        self.assertEqual(given, [[-12], [0, 16, 0, 0], [-2], [-2], [0], [0, 0, 0, 0]])


if __name__ == "__main__":
    unittest.main()
