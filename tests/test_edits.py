"""The calls drop, set, scale and reverse: what they change, and in which ways they're refused."""

import unittest

from helper import count, drop, find, form_behind, look, name, printed, read, reverse, scale, set_to, told, told_bytes

LONG = 10 ** 18 - 1
SMALLEST, LARGEST = -9223372036854775808, 9223372036854775807
MOST_SHORT = 4294967295

HEAD = "glass a : 1 , 1 , 1 ;\nglass b : 3 / 2 , 2 , 5 / 2 ;\nglass c : 2 , 2 , 2 ;\nstart a ;\n"
SURFACE = "surface s after 1 into b curve 1 / 2 conic - 1 clear 4 ;\n"
MIRROR = "mirror m after 5 / 2 curve - 1 / 3 conic 7 ;\n"
STOP = "stop p after 3 clear 1 / 2 ;\n"
TEXT = HEAD + SURFACE + MIRROR + STOP


class Checks(unittest.TestCase):
    def form(self, text, calls, form):
        with self.subTest(calls):
            self.assertEqual(told(read(text), *calls, printed())[1:], [[0]] * len(calls) + [told_bytes(form)])

    def refuse(self, text, call, number):
        """It's refused, and everything that can be asked is as it was; so it is when it's refused again."""
        things = text.count("after")
        asked = [printed(), count()] + [look(i) for i in range(things)]
        rows = told(read(text), *asked, call, call, *asked)[1:]
        with self.subTest(call):
            self.assertEqual(rows[len(asked):len(asked) + 2], [[number], [number]])
            self.assertEqual(rows[:len(asked)], rows[len(asked) + 2:])


class NoSystem(Checks):
    def test_where_there_is_no_system(self):
        calls = ([7, 0], [8, 0], drop(0), set_to(0, 0, 1, 1), scale(1, 1), reverse(), [7, 9], [8, 9], drop(9),
                 set_to(9, 9, -1, 0), set_to(0, 0, LARGEST, 1), scale(0, 0), scale(-1, 1))
        for call in calls:
            with self.subTest(call):
                self.assertEqual(told(call, printed()), [[-2], [-2]])
                self.assertEqual(told(read(TEXT), [1], call), [[0, 3], [0], [-2]])


class Drop(Checks):
    def test_the_first(self):
        self.form(TEXT, [drop(0)], HEAD + MIRROR.replace("5 / 2", "7 / 2") + STOP)

    def test_one_in_the_middle(self):
        self.form(TEXT, [drop(1)], HEAD + SURFACE + STOP.replace("after 3", "after 11 / 2"))

    def test_the_last(self):
        self.form(TEXT, [drop(2)], HEAD + SURFACE + MIRROR)

    def test_all_of_them(self):
        self.form(TEXT, [drop(0), drop(0)], HEAD + STOP.replace("after 3", "after 13 / 2"))
        self.form(TEXT, [drop(0), drop(0), drop(0)], HEAD)
        self.form(TEXT, [drop(2), drop(1), drop(0)], HEAD)

    def test_what_else_is_asked_tells_the_changed_system(self):
        rows = told(read(TEXT), drop(1), count(), name(1, 1), find(1, "m"), find(1, "p"), look(1), look(2), name(1, 2))[2:]
        self.assertEqual(rows, [[0, 3, 2, 0], told_bytes("p"), [-4], [0, 1], [0, 2, 0, 11, 2, 0, 1, 0, 1, 1, 2], [-1], [-1]])

    def test_no_such_element(self):
        for i in (3, 4, 16, MOST_SHORT):
            self.refuse(TEXT, drop(i), -1)
        self.refuse(HEAD, drop(0), -1)

    def test_a_sum_that_is_just_short_enough(self):
        self.form(HEAD + f"stop p after {LONG - 1} ;\nstop q after 1 ;\n", [drop(0)], HEAD + f"stop q after {LONG} ;\n")
        self.form(HEAD + "stop p after 1 / 999999999 ;\nstop q after 1 / 1000000000 ;\n", [drop(0)],
                  HEAD + "stop q after 1999999999 / 999999999000000000 ;\n")

    def test_a_sum_that_is_short_enough_in_least_terms(self):
        self.form(HEAD + f"stop p after 1 / {LONG} ;\nstop q after 2 / {LONG} ;\n", [drop(0)],
                  HEAD + f"stop q after 1 / {LONG // 3} ;\n")

    def test_a_sum_that_is_too_long(self):
        self.refuse(HEAD + f"stop p after {LONG} ;\nstop q after 1 ;\n", drop(0), -6)
        self.refuse(HEAD + f"stop p after {LONG} ;\nstop q after {LONG} ;\n", drop(0), -6)
        self.refuse(HEAD + "stop p after 1 / 1000000000 ;\nstop q after 1 / 1000000001 ;\n", drop(0), -6)
        self.refuse(HEAD + f"stop r after 1 ;\nmirror p after 1 / 2 flat ;\nstop q after {LONG} ;\n", drop(1), -6)
        # The sum's lower number is 10^18 itself.
        self.refuse(HEAD + f"stop p after 1 / {2 ** 18} ;\nstop q after 1 / {5 ** 18} ;\n", drop(0), -6)

    def test_the_last_one_s_gap_is_not_added(self):
        self.form(HEAD + f"stop p after {LONG} ;\nstop q after {LONG} ;\n", [drop(1)], HEAD + f"stop p after {LONG} ;\n")

    def test_long_gaps_that_are_not_next_to_it(self):
        text = HEAD + f"stop p after {LONG} ;\nstop q after 1 ;\nstop r after 1 ;\nstop t after {LONG} ;\n"
        self.form(text, [drop(1)], HEAD + f"stop p after {LONG} ;\nstop r after 2 ;\nstop t after {LONG} ;\n")
        self.refuse(text, drop(0), -6)
        self.refuse(text, drop(2), -6)


class Set(Checks):
    def check(self, i, what, p, q, told_as):
        """The number is told and printed so, and all others are as they were."""
        before, answer, after, form = told(read(TEXT), look(i), set_to(i, what, p, q), look(i), printed())[1:]
        with self.subTest((i, what, p, q)):
            self.assertEqual(answer, [0])
            before[3 + 2 * what:5 + 2 * what] = told_as
            self.assertEqual(after, before)
            # What's printed tells it too, and the elements beside it are as they were.
            self.assertEqual(told(read(form[2:]), look(i))[1], after)
            kept, lines = TEXT.splitlines(), bytes(form[2:]).decode().splitlines()
            self.assertEqual(kept[:4 + i] + kept[5 + i:], lines[:4 + i] + lines[5 + i:])

    def test_the_gap_and_clear_of_each_kind(self):
        for i in range(3):
            for what in (0, 3):
                self.check(i, what, 7, 1, [7, 1])
                self.check(i, what, 6, 4, [3, 2])
                self.check(i, what, 0, 1, [0, 1])
                self.check(i, what, 0, LARGEST, [0, 1])
                self.check(i, what, LONG, 1, [LONG, 1])
                self.check(i, what, 1, LONG, [1, LONG])
                self.check(i, what, LONG, LONG - 1, [LONG, LONG - 1])

    def test_the_curve_and_conic_of_surfaces_and_mirrors(self):
        for i in range(2):
            for what in (1, 2):
                for sign in (1, -1):
                    self.check(i, what, sign * 7, 1, [sign * 7, 1])
                    self.check(i, what, sign * 6, 4, [sign * 3, 2])
                    self.check(i, what, sign * LONG, 1, [sign * LONG, 1])
                    self.check(i, what, sign, LONG, [sign, LONG])
                self.check(i, what, 0, 5, [0, 1])

    def test_the_curve_and_conic_of_a_stop(self):
        for what in (1, 2):
            self.check(2, what, 0, 1, [0, 1])
            self.check(2, what, 0, LARGEST, [0, 1])
            for p in (1, -1, LONG, LARGEST, SMALLEST):
                self.refuse(TEXT, set_to(2, what, p, 1), -5)
                self.refuse(TEXT, set_to(2, what, p, LARGEST), -5)

    def test_how_it_is_printed(self):
        self.form(TEXT, [set_to(0, 3, 0, 9), set_to(0, 1, 0, 1), set_to(0, 2, 0, 1), set_to(0, 0, 0, 1)],
                  HEAD + "surface s after 0 into b flat ;\n" + MIRROR + STOP)
        self.form(TEXT, [set_to(1, 3, 4, 6), set_to(1, 1, -10, 4), set_to(1, 2, -3, 9), set_to(1, 0, 8, 2)],
                  HEAD + SURFACE + "mirror m after 4 curve - 5 / 2 conic - 1 / 3 clear 2 / 3 ;\n" + STOP)
        self.form(TEXT, [set_to(2, 3, 0, 1)], HEAD + SURFACE + MIRROR + "stop p after 3 ;\n")
        self.form(TEXT, [set_to(1, 3, 0, 1)], TEXT)

    def test_the_largest_numbers_in_least_terms(self):
        self.check(0, 0, LARGEST, LARGEST, [1, 1])
        self.check(0, 1, SMALLEST, 16, [-(2 ** 59), 1])
        self.check(0, 0, 9 * LONG, 9, [LONG, 1])
        self.check(0, 0, 9, 9 * LONG, [1, LONG])
        self.check(0, 1, -9 * LONG, 9, [-LONG, 1])
        self.check(0, 3, 9 * 10 ** 18, 9 * 10 ** 17, [10, 1])

    def test_no_such_element_no_such_number_a_0_below(self):
        for call in (set_to(3, 0, 1, 1), set_to(16, 0, 1, 1), set_to(MOST_SHORT, 0, 1, 1), set_to(0, 4, 1, 1),
                     set_to(0, MOST_SHORT, 1, 1), set_to(2, 4, 0, 1), set_to(0, 0, 1, 0), set_to(0, 0, 0, 0),
                     set_to(1, 1, 1, 0), set_to(2, 2, 0, 0), set_to(1, 3, 5, 0)):
            self.refuse(TEXT, call, -1)
        self.refuse(HEAD, set_to(0, 0, 1, 1), -1)

    def test_a_gap_or_clear_below_0(self):
        for i in range(3):
            for what in (0, 3):
                for p in (-1, -6, SMALLEST):
                    self.refuse(TEXT, set_to(i, what, p, 1), -5)
                    self.refuse(TEXT, set_to(i, what, p, 7), -5)

    def test_too_long(self):
        for i in range(3):
            for what in (0, 3) if i == 2 else (0, 1, 2, 3):
                for p, q in ((LONG + 1, 1), (1, LONG + 1), (LARGEST, 1), (1, LARGEST), (LARGEST, LARGEST - 1),
                             (2 * LONG + 2, 2), (3, 3 * LONG + 3), (LONG + 1, LONG), (LONG, LONG + 1)):
                    self.refuse(TEXT, set_to(i, what, p, q), -6)
        for i in range(2):
            for what in (1, 2):
                for p, q in ((-LONG - 1, 1), (-1, LONG + 1), (SMALLEST, 1), (SMALLEST, LARGEST)):
                    self.refuse(TEXT, set_to(i, what, p, q), -6)

    def test_of_two_refusals_the_first_told(self):
        for call in (set_to(3, 0, -1, 1), set_to(3, 0, LARGEST, 1), set_to(0, 4, -1, 1), set_to(0, 4, SMALLEST, 1),
                     set_to(0, 0, -1, 0), set_to(2, 1, 1, 0), set_to(0, 0, LARGEST, 0), set_to(3, 4, 1, 0)):
            self.refuse(TEXT, call, -1)
        for call in (set_to(0, 0, SMALLEST, 1), set_to(1, 3, -1, LARGEST), set_to(2, 1, LARGEST, 1),
                     set_to(2, 2, SMALLEST, LARGEST), set_to(2, 0, -LONG - 1, 1)):
            self.refuse(TEXT, call, -5)


class Scale(Checks):
    def test_up(self):
        self.form(TEXT, [scale(2, 1)], HEAD + "surface s after 2 into b curve 1 / 4 conic - 1 clear 8 ;\n"
                  "mirror m after 5 curve - 1 / 6 conic 7 ;\nstop p after 6 clear 1 ;\n")

    def test_down(self):
        self.form(TEXT, [scale(1, 3)], HEAD + "surface s after 1 / 3 into b curve 3 / 2 conic - 1 clear 4 / 3 ;\n"
                  "mirror m after 5 / 6 curve - 1 conic 7 ;\nstop p after 1 clear 1 / 6 ;\n")

    def test_not_in_least_terms(self):
        self.form(TEXT, [scale(6, 4)], form_behind(TEXT, scale(3, 2)))
        self.form(TEXT, [scale(LARGEST, LARGEST)], TEXT)

    def test_there_and_back(self):
        self.form(TEXT, [scale(35, 22), scale(22, 35)], TEXT)

    def test_it_bears_no_0(self):
        for p, q in ((0, 1), (0, 0), (1, 0), (-1, 1), (SMALLEST, 1), (-1, 0), (SMALLEST, LARGEST), (LARGEST, 0), (0, LARGEST)):
            self.refuse(TEXT, scale(p, q), -1)
            self.refuse(HEAD, scale(p, q), -1)

    def test_gaps_and_clears_grow_too_long_above(self):
        for line, longer in (("stop p after 999999999999999999 ;\n", (2, 1)), ("stop p after 0 clear 500000000000000000 ;\n", (2, 1)),
                             ("mirror m after 1 flat ;\n", (LONG + 1, 1)), ("stop p after 1000000000 / 7 ;\n", (1000000000, 1))):
            self.refuse(HEAD + line, scale(*longer), -6)
            self.refuse(TEXT.replace(STOP, "") + line.replace(" m ", " n "), scale(*longer), -6)

    def test_gaps_and_clears_grow_too_long_below(self):
        for line in ("stop p after 1 / 999999999999999999 ;\n", "stop p after 0 clear 1 / 500000000000000000 ;\n",
                     "mirror p after 3 / 500000000000000000 flat ;\n"):
            self.refuse(HEAD + line, scale(1, 2), -6)
            self.refuse(TEXT.replace(STOP, "") + line, scale(1, 2), -6)

    def test_curves_grow_too_long_above(self):
        for curve in ("999999999999999999", "- 500000000000000000"):
            self.refuse(HEAD + f"mirror m after 0 curve {curve} ;\n", scale(1, 2), -6)
            self.refuse(HEAD + STOP + f"surface s after 0 into c curve {curve} ;\n", scale(1, 2), -6)

    def test_curves_grow_too_long_below(self):
        for curve in ("1 / 999999999999999999", "- 1 / 500000000000000000"):
            self.refuse(HEAD + f"mirror m after 0 curve {curve} ;\n", scale(2, 1), -6)
            self.refuse(HEAD + STOP + f"surface s after 0 into c curve {curve} ;\n", scale(2, 1), -6)

    def test_just_short_enough(self):
        self.form(HEAD + "mirror m after 333333333333333333 curve 1 / 333333333333333333 clear 333333333333333333 ;\n",
                  [scale(3, 1)],
                  HEAD + f"mirror m after {LONG} curve 1 / {LONG} clear {LONG} ;\n")
        self.form(HEAD + "mirror m after 1 / 333333333333333333 curve - 333333333333333333 clear 1 / 333333333333333333 ;\n",
                  [scale(1, 3)],
                  HEAD + f"mirror m after 1 / {LONG} curve - {LONG} clear 1 / {LONG} ;\n")

    def test_conics_stay_however_long_they_are(self):
        line = f"mirror m after 1 flat conic - {LONG} / {LONG - 1} ;\n"
        self.form(HEAD + line, [scale(1000, 1)], HEAD + line.replace("after 1 ", "after 1000 "))

    def test_a_long_factor_where_no_number_grows_too_long(self):
        self.form(HEAD, [scale(LARGEST, 1), scale(1, LARGEST)], HEAD)
        flat = HEAD + "surface s after 0 into b flat conic 2 ;\n"
        self.form(flat, [scale(LARGEST, 1), scale(1, LARGEST)], flat)
        self.form(HEAD + "stop p after 1 / 10 ;\n", [scale(LONG + 1, 1)], HEAD + f"stop p after {(LONG + 1) // 10} ;\n")

    def test_one_that_is_too_long_among_sixteen_changes_none(self):
        for at in (0, 7, 15):
            lines = [f"stop p{i} after {LONG if i == at else 1} clear 1 ;\n" for i in range(16)]
            self.refuse(HEAD + "".join(lines), scale(2, 1), -6)


class Reverse(Checks):
    def test_no_mirror(self):
        text = HEAD + SURFACE + STOP + "surface t after 2 into c curve - 1 / 5 conic 3 ;\nstop q after 9 ;\n"
        turned = ("start c ;\nstop q after 0 ;\nsurface t after 9 into b curve 1 / 5 conic 3 ;\n"
                  "stop p after 2 clear 1 / 2 ;\nsurface s after 3 into a curve - 1 / 2 conic - 1 clear 4 ;\n")
        self.form(text, [reverse()], HEAD.replace("start a ;\n", "") + turned)

    def test_one_mirror(self):
        turned = ("start b ;\nstop p after 0 clear 1 / 2 ;\nmirror m after 3 curve - 1 / 3 conic 7 ;\n"
                  "surface s after 5 / 2 into a curve 1 / 2 conic - 1 clear 4 ;\n")
        self.form(TEXT, [reverse()], HEAD.replace("start a ;\n", "") + turned)

    def test_two_mirrors(self):
        text = TEXT + "mirror n after 4 curve 1 / 7 ;\nsurface t after 1 into c flat ;\n"
        turned = ("start c ;\nsurface t after 0 into b flat ;\nmirror n after 1 curve - 1 / 7 ;\nstop p after 4 clear 1 / 2 ;\n"
                  "mirror m after 3 curve 1 / 3 conic 7 ;\nsurface s after 5 / 2 into a curve - 1 / 2 conic - 1 clear 4 ;\n")
        self.form(text, [reverse()], HEAD.replace("start a ;\n", "") + turned)

    def test_three_mirrors(self):
        text = HEAD + "".join(f"mirror m{i} after {i + 1} curve 1 / {i + 2} ;\n" for i in range(3))
        self.form(text, [reverse()], HEAD + "mirror m2 after 0 curve 1 / 4 ;\nmirror m1 after 3 curve 1 / 3 ;\n"
                  "mirror m0 after 2 curve 1 / 2 ;\n")

    def test_no_element_and_one(self):
        self.form(HEAD, [reverse()], HEAD)
        self.form(HEAD, [reverse(), reverse()], HEAD)
        self.form(HEAD + "stop p after 3 ;\n", [reverse()], HEAD + "stop p after 0 ;\n")
        self.form(HEAD + "mirror m after 3 curve 1 ;\n", [reverse()], HEAD + "mirror m after 0 curve 1 ;\n")
        self.form(HEAD + "surface s after 3 into c curve 1 ;\n", [reverse()],
                  HEAD.replace("start a", "start c") + "surface s after 0 into a curve - 1 ;\n")

    def test_twice_it_is_as_it_was_but_for_the_first_gap(self):
        for text in (TEXT, TEXT + "mirror n after 4 curve 1 / 7 ;\nsurface t after 1 into c flat ;\n", HEAD + SURFACE):
            self.form(text, [reverse(), reverse()], text.replace("surface s after 1 ", "surface s after 0 "))

    def test_the_longest_numbers(self):
        line = f"mirror m after {LONG} curve - {LONG} / {LONG - 1} conic {LONG} clear 1 / {LONG} ;\n"
        text = HEAD + STOP + line + line.replace(" m ", " n ")
        self.form(text, [reverse()], HEAD + line.replace(" m ", " n ").replace(f"after {LONG}", "after 0").replace("- ", "")
                  + line.replace("- ", "") + STOP.replace("after 3", f"after {LONG}"))

    def test_what_else_is_asked_tells_the_changed_system(self):
        rows = told(read(TEXT), reverse(), count(), name(1, 0), name(1, 2), find(1, "s"), look(0), look(1), look(2))[2:]
        self.assertEqual(rows, [
            [0, 3, 3, 1], told_bytes("p"), told_bytes("s"), [0, 2], [0, 2, 0, 0, 1, 0, 1, 0, 1, 1, 2],
            [0, 1, 0, 3, 1, -1, 3, 7, 1, 0, 1], [0, 0, 0, 5, 2, 1, 2, -1, 1, 4, 1]])


class Together(Checks):
    def test_edits_one_behind_another(self):
        self.form(TEXT, [set_to(0, 0, 10, 1), reverse(), scale(2, 1), drop(1), set_to(1, 1, -1, 8)],
                  HEAD.replace("start a", "start b") + "stop p after 0 clear 1 ;\n"
                  "surface s after 11 into a curve - 1 / 8 conic - 1 clear 8 ;\n")

    def test_a_refused_edit_among_others(self):
        rows = told(read(TEXT), scale(2, 1), scale(0, 1), drop(3), set_to(0, 0, -1, 1), set_to(0, 0, 10 ** 18, 1), drop(0),
                    printed())[1:]
        self.assertEqual(rows, [[0], [-1], [-1], [-5], [-6], [0], told_bytes(
            HEAD + "mirror m after 7 curve - 1 / 6 conic 7 ;\nstop p after 6 clear 1 ;\n")])

    def test_a_refused_read_leaves_what_was_edited(self):
        self.form(TEXT, [drop(0), drop(0)], HEAD + "stop p after 13 / 2 clear 1 / 2 ;\n")
        rows = told(read(TEXT), drop(0), drop(0), read("glass"), printed())[3:]
        self.assertEqual(rows, [[-7, 2, 5], told_bytes(HEAD + "stop p after 13 / 2 clear 1 / 2 ;\n")])


if __name__ == "__main__":
    unittest.main()
