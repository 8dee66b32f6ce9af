"""The call put: where the element stands, and the faults of its text with their places."""

import unittest

from helper import count, drop, find, look, name, printed, put, read, told, told_bytes

HEAD = "glass a : 1 , 1 , 1 ;\nglass b : 2 , 2 , 2 ;\nstart a ;\n"
LINES = ["surface s after 1 into b curve 1 / 2 ;\n", "stop p after 2 ;\n", "mirror m after 3 flat ;\n"]
TEXT = HEAD + "".join(LINES)
SIXTEEN = HEAD + "".join(f"stop s{i} after {i} ;\n" for i in range(16))


class Stands(unittest.TestCase):
    def check(self, i, text, line):
        lines = LINES[:i] + [line] + LINES[i:]
        self.assertEqual(told(read(TEXT), put(i, text), printed(), count()),
                         [[0, 3], [0], told_bytes(HEAD + "".join(lines)), [0, 2, 4, 0]])

    def test_before_the_first_in_the_middle_and_behind_the_last(self):
        for i in range(4):
            self.check(i, "stop q after 1.50 clear 4/2;", "stop q after 3 / 2 clear 2 ;\n")
            self.check(i, "#x\nsurface t after 0 into a radius -4 conic -0.5 clear 1 ; # y",
                       "surface t after 0 into a curve - 1 / 4 conic - 1 / 2 clear 1 ;\n")
            self.check(i, "mirror n after 9 flat;\n", "mirror n after 9 flat ;\n")

    def test_a_system_without_elements(self):
        self.assertEqual(told(read(HEAD), put(1, "stop q after 1;"), put(0, "stop q after 1;"), printed())[1:],
                         [[-1], [0], told_bytes(HEAD + "stop q after 1 ;\n")])

    def test_what_else_is_asked_tells_the_changed_system(self):
        row = told(read(TEXT), put(1, "surface q after 1/2 into b flat clear 3;"), find(1, "s"), find(1, "q"),
                   find(1, "p"), find(1, "m"), name(1, 1), name(1, 3), look(1), look(2))[2:]
        self.assertEqual(row, [[0, 0], [0, 1], [0, 2], [0, 3], told_bytes("q"), told_bytes("m"),
                               [0, 0, 1, 1, 2, 0, 1, 0, 1, 3, 1], [0, 2, 0, 2, 1, 0, 1, 0, 1, 0, 1]])

    def test_a_glass_s_name_may_be_an_element_s(self):
        self.check(3, "stop a after 1;", "stop a after 1 ;\n")

    def test_a_dropped_name_is_free_again(self):
        self.assertEqual(told(read(TEXT), put(0, "stop p after 1;"), drop(1), put(0, "stop p after 1;"), printed())[1:],
                         [[-7, 3, 5], [0], [0], told_bytes(HEAD + "stop p after 1 ;\n" + LINES[0] + "mirror m after 5 flat ;\n")])

    def test_one_behind_another(self):
        self.assertEqual(told(read(HEAD), put(0, "stop x after 1;"), put(0, "stop y after 2;"), put(1, "stop z after 3;"),
                              put(3, "stop x after 4;"), put(3, "stop w after 4;"), printed())[1:],
                         [[0], [0], [0], [-7, 3, 5], [0], told_bytes(
                             HEAD + "stop y after 2 ;\nstop z after 3 ;\nstop x after 1 ;\nstop w after 4 ;\n")])

    def test_up_to_sixteen(self):
        calls = [put(i // 2, f"stop s{i} after {i};") for i in range(17)]
        self.assertEqual(told(read(HEAD), *calls, count())[1:], [[0]] * 16 + [[-7, 5, 0], [0, 2, 16, 0]])
        self.assertEqual(told(read(SIXTEEN), put(0, "stop x after 1;"), drop(5), put(0, "stop x after 1;"), count())[1:],
                         [[-7, 5, 0], [0], [0], [0, 2, 16, 0]])

    def test_a_read_behind_it_tells_another_system(self):
        self.assertEqual(told(read(TEXT), put(0, "stop x after 1;"), read(TEXT), printed())[3], told_bytes(TEXT))


class Refused(unittest.TestCase):
    def refuse(self, call, answer, kept=TEXT):
        with self.subTest(call[:60]):
            self.assertEqual(told(read(kept), call, printed(), count()),
                             [[0, kept.count("after")], answer, told_bytes(kept), [0, 2, kept.count("after"), 0]])

    def faults(self, fault, *texts, kept=TEXT):
        """Where the sign ! stands the fault is told; it is taken out."""
        for text in texts:
            for i in (0, kept.count("after")):
                self.refuse(put(i, text.replace("!", "")), [-7, fault, text.index("!")], kept)

    def test_the_place_where_it_would_stand(self):
        for i in (4, 5, 17, 4294967295):
            self.refuse(put(i, "stop x after 1;"), [-1])
        self.refuse(put(17, "stop x after 1;"), [-1], SIXTEEN)

    def test_too_many_bytes(self):
        text = "stop x after 1;"
        self.assertEqual(told(read(TEXT), put(0, text + " " * (16384 - len(text))))[1], [0])
        self.refuse(put(0, text + " " * (16385 - len(text))), [-1])
        self.refuse(put(0, "?" * 16384), [-7, 1, 0])
        self.refuse(put(0, "?" * 16385), [-1])

    def test_of_two_refusals_the_first_told(self):
        self.refuse(put(4, ""), [-1])
        self.refuse(put(4, "stop p after ?"), [-1])
        self.refuse(put(17, "stop p after 1;"), [-1], SIXTEEN)
        self.refuse(put(4, "?" * 16385), [-1])

    def test_where_there_is_no_system(self):
        for call in (put(0, "stop x after 1;"), put(1, "stop x after 1;"), put(0, ""), put(9, "?"), put(0, "x" * 16385)):
            self.assertEqual(told(call, count()), [[-2], [-2]])

    def test_1_no_token(self):
        self.faults(1, "!?", "stop x after !1x;", "stop x after !1.", "stop !" + "x" * 33, "mirror m2 after 1 flat !.",
                    "stop x after 1 clear !" + "1" * 19, "  # c\n!\xff")

    def test_1_behind_the_element(self):
        self.faults(1, "stop x after 1;!?", "stop x after 1; # y\n !1x", "stop x after 1;!" + "a" * 33)

    def test_2_the_token_cannot_stand(self):
        self.faults(2, "!glass c:1,1,1;", "!start a;", "!;", "!x", "!1", "stop !after", "stop x !flat", "stop x after !-1;",
                    "surface x after 1 !flat;", "mirror x after 1 !into a flat;", "stop x after 1 !curve 1;",
                    "mirror x after 1 flat !flat", "surface x after 1 into !glass")

    def test_2_the_text_ends_too_early(self):
        self.faults(2, "!", "  !", "# nothing!", "# nothing\n!", "stop!", "stop x!", "stop x after!", "stop x after 1!",
                    "stop x after 1/!", "stop x after 1 clear!", "surface x after 1 into!", "mirror x after 1 curve -!",
                    "mirror x after 1 radius 0!", "stop x after 1 clear 0!")

    def test_2_where_it_goes_on(self):
        self.faults(2, "stop x after 1;!;", "stop x after 1;!stop y after 1;", "stop x after 1; !x", "stop x after 1;!1",
                    "stop x after 1;\n#c\n!surface y after 1 into a flat;", "stop x after 1;!glass", "stop x after 1;!-",
                    "stop x after 1;!stop x after 1;", "stop x after 1;!start a;")

    def test_2_where_it_goes_on_behind_the_sixteenth(self):
        self.faults(2, "stop x after 1;!stop y after 1;", kept=HEAD + "".join(f"stop s{i} after {i} ;\n" for i in range(15)))

    def test_3_a_name_that_one_has(self):
        self.faults(3, "stop !s after 1;", "mirror !p after 1 flat;", "surface !m after ?", "stop\n#\n!m after 1;")

    def test_4_no_glass(self):
        self.faults(4, "surface x after 1 into !c flat;", "surface x after 1 into !s flat;", "surface x after 1 into !A ?",
                    "surface x after 1 into !x flat;")

    def test_5_the_seventeenth(self):
        self.faults(5, "!stop x after 1;", " # c\n!mirror s1 ?", "!surface", kept=SIXTEEN)
        self.faults(2, "!", "!x", "!glass", kept=SIXTEEN)
        self.faults(1, "!?", kept=SIXTEEN)

    def test_6_a_number_that_cannot_stand(self):
        self.faults(6, "stop x after 1/!0;", "stop x after 1 clear 0!;", "stop x after 1 clear 0/3 !;",
                    "mirror x after 1 radius 0 !;", "mirror x after 1 radius -0.0 !conic 1;",
                    "surface x after 1 into a radius 0 !clear 1;", "mirror x after 1 flat conic 1/!00;")

    def test_the_first_by_place(self):
        self.faults(3, "stop !s after 1/0;?")
        self.faults(4, "surface x after 1 into !c radius 0;")
        self.faults(6, "stop x after 1/!0;stop y after 1;")
        self.faults(2, "!glass s:0,1,1;")

    def test_what_stands_behind_a_fault_is_not_asked(self):
        for rest in ("", "?" * 70, "stop " * 20, "#", ";" * 70):
            self.faults(3, "stop !s " + " " * 64 + rest)
            self.faults(2, "stop x after 1; !x " + " " * 64 + rest)
            self.faults(1, "!" + "a" * 65 + rest)


if __name__ == "__main__":
    unittest.main()
