"""The faults of texts, with their places, and the edges of tokens."""

import unittest

from helper import count, name, read, told, told_bytes

HEAD = "glass a:1,1,1;start a;"


class Checks(unittest.TestCase):
    def fault(self, text, fault, place):
        """A place of None: where the sign ! stands in the text, which is taken out."""
        if place is None:
            place = text.index("!")
            text = text.replace("!", "")
        with self.subTest(text[-60:]):
            self.assertEqual(told(read(text)), [[-7, fault, place]])

    def faults(self, fault, *texts):
        for text in texts:
            self.fault(text, fault, None)

    def fine(self, *texts):
        for text in texts:
            with self.subTest(text[-60:]):
                self.assertEqual(told(read(text))[0][0], 0)


class NoToken(Checks):
    def test_signs_that_begin_no_token(self):
        for sign in "?.+*=()[]{}\"'<>@$&|~^\\`":
            self.fault(sign, 1, 0)
            self.fault(HEAD + sign, 1, len(HEAD))
        for byte in (0, 1, 8, 11, 12, 14, 31, 127, 128, 160, 255):
            with self.subTest(byte):
                self.assertEqual(told(read([byte])), [[-7, 1, 0]])
                self.assertEqual(told(read(list(HEAD.encode()) + [32, byte])), [[-7, 1, len(HEAD) + 1]])

    def test_numbers_with_something_directly_behind(self):
        self.faults(1, "glass a:!1a", "glass a:!1_", "glass a:!1.", "glass a:!1.,", "glass a:!1.a", "glass a:!1. 5",
                    "glass a:!1.5a", "glass a:!1.5_", "glass a:!1.5.", "glass a:!1.5.2", "glass a: !1..5",
                    "glass a:1,!2z", "glass a:1/!2.", HEAD + "stop s after !0into", HEAD + "stop s after !1.Z")
        self.faults(1, "glass a:!.5", "glass a:1 !.5", "glass a:1.5 !.", "glass a:1,!.")

    def test_what_may_stand_directly_behind_a_number(self):
        self.fine("glass a:1,1#x\n,4/2# y\n;start a;", "glass a:1.5,3/2,1\t;start a;",
                  HEAD + "stop s after 1/2;stop t after 1.5\nclear 1# z\n;")
        self.faults(1, HEAD + "stop s after 1!?", HEAD + "stop s after 1.5!\xff")
        self.faults(2, HEAD + "stop s after 1!-1", HEAD + "stop s after 1!:")

    def test_18_and_19_digits(self):
        for digits in ("9" * 18, "0" * 17 + "1", "1." + "0" * 17, "1" * 17 + ".5", "123456789.987654321"):
            self.fine(f"glass a:{digits},{digits},{digits};start a;stop s after {digits};")
        for digits in ("1" * 19, "0" * 18 + "1", "1." + "0" * 18, "1" * 18 + ".5", "1234567890.987654321", "1" * 15000):
            self.fault(f"glass a:!{digits},1,1;start a;", 1, None)
            self.fault(f"{HEAD}stop s after 1/!{digits};", 1, None)

    def test_names_of_32_and_33_bytes(self):
        for long in ("a" * 32, "_" * 32, "Z" + "9" * 31):
            self.fine(f"glass {long}:1,1,1;start {long};surface {long} after 1 into {long} flat;")
            self.assertEqual(told(read(f"glass {long}:1,1,1;start {long};"), name(0, 0))[1], told_bytes(long))
        for long in ("a" * 33, "_" * 33, "Z" + "9" * 32, "glass" * 7, "x" * 15000):
            self.fault(f"glass !{long}:1,1,1;", 1, None)
            self.fault(f"!{long}", 1, None)
            self.fault(f"{HEAD}surface s after 1 into !{long}", 1, None)

    def test_names_of_one_byte(self):
        for short in "aZ_":
            self.fine(f"glass {short}:1,1,1;start {short};stop {short} after 0;")

    def test_names_end_where_their_signs_end(self):
        self.faults(1, "glass a!.b", "glass a!\xe9", "glass a!?")
        self.faults(2, "glass a!-b", "glass a!/")

    def test_marks(self):
        for mark in ":,;/-":
            self.fault(mark, 2, 0)


class CantStand(Checks):
    WHOLE = ("glass a : 1 / 1 , 2 , 1.5 ; glass b : 1 , 1 , 1 ; start a ; "
             "surface s after 1 into a curve - 1 / 2 conic - 1.5 clear 3 ; "
             "mirror m after 1 / 2 radius 3 conic 1 ; mirror n after 0 flat clear 1 / 2 ; stop p after 1 clear 2 ; "
             "stop q after 0.5 ;").split()

    def test_every_row_that_ends_too_early(self):
        for many in range(len(self.WHOLE)):
            text = " ".join(self.WHOLE[:many])
            # Behind "start a ;" and each element's ";" the text may end.
            if "start" in text and self.WHOLE[many - 1] == ";":
                self.fine(text)
                continue
            self.fault(text, 2, len(text))
            self.fault(text + " \n# and no more", 2, len(text) + 15)
            self.fault(text + "\n# no more\n", 2, len(text) + 11)

    def test_every_token_that_is_replaced(self):
        for many in range(len(self.WHOLE)):
            text = "".join(token + " " for token in self.WHOLE[:many])
            wrong = "into" if self.WHOLE[many] == "after" else "after"
            self.fault(text + wrong, 2, len(text))
            self.fault(text + "?", 1, len(text))

    def test_the_empty_text(self):
        self.fault("", 2, 0)
        self.fault(" \t\r\n", 2, 4)
        self.fault("# nothing", 2, 9)
        self.fault("# nothing\n", 2, 10)

    def test_no_glass_no_start(self):
        self.faults(2, "!start a;", "!surface", "!a", "glass a:1,1,1;!surface", "glass a:1,1,1;!", "glass a:1,1,1;!stop",
                    HEAD + "!glass b:1,1,1;", HEAD + "!start a;", HEAD + "!a", HEAD + "!1", HEAD + "!;")

    def test_a_word_where_a_name_is_asked(self):
        for word in "after clear conic curve flat glass into mirror radius start stop surface".split():
            self.faults(2, f"glass !{word}:1,1,1;", f"glass a:1,1,1;start !{word};", f"{HEAD}stop !{word} after 1;",
                        f"{HEAD}surface !{word} after", f"{HEAD}mirror !{word}",
                        f"{HEAD}surface s after 1 into !{word} flat;")
            for near in (word + "s", word.upper(), "_" + word, word[:-1], word + "1"):
                self.fine(f"glass {near}:1,1,1;start {near};surface {near} after 1 into {near} flat;")

    def test_a_name_where_a_word_is_asked(self):
        self.faults(2, "!Glass a:1,1,1;", "!glasses", HEAD + "!Stop s", HEAD + "stop s !aft 1", HEAD + "stop s !After 1",
                    HEAD + "mirror m after 1 !flats;", HEAD + "!lens")

    def test_numbers_that_are_not_asked(self):
        self.faults(2, "glass a:!-1,1,1;", HEAD + "stop s after !-1;", HEAD + "stop s after 1 clear !-1;",
                    HEAD + "mirror m after 1 curve -!-1;", HEAD + "stop s after !s", HEAD + "stop s after 1/!-2;")

    def test_fractions(self):
        self.faults(2, HEAD + "stop s after 1.5!/2;", HEAD + "stop s after 1/!2.5;", HEAD + "stop s after 1/2!/3;",
                    HEAD + "stop s after 1/!;", HEAD + "stop s after !/2;", HEAD + "stop s after 1/!0.0;",
                    HEAD + "stop s after 1/!", HEAD + "stop s after 1 !2;")

    def test_parts_that_an_element_does_not_have(self):
        self.faults(2, HEAD + "stop s after 1 !flat;", HEAD + "stop s after 1 !conic 1;", HEAD + "stop s after 1 !into a;",
                    HEAD + "mirror m after 1 !into a flat;", HEAD + "mirror m after 1!;", HEAD + "mirror m after 1 !clear 1;",
                    HEAD + "mirror m after 1 !conic 1;", HEAD + "surface s after 1 !flat;",
                    HEAD + "surface s after 1 into a!;", HEAD + "surface s after 1 into a !clear 1;",
                    HEAD + "mirror m after 1 flat clear 1 !conic 1;", HEAD + "mirror m after 1 flat !curve 1;",
                    HEAD + "mirror m after 1 flat conic 1 !conic 1;", HEAD + "mirror m after 1 flat clear 1 !clear 1;",
                    HEAD + "mirror m after 1 flat !1;", HEAD + "mirror m after 1 curve!;")

    def test_glasses_have_three_indices(self):
        self.faults(2, "glass a:1,1!;", "glass a:1,1,1!,1;", "glass a !1,1,1;", "glass a:!;", "glass a:1 !1")


class Names(Checks):
    def test_a_name_that_one_before_has(self):
        self.faults(3, "glass a:1,1,1;glass !a:", "glass a:1,1,1;glass b:1,1,1;glass !a", "glass a:1,1,1;glass !a ?",
                    HEAD + "stop s after 1;mirror !s", HEAD + "stop s after 1;stop t after 1;surface !s after",
                    HEAD + "mirror s after 1 flat;stop !s.")

    def test_one_name_of_a_glass_and_an_element(self):
        self.fine(HEAD + "stop a after 1;", HEAD + "surface a after 1 into a flat;")

    def test_names_that_are_not_the_same(self):
        self.fine("glass a:1,1,1;glass A:1,1,1;glass aa:1,1,1;glass a_:1,1,1;start A;stop s after 1;stop S after 1;")

    def test_no_glass_of_that_name(self):
        self.faults(4, "glass a:1,1,1;start !b;", "glass a:1,1,1;start !A", "glass a:1,1,1;start !aa?",
                    HEAD + "surface s after 1 into !s flat;", HEAD + "stop t after 1;surface s after 1 into !t flat;",
                    HEAD + "surface s after 1 into !b.")

    def test_the_first_medium_may_be_any_glass(self):
        text = "glass a:1,1,1;glass b:1,1,1;glass c:1,1,1;start "
        for number, one in enumerate("abc"):
            self.assertEqual(told(read(text + one + ";"), count())[1], [0, 3, 0, number])


class TooMany(Checks):
    GLASSES = "".join(f"glass g{i}:1,1,1;" for i in range(16))
    THINGS = "".join(f"surface s{i} after 1 into a flat;" if i % 3 else f"stop s{i} after 1;" for i in range(16))

    def test_16(self):
        self.assertEqual(told(read(self.GLASSES + "start g15;"), count())[1], [0, 16, 0, 15])
        self.assertEqual(told(read(HEAD + self.THINGS)), [[0, 16]])

    def test_17(self):
        self.faults(5, self.GLASSES + "!glass g16:1,1,1;", self.GLASSES + " !glass", self.GLASSES + "!glass?",
                    self.GLASSES + "!glass g0", HEAD + self.THINGS + "!stop s16 after 1;",
                    HEAD + self.THINGS + " !mirror", HEAD + self.THINGS + "!surface s0", HEAD + self.THINGS + "!stop stop")

    def test_what_can_not_stand_in_the_17th_place(self):
        self.faults(2, self.GLASSES + "!glasses", self.GLASSES + "!stop", HEAD + self.THINGS + "!glass",
                    HEAD + self.THINGS + "!after")
        self.faults(1, self.GLASSES + "!?", HEAD + self.THINGS + "!.")


class BadNumbers(Checks):
    def test_0_behind_a_stroke(self):
        self.faults(6, "glass a:1/!0,1,1;", "glass a:1,1,1/!000;", "glass a:1/!0?", "glass a:0/!0", HEAD + "stop s after 0/!0;",
                    HEAD + "stop s after 1 clear 1/!0;", HEAD + "mirror m after 1 radius 0/!0;",
                    HEAD + "mirror m after 1 curve -1/!0;", HEAD + "mirror m after 1 flat conic 1/!0")

    def test_an_index_below_1(self):
        self.faults(6, "glass a:0!,1,1;", "glass a:1,0.999!,1;", "glass a:1,1,0 # x\n !;", "glass a:1/2!,1,1;",
                    "glass a:999999999999999998/999999999999999999 !,", "glass a:1,1,0.99999999999999999!;",
                    "glass a:0.0!,", "glass a:0/5!,?")

    def test_an_index_of_just_1(self):
        self.fine("glass a:1,1.000,3/3;start a;", "glass a:999999999999999999/999999999999999998,1,1;start a;",
                  "glass a:1,1.00000000000000001,01;start a;")

    def test_a_radius_of_0(self):
        for zero in ("0", "-0", "0.00", "- 0/7", "0 / 1"):
            self.faults(6, f"{HEAD}mirror m after 1 radius {zero}!;", f"{HEAD}mirror m after 1 radius {zero} !conic?",
                        f"{HEAD}surface s after 1 into a radius {zero}\n!clear 0;")

    def test_a_clear_of_0(self):
        for zero in ("0", "0.00", "0/7", "000"):
            self.faults(6, f"{HEAD}mirror m after 1 flat clear {zero}!;", f"{HEAD}stop s after 1 clear {zero}#\n!;?",
                        f"{HEAD}surface s after 1 into a radius 1 conic 1 clear {zero} !;")

    def test_0_where_it_may_stand(self):
        self.fine(HEAD + "surface s after 0 into a curve 0 conic 0;", HEAD + "mirror m after 0/3 curve -0.0 conic -0;",
                  HEAD + "stop s after 0.0;")

    def test_of_two_at_one_place_that_of_the_lesser_number(self):
        self.faults(1, "glass a:0!?", "glass a:1/2 !.", HEAD + "stop s after 1 clear 0!?",
                    HEAD + "mirror m after 1 radius 0 !1x", HEAD + "mirror m after 1 radius 0 !" + "x" * 33)
        self.faults(2, "glass a:0!;", "glass a:1,1,0!,", "glass a:0.5!/2,", "glass a:1/2!/2,", "glass a:0!", "glass a:0 # x!",
                    HEAD + "stop s after 1 clear 0!", HEAD + "stop s after 1 clear 0 !conic", HEAD + "stop s after 1 clear 0 !0",
                    HEAD + "mirror m after 1 radius 0!", HEAD + "mirror m after 1 radius 0 !curve",
                    HEAD + "mirror m after 1 radius 0.0!/1;", HEAD + "mirror m after 1 radius 0 !m",
                    HEAD + "mirror m after 1 flat clear 0 !clear")

    def test_a_number_goes_on_behind_a_stroke(self):
        self.faults(2, "glass a:0/!,", "glass a:0/!x", HEAD + "mirror m after 1 radius 0/!;", HEAD + "stop s after 1 clear 0/!")
        self.fine("glass a:6/3,1,1;start a;")


class FirstByPlace(Checks):
    def test_of_two_the_first_is_told(self):
        self.faults(3, "glass a:1,1,1;glass !a:0,1/0,?", HEAD + "stop s after 1;stop !s after 1/0;?")
        self.faults(4, "glass a:1,1,1;start !b ; glass", HEAD + "surface s after 1 into !b radius 0;")
        self.faults(6, "glass a:0!,1,1;glass a:1,1,1;", "glass a:1/!0,0,?", HEAD + "stop s after 1 clear 0!;stop s after 1;")
        self.faults(2, "glass !:0,1,1;?", "glass a:1,1,1;!a?")
        self.faults(1, "glass a!?:0,1/0", "glass a:!1.,0,1;glass a")
        self.faults(5, TooMany.GLASSES + "!glass g0:0,1,1;")

    def test_what_stands_behind_is_not_asked(self):
        for rest in ("", "?" * 100, "glass " * 20, "#", "\xff" * 70, ";" * 65):
            self.faults(4, "glass a:1,1,1;start !b " + " " * 64 + rest)
            self.faults(1, "glass !" + "a" * 65 + rest)
            self.faults(1, "glass a:!" + "1" * 65 + rest)
            self.faults(6, "glass a:0!, " + " " * 64 + rest)
            self.faults(2, "glass a!, " + " " * 64 + rest)


class Blanks(Checks):
    def test_blanks_between_all_tokens_or_none(self):
        self.fine("glass a:1,1,1;start a;mirror m after 1 curve-1/2 conic-1 clear 1;",
                  "\r\tglass\ra\n:\t1 , 1\n,\r1 ; start\ta ; mirror m after 1 curve - 1 / 2 conic - 1 clear 1 ; ")

    def test_comments(self):
        self.fine("#\xff?\n" + HEAD, HEAD + "# end", HEAD + "# end\n", HEAD + "#", HEAD + "#\n", "glass#a\nb#:\n:1,1,1;start b;",
                  HEAD + "# one # two\r still\n", "##\n#\n" + HEAD)
        self.faults(2, "#\r" + HEAD + "!", HEAD + "#\n!;", "glass a # :1,1,1;start a;!", "glass a # :1,1,1;start a;\n!1")

    def test_a_text_of_almost_16000_bytes(self):
        for blank in (" ", "\n", "#", "#\n"):
            many = (15990 - 2 * len(HEAD)) // len(blank)
            self.fine(blank * many + "\n" + HEAD + "stop s after 1;")
            self.fine(HEAD + blank * many)
            text = HEAD + blank * many + "\n?"
            self.fault(text, 1, len(text) - 1)
            self.fault(HEAD + blank * many + "\nstop", 2, len(text) + 3)
        self.fault("glass " * 2600, 2, 6)
        self.fault("-" * 15990, 2, 0)


if __name__ == "__main__":
    unittest.main()
