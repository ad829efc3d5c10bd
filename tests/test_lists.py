"""Lists that share, deep ones and long ones: said, and held against one another."""

import unittest

from line import ask, begin, fault_of_run, go, output, said, stack, text_of, top, var

# Each cell's first and rest are one and the same, so what's said of it doubles at every turn.
DOUBLED = "{} 0 while dup {} < do swap dup pair swap 1 + end drop "
BY_RESTS = "{} 0 while dup {} < do swap 7 swap pair swap 1 + end drop "
BY_FIRSTS = "7 0 while dup {} < do swap {} pair swap 1 + end drop "

# h gives 1 a hundred times, q makes a hundred cells by rests, x by firsts.
ONES = ": t 1 1 1 1 1 1 1 1 1 1 ; : h t t t t t t t t t t ; "
PAIRS = ": p pair pair pair pair pair pair pair pair pair pair ; : q p p p p p p p p p p ; "
WRAPS = ": w " + "() pair " * 10 + "; : x w w w w w w w w w w ; "


def doubled(times):
    """How a list of DOUBLED is said, the empty list being doubled."""
    value = "()"
    for turn in range(times):
        value = "(())" if value == "()" else "(" + value + " " + value[1:]
    return value


class LongAndDeep(unittest.TestCase):
    def test_by_rests(self):
        for many in (1, 2, 200):
            value = "(" + " ".join(["7"] * many) + ")"
            self.assertEqual(stack(BY_RESTS.format("()", many), 1), [value])
            self.assertEqual(output(BY_RESTS.format("()", many) + "say"), value)
            self.assertEqual(stack(BY_RESTS.format("-9", many), 1), ["(" + "7 " * many + ". -9)"])

    def test_by_firsts(self):
        for many in (1, 2, 200):
            value = "(" * many + "7" + ")" * many
            self.assertEqual(stack(BY_FIRSTS.format(many, "()"), 1), [value])
            self.assertEqual(output(BY_FIRSTS.format(many, "()") + "say"), value)
            self.assertEqual(stack(BY_FIRSTS.format(many, "8"), 1), ["(" * many + "7" + " . 8)" * many])

    def test_a_thousand_cells_by_rests(self):
        value = "(" + " ".join(["1"] * 1000) + ")"
        text = ONES + PAIRS + "h " * 10 + "() " + "q " * 10
        self.assertEqual(stack(text, 1), [value])
        self.assertEqual(output(text + "say"), value)

    def test_a_thousand_cells_by_firsts(self):
        value = "(" * 1000 + "5" + ")" * 1000
        text = WRAPS + "5 " + "x " * 10
        self.assertEqual(stack(text, 1), [value])
        self.assertEqual(output(text + "say"), value)

    def test_hundreds_of_cells_held_against_one_another(self):
        by_rests = "h h h h h {} q q q q q "
        by_firsts = "{} x x x x x "
        for start, build in ((ONES + PAIRS, by_rests), (WRAPS, by_firsts)):
            first = build.format("()") + "!a "
            asked = "!b @a @b = @a @b same @a @a = @a @a same"
            self.assertEqual(stack(start + first + build.format("()") + asked, 4), ["1", "0", "1", "1"])
            self.assertEqual(stack(start + first + build.format("0") + asked, 4), ["0", "0", "1", "1"])


class Shared(unittest.TestCase):
    def test_said_in_full_each_time(self):
        for times in range(9):
            self.assertEqual(stack(DOUBLED.format("()", times), 1), [doubled(times)])
            self.assertEqual(output(DOUBLED.format("()", times) + "say"), doubled(times))

    def test_far_too_large_to_be_walked(self):
        text = "() " + "dup pair " * 450
        taken = ask(begin(text), go(), top(0), top(0))
        self.assertEqual(taken[1:], [[0, 901, 1], [-6], [-6]])
        self.assertEqual(fault_of_run(text + "say"), (12, len(text)))

    def test_far_too_large_to_be_walked_and_held_against_one_another(self):
        first = DOUBLED.format("()", 120) + "!a "
        text = first + DOUBLED.format("()", 120) + "!b @a @b = @a @b same @a @a same"
        self.assertEqual(stack(text, 3), ["1", "0", "1"])
        text = first + DOUBLED.format("()", 121) + "!b @a @b = @a @b rest = @a @b first same"
        self.assertEqual(stack(text, 3), ["0", "1", "0"])
        text = first + DOUBLED.format("0", 120) + "!b @a @b ="
        self.assertEqual(stack(text, 1), ["0"])

    def test_shared_and_parted_ones(self):
        shared = "1 () pair dup pair "
        parted = "1 () pair 1 () pair pair "
        self.assertEqual(stack(shared + parted, 2), ["((1) 1)", "((1) 1)"])
        self.assertEqual(stack(shared + parted + "=", 1), ["1"])
        self.assertEqual(stack(shared + parted + "same", 1), ["0"])
        self.assertEqual(stack(shared + "dup first swap rest same", 1), ["1"])
        self.assertEqual(stack(parted + "dup first swap rest same", 1), ["0"])

    def test_cells_stay_as_they_were_made(self):
        text = "1 2 pair !a @a 5 pair !b 3 4 pair !a @b say @a say @b first say"
        self.assertEqual(output(text), "((1 . 2) . 5)(3 . 4)(1 . 2)")


class TooLongToSay(unittest.TestCase):
    BIG = "1234567890123456789"

    def check_edge(self, text, value):
        """A value that is said in 4,096 bytes is said, one of 4,097 is not."""
        self.assertIn(len(value), (4096, 4097))
        taken = ask(begin(text), go(), top(0), go(0), said())
        self.assertEqual(taken[1][2], 1)
        self.assertEqual(ask(begin(text + "!q"), go(), var("q"))[2], taken[2])
        if len(value) == 4096:
            self.assertEqual(text_of(taken[2]), value)
            self.assertEqual(output(text + "say"), value)
        else:
            self.assertEqual(taken[2], [-6])
            self.assertEqual(fault_of_run(text + "say"), (12, len(text)))
        self.assertEqual(taken[3:], [taken[1], [0, 0]])

    def test_a_long_list(self):
        build = "{} {} pair " + self.BIG + " !a 0 while dup 204 < do swap @a swap pair swap 1 + end drop "
        for last, tail, end in (("12345678901234", "()", ")"), ("1234567890", "5", " . 5)")):
            for number in (last, "-" + last):
                text = build.format(number, tail)
                self.check_edge(text, "(" + (self.BIG + " ") * 204 + number + end)

    def test_a_list_that_ends_in_many_signs(self):
        build = "{} () pair " + self.BIG + " !a 0 while dup 203 < do swap @a swap pair swap 1 + end drop "
        build += "() pair " * 10
        for last in ("12345678901234", "-12345678901234"):
            value = "(" * 11 + (self.BIG + " ") * 203 + last + ")" * 11
            self.check_edge(build.format(last), value)

    def test_only_the_one_that_is_asked_for(self):
        taken = ask(begin("5 () " + "dup pair " * 20 + "7 "), go(), top(1), top(0), top(2), top(1), go(), said())
        self.assertEqual(taken[2], [-6])
        self.assertEqual(text_of(taken[3]), "7")
        self.assertEqual(text_of(taken[4]), "5")
        self.assertEqual(taken[5:], [[-6], taken[1], [0, 0]])


if __name__ == "__main__":
    unittest.main()
