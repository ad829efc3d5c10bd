"""Words: what each takes and does, and the faults 6 to 12."""

import unittest

from line import ask, begin, fault_of_run, go, how_it_ends, output, said, stack, text_of, top

LOWEST = "-9223372036854775808"
HIGHEST = "9223372036854775807"
CELL = "1 2 pair"

TAKES = {
    "dup": 1, "drop": 1, "swap": 2, "over": 2, "rot": 3, "+": 2, "-": 2, "*": 2, "/": 2, "mod": 2, "<": 2, "=": 2,
    "same": 2, "pair": 2, "first": 1, "rest": 1, "kind": 1, "!a": 1, "say": 1, "put": 1, "if end": 1,
    "while do end": 1,
}
TAKES_NUMBERS = ("+", "-", "*", "/", "mod", "<")


def place_of_fault(before, word):
    """Where the word that may be at fault stands: of a while it's the do."""
    return len(before) + (7 if word == "while do end" else 1)


class Stack(unittest.TestCase):
    def test_moving(self):
        for text, values in (("1 dup", "1 1"), ("1 2 drop", "1"), ("1 2 swap", "2 1"), ("1 2 over", "1 2 1"),
                             ("1 2 3 rot", "2 3 1"), ("1 2 3 4 rot", "1 3 4 2"), ("9 1 2 swap", "9 2 1"),
                             ("depth", "0"), ("7 8 depth", "7 8 2"), ("depth depth depth", "0 1 2"),
                             ("() 1 swap", "1 ()"), ("1 drop depth", "0")):
            self.assertEqual(stack(text, len(values.split())), values.split(), text)

    def test_lists_move_too(self):
        self.assertEqual(stack(CELL + " 3 () rot", 3), ["3", "()", "(1 . 2)"])
        self.assertEqual(stack(CELL + " dup", 2), ["(1 . 2)", "(1 . 2)"])

    def test_too_few(self):
        for word, many in TAKES.items():
            for fewer in range(many):
                before = " " + "1 " * fewer
                self.assertEqual(fault_of_run(before + " " + word), (6, place_of_fault(before, word)), word)
            # A while would come to its do once more.
            if word != "while do end":
                self.assertNotEqual(how_it_ends("1 " * many + word)[2:3], (6,), word)

    def test_too_few_comes_before_wrong_kind(self):
        for word in TAKES_NUMBERS:
            self.assertEqual(fault_of_run("() " + word), (6, 3), word)
            self.assertEqual(fault_of_run(word), (6, 0), word)


class Numbers(unittest.TestCase):
    def test_reckoning(self):
        for text, number in (
                ("2 3 +", 5), ("2 3 -", -1), ("2 3 *", 6), ("-2 3 *", -6), ("-2 -3 *", 6), ("0 -5 +", -5),
                ("7 2 /", 3), ("-7 2 /", -4), ("7 -2 /", -4), ("-7 -2 /", 3), ("6 3 /", 2), ("-6 3 /", -2),
                ("6 -3 /", -2), ("0 -3 /", 0), ("1 -3 /", -1), ("-1 3 /", -1),
                ("7 2 mod", 1), ("-7 2 mod", 1), ("7 -2 mod", -1), ("-7 -2 mod", -1), ("6 -3 mod", 0),
                ("-1 3 mod", 2), ("1 -3 mod", -2), ("0 5 mod", 0), ("5 7 mod", 5),
                ("1 2 <", 1), ("2 1 <", 0), ("2 2 <", 0), ("-2 1 <", 1), ("-1 -2 <", 0), ("0 -0 <", 0)):
            self.assertEqual(stack("99 " + text, 2), ["99", str(number)], text)

    def test_the_outermost_values(self):
        low, high = int(LOWEST), int(HIGHEST)
        for text, number in (
                (f"{HIGHEST} 0 +", high), (f"{high - 1} 1 +", high), (f"{low + 1} 1 -", low),
                (f"{HIGHEST} {LOWEST} +", -1), (f"-1 {HIGHEST} -", low), ("-1 " + LOWEST + " -", high),
                (f"{HIGHEST} -1 *", -high), (f"{LOWEST} 1 *", low), ("4294967296 -2147483648 *", low),
                (f"{LOWEST} 1 /", low), (f"{LOWEST} 2 /", low // 2), (f"{LOWEST} -1 mod", 0),
                (f"{LOWEST} {HIGHEST} mod", low % high), (f"{HIGHEST} {LOWEST} mod", high + low),
                (f"{HIGHEST} {LOWEST} /", -1), (f"{LOWEST} {HIGHEST} /", -2), (f"{HIGHEST} -1 /", -high),
                (f"{LOWEST} {HIGHEST} <", 1)):
            self.assertEqual(stack(text, 1), [str(number)], text)

    def test_what_is_no_value(self):
        for text in (f"{HIGHEST} 1 +", f"{LOWEST} -1 +", f"{LOWEST} 1 -", f"{HIGHEST} -1 -", f"0 {LOWEST} -",
                     f"{LOWEST} -1 *", "4294967296 2147483648 *", f"{HIGHEST} {HIGHEST} *", f"{LOWEST} {LOWEST} *",
                     f"{LOWEST} {LOWEST} +", f"{LOWEST} -1 /"):
            self.assertEqual(fault_of_run(text), (8, text.rindex(" ") + 1), text)

    def test_by_zero(self):
        for word in ("/", "mod"):
            self.assertEqual(fault_of_run("5 0 " + word), (9, 4))
            self.assertEqual(fault_of_run("0 0 " + word), (9, 4))
            self.assertEqual(fault_of_run(LOWEST + " -0 " + word), (9, len(LOWEST) + 4))

    def test_numbers_alone(self):
        for word in TAKES_NUMBERS:
            for other in ("()", CELL):
                for before in (f"1 {other}", f"{other} 1", f"{other} {other}", f"{other} 0", f"0 {other}"):
                    self.assertEqual(fault_of_run(before + " " + word), (7, len(before) + 1), before + word)

    def test_wrong_kind_comes_before_by_zero_and_no_value(self):
        self.assertEqual(fault_of_run("() 0 /"), (7, 5))
        self.assertEqual(fault_of_run("() 0 mod"), (7, 5))
        self.assertEqual(fault_of_run("() " + HIGHEST + " +")[0], 7)


class Lists(unittest.TestCase):
    def test_pairs(self):
        for text, value in (("1 2 pair", "(1 . 2)"), ("1 () pair", "(1)"), ("() () pair", "(())"),
                            ("() 1 pair", "(() . 1)"), ("1 2 () pair pair", "(1 2)"), ("1 2 3 pair pair", "(1 2 . 3)"),
                            ("1 2 pair 3 pair", "((1 . 2) . 3)"), ("1 () pair 2 () pair pair", "((1) 2)"),
                            ("-1 -2 pair", "(-1 . -2)"), ("()", "()"), ("() () () pair pair", "(() ())")):
            self.assertEqual(stack(text, 1), [value], text)
            self.assertEqual(output(text + " say"), value, text)

    def test_first_and_rest(self):
        self.assertEqual(stack("1 2 pair first", 1), ["1"])
        self.assertEqual(stack("1 2 pair rest", 1), ["2"])
        self.assertEqual(stack("1 2 () pair pair dup first swap rest", 2), ["1", "(2)"])
        for word in ("first", "rest"):
            for other in ("1", "0", "()"):
                self.assertEqual(fault_of_run(other + " " + word), (7, len(other) + 1))

    def test_kind(self):
        for value, kind in (("0", 0), ("-5", 0), ("()", 1), (CELL, 2), ("() () pair", 2)):
            self.assertEqual(stack(value + " kind", 1), [str(kind)])

    def test_alike_and_same(self):
        for one, other, alike, same in (
                ("1", "1", 1, 1), ("1", "2", 0, 0), ("0", "-0", 1, 1), ("()", "()", 1, 1), ("0", "()", 0, 0),
                ("()", "0", 0, 0), (CELL, CELL, 1, 0), (CELL, "1 3 pair", 0, 0), (CELL, "3 2 pair", 0, 0),
                (CELL, "1", 0, 0), ("()", CELL, 0, 0), ("() () pair", "()", 0, 0), ("() () pair", "() () pair", 1, 0),
                ("1 0 pair", "1 () pair", 0, 0), ("0 0 pair", "() 0 pair", 0, 0), ("1 2 pair", "2 1 pair", 0, 0),
                (f"{CELL} 3 pair", f"{CELL} 3 pair", 1, 0), (f"3 {CELL} pair", f"{CELL} 3 pair", 0, 0),
                (f"{CELL} dup pair", f"{CELL} {CELL} pair", 1, 0)):
            self.assertEqual(stack(f"{one} {other} =", 1), [str(alike)], (one, other))
            self.assertEqual(stack(f"{one} {other} same", 1), [str(same)], (one, other))

    def test_one_cell(self):
        self.assertEqual(stack(CELL + " dup =", 1), ["1"])
        self.assertEqual(stack(CELL + " dup same", 1), ["1"])
        self.assertEqual(stack(CELL + " dup 5 pair first same", 1), ["1"])
        self.assertEqual(stack(CELL + " dup pair dup first swap rest same", 1), ["1"])
        self.assertEqual(stack(CELL + " !a @a @a same", 1), ["1"])


class Variables(unittest.TestCase):
    def test_zero_at_first_and_set(self):
        for letter in "abcdefghijklmnopqrstuvwxyz":
            self.assertEqual(stack(f"@{letter}", 1), ["0"])
            self.assertEqual(stack(f"5 !{letter} @{letter} depth", 2), ["5", "1"])

    def test_each_its_own(self):
        letters = "abcdefghijklmnopqrstuvwxyz"
        text = " ".join(f"{10 + k} !{letter}" for k, letter in enumerate(letters))
        text += " " + " ".join("@" + letter for letter in letters)
        self.assertEqual(stack(text, 26), [str(10 + k) for k in range(26)])

    def test_any_value(self):
        self.assertEqual(stack(f"() !a {CELL} !b @a @b @b", 3), ["()", "(1 . 2)", "(1 . 2)"])
        self.assertEqual(stack("1 !a 2 !a @a", 1), ["2"])


class Saying(unittest.TestCase):
    def test_what_is_said(self):
        self.assertEqual(output("1 say 2 say cr -3 say 65 put"), "12\n-3A")
        self.assertEqual(output(f"{LOWEST} say {HIGHEST} say"), LOWEST + HIGHEST)
        self.assertEqual(output("0 put 255 put 10 put 32 put"), "\0\xff\n ")
        self.assertEqual(output(""), "")

    def test_what_is_said_is_taken(self):
        self.assertEqual(stack("1 2 say 3 put cr depth", 2), ["1", "1"])

    def test_put(self):
        for wrong in ("-1", "256", LOWEST, HIGHEST):
            self.assertEqual(fault_of_run(wrong + " put"), (8, len(wrong) + 1))
        for wrong in ("()", CELL):
            self.assertEqual(fault_of_run(wrong + " put"), (7, len(wrong) + 1))

    def test_as_much_as_can_be_said(self):
        loop = "0 while dup {} < do {} 1 + end drop "
        fill = loop.format(273, "123456789012345 say")
        self.assertEqual(len(output(fill + "1 put")), 273 * 15 + 1)
        self.assertEqual(len(output(fill + "1 say")), 4096)
        self.assertEqual(len(output(fill + "cr")), 4096)
        for last, before in (("put", "65 cr 1 "), ("say", "cr 1 "), ("cr", "cr "), ("say", "() "), ("say", "-1 "),
                             ("say", "() () pair "), ("say", "12 ")):
            text = fill + before + last
            self.assertEqual(fault_of_run(text), (12, len(fill + before)), before + last)
        taken = ask(begin(fill + "5 () cr say"), go(), said(), said(4096), top(0), top(1))
        self.assertEqual(len(text_of(taken[2])), 4096)
        self.assertEqual([text_of(answer) for answer in taken[3:]], ["", "()", "5"])

    def test_other_faults_come_before_too_much(self):
        fill = "0 while dup 273 < do 123456789012345 say 1 + end drop cr "
        for last, fault in (("say", 6), ("put", 6), ("() put", 7), ("256 put", 8), ("-1 put", 8), ("255 put", 12)):
            self.assertEqual(fault_of_run(fill + last), (fault, len(fill) + len(last) - 3), last)


class AtAFault(unittest.TestCase):
    def test_nothing_of_the_word_is_done(self):
        for before, word, values in (
                ("1 2 ", "rot", ["1", "2"]), ("5 () ", "+", ["5", "()"]), ("5 0 ", "/", ["5", "0"]),
                ("5 0 ", "mod", ["5", "0"]), (f"7 {HIGHEST} 1 ", "+", ["7", HIGHEST, "1"]),
                (f"{LOWEST} -1 ", "/", [LOWEST, "-1"]), ("3 () ", "first", ["3", "()"]),
                ("3 256 ", "put", ["3", "256"]),
                ("3 () ", "if end", ["3", "()"]), ("", "swap", [])):
            text = before + word
            taken = ask(begin(text), go(), *[top(k) for k in range(len(values) + 1)], said())
            count = len(before.split())
            self.assertEqual(taken[1][1:3], [count, 2], text)
            self.assertEqual(taken[1][4], len(before), text)
            self.assertEqual([text_of(answer) for answer in reversed(taken[2:-2])], values, text)
            self.assertEqual(taken[-2], [-1])
            self.assertEqual(taken[-1], [0, 0])

    def test_it_stays_at_the_fault(self):
        taken = ask(begin("1 +"), go(), go(), go(1), go(0))
        self.assertEqual(taken[1], [0, 1, 2, 6, 2])
        self.assertEqual(taken[2:], [taken[1]] * 3)


class Deciding(unittest.TestCase):
    def test_if(self):
        for number, branch in (("1", "yes"), ("0", "no"), ("-1", "yes"), ("-0", "no"), (LOWEST, "yes")):
            said_of = {"yes": "1", "no": "2"}[branch]
            self.assertEqual(output(f"{number} if 1 say else 2 say end"), said_of)
            self.assertEqual(output(f"{number} if 1 say end"), said_of if branch == "yes" else "")

    def test_what_counts(self):
        for text, count in (("1 if end", 3), ("0 if end", 2), ("1 if else end", 3), ("0 if else end", 3),
                            ("1 if 5 else 6 7 end", 4), ("0 if 5 else 6 7 end", 5), ("0 if 5 6 7 end 8", 3),
                            ("while 0 do end", 3), ("while 0 do 1 2 3 end 4", 4), ("1 while dup do 1 - end", 10),
                            (": a 1 2 3 ;", 1), (": a ; a", 3), (": a 1 ; a a", 7), (": a leave 1 ; a", 3), ("", 0),
                            (": a ; : b ;", 2), ("a : a 1 ;", 4)):
            self.assertEqual(how_it_ends(text), (count, 1), text)

    def test_numbers_alone(self):
        for other in ("()", CELL):
            self.assertEqual(fault_of_run(other + " if end"), (7, len(other) + 1))
            self.assertEqual(fault_of_run(f"while {other} do end"), (7, len(other) + 7))

    def test_while(self):
        self.assertEqual(output("3 while dup do dup say 1 - end say"), "3210")
        self.assertEqual(output("while 0 do 1 say end 2 say"), "2")
        self.assertEqual(output("while 1 say @a 2 < do 2 say @a 1 + !a end"), "12121")

    def test_nested(self):
        rows = "0 while dup 3 < do 0 while over over < 0 = do dup say 1 + end drop cr 1 + end drop"
        self.assertEqual(output(rows), "0\n01\n012\n")
        signs = ": sign dup 0 < if drop -1 else if 1 else 0 end end ;"
        self.assertEqual(output(signs + " -5 sign say 0 sign say 7 sign say"), "-101")
        self.assertEqual(output("2 while dup do dup 1 = if 7 say else 8 say end 1 - end drop"), "87")
        self.assertEqual(output("while @a 0 = if 1 else 0 end do @a 1 + !a 5 say end"), "5")
        self.assertEqual(output("1 if 0 if 1 say else while @a 2 < do 3 say @a 1 + !a end end else 4 say end"), "33")


class Procedures(unittest.TestCase):
    def test_by_name_alone(self):
        self.assertEqual(output(": a 1 say ; 2 say"), "2")
        self.assertEqual(output(": a 1 say ; 2 say a 3 say a"), "21" + "31")
        self.assertEqual(output("a : a 1 say ; 2 say"), "12")
        self.assertEqual(output(": a b b ; : b 1 say ; a"), "11")
        self.assertEqual(output(": one 1 ; : two one one + ; two two * say"), "4")

    def test_leave(self):
        self.assertEqual(output(": a 1 say leave 2 say ; a 3 say"), "13")
        self.assertEqual(output(": a if 1 say leave end 2 say ; 1 a 0 a"), "12")
        self.assertEqual(output(": a while 1 do dup 2 < if leave end dup say 1 - end ; 4 a 9 say"), "4329")
        self.assertEqual(output(": a while leave 1 do 2 say end 3 say ; a 4 say"), "4")
        self.assertEqual(output(": in 1 if while 1 do 1 if leave else 5 say end end end 6 say ; : out in 7 say ; out"),
                         "7")
        self.assertEqual(output(": a 0 if 1 say else leave end 2 say ; a 3 say"), "3")

    def test_itself(self):
        text = ": fac dup 2 < if drop 1 leave end dup 1 - fac * ; 20 fac say"
        self.assertEqual(output(text), "2432902008176640000")
        text = ": sum dup kind 1 = if drop 0 else dup first swap rest sum + end ; "
        self.assertEqual(output(text + "1 2 3 4 () pair pair pair pair sum say"), "10")

    def test_a_hundred_under_way(self):
        text = ": a @a 1 + !a @a {} < if a end ; a @a say"
        self.assertEqual(output(text.format(99)), "99")
        self.assertEqual(output(text.format(100)), "100")
        self.assertEqual(fault_of_run(text.format(101)), (10, text.format(101).index("if a") + 3))
        self.assertEqual(output("0 while dup 150 < do b 1 + end drop : b ; 7 say"), "7")

    def test_a_hundred_under_way_by_leave_too(self):
        self.assertEqual(output("0 while dup 150 < do b 1 + end drop : b leave ; 7 say"), "7")

    def test_nothing_is_done_at_the_hundred_and_first(self):
        taken = ask(begin(": a depth a ; a"), go(), top(0), go())
        self.assertEqual(taken[1], [0, 201, 2, 10, 10])
        self.assertEqual(text_of(taken[2]), "99")
        self.assertEqual(taken[3], taken[1])


class TooManyWords(unittest.TestCase):
    # It carries out 2,992 words: two, 8 in each turn, 5 of the last one, and drop.
    FILL = ": a ; 0 while dup 373 < do 1 + end drop "

    def test_an_end_at_the_three_thousandth(self):
        self.assertEqual(how_it_ends(self.FILL), (2992, 1))
        self.assertEqual(how_it_ends(self.FILL + "1 2 3 4 5 6 7"), (2999, 1))
        self.assertEqual(how_it_ends(self.FILL + "1 2 3 4 5 6 7 8"), (3000, 1))

    def test_the_one_behind(self):
        before = self.FILL + "1 2 3 4 5 6 7 8 "
        for word in ("5", "+", "swap", "()", "a", "0 /", ": b ;", "cr", "while 1 do end", "1 if end", "@a"):
            taken = ask(begin(before + word), go(), top(0), go(0), go(1), top(0), go(3000))
            self.assertEqual(taken[1], [0, 3000, 0], word)
            self.assertEqual(taken[3], [0, 3000, 0], word)
            self.assertEqual(taken[4], [0, 3000, 2, 11, len(before)], word)
            self.assertEqual(taken[6], taken[4], word)
            self.assertEqual(text_of(taken[2]), "8")
            self.assertEqual(text_of(taken[5]), "8")

    def test_it_comes_before_all_others(self):
        for before, word in (("1 2 3 4 drop drop drop drop", "drop"), ("1 2 3 4 5 6 () 1", "+"),
                             ("1 2 3 4 5 6 1 0", "/"), ("1 2 3 4 5 6 7 256", "put"), ("1 2 3 4 5 6 7 ()", "first")):
            text = f"{self.FILL}{before} {word}"
            taken = ask(begin(text), go(), go(1))
            self.assertEqual(taken[1], [0, 3000, 0], text)
            self.assertEqual(taken[2], [0, 3000, 2, 11, len(text) - len(word)], text)

    def test_a_run_without_an_end_of_its_own(self):
        taken = ask(begin("while 1 do end"), go(), go(1))
        self.assertEqual(taken[1], [0, 3000, 0])
        self.assertEqual(taken[2], [0, 3000, 2, 11, 0])
        taken = ask(begin("while 1 do 5 drop end"), go(2999), go(2))
        self.assertEqual(taken[1], [0, 2999, 0])
        self.assertEqual(taken[2], [0, 3000, 2, 11, 0])


if __name__ == "__main__":
    unittest.main()
