"""Texts: their words, their faults and the places of these."""

import unittest

from line import ask, begin, fault_of_text, go, stack

PLAIN = "() dup drop swap over rot depth + - * / mod < = same pair first rest kind say put cr".split()
SHAPING = ": ; if else end while do leave".split()


def words(text):
    return ask(begin(text))[0]


class Words(unittest.TestCase):
    def test_no_words(self):
        for text in ("", " ", "\n", " \n \n\n  "):
            self.assertEqual(words(text), [0, 0])

    def test_how_many_words(self):
        self.assertEqual(words("1"), [0, 1])
        self.assertEqual(words("  1\n\n 2 \n"), [0, 2])
        self.assertEqual(words(": a ; a"), [0, 4])
        self.assertEqual(words(" ".join(PLAIN)), [0, len(PLAIN)])
        self.assertEqual(words("1 if 2 else 3 end while 4 do end : a leave ; @a !z a"), [0, 17])

    def test_longest_text(self):
        self.assertEqual(words("1 " * 2048), [0, 2048])
        self.assertEqual(words(" " * 4096), [0, 0])
        self.assertEqual(words("1 " * 2048 + " "), [-1])
        self.assertEqual(words("1" + " " * 4096), [-1])
        self.assertEqual(words("x" * 4096), [-3, 1, 0])
        self.assertEqual(words("x" * 4097), [-1])
        self.assertEqual(words("?" * 30900), [-1])

    def test_only_two_bytes_part_words(self):
        for byte in range(256):
            text = b"1" + bytes([byte]) + b"2"
            if byte in (32, 10):
                self.assertIsNone(fault_of_text(text))
            elif byte in range(48, 58):
                self.assertEqual(words(text), [0, 1])
            else:
                self.assertEqual(fault_of_text(text), (1, 0))

    def test_one_byte_words(self):
        names = "abcdefghijklmnopqrstuvwxyz"
        for byte in range(256):
            sign = bytes([byte]).decode("latin-1")
            found = fault_of_text("1 " + sign)
            if sign in " \n0123456789+-*/<=":
                self.assertIsNone(found, byte)
            elif sign in names:
                self.assertEqual(found, (3, 2), byte)
            elif sign == ":":
                self.assertEqual(found, (2, 3), byte)
            elif sign == ";":
                self.assertEqual(found, (2, 2), byte)
            else:
                self.assertEqual(found, (1, 2), byte)

    def test_names(self):
        for name in ("a", "z", "abcdefghijklmnop", "number", "name", "variable", "leaves", "iff", "saysay"):
            self.assertIsNone(fault_of_text(": " + name + " ; " + name), name)
        for wrong in ("abcdefghijklmnopq", "A", "aB", "a1", "a_b", "a-b", "\xe9", "a\xe9", "a\t", "a\r", "\0"):
            self.assertEqual(fault_of_text(": " + wrong + " ;"), (1, 2), wrong)
            self.assertEqual(fault_of_text(wrong), (1, 0), wrong)

    def test_words_of_the_table_are_no_names(self):
        for word in PLAIN + SHAPING + ["5", "-5", "@a", "!a"]:
            self.assertEqual(fault_of_text("  : " + word + " ;"), (2, 4), word)

    def test_variables(self):
        for letter in "abcdefghijklmnopqrstuvwxyz":
            self.assertIsNone(fault_of_text("1 !" + letter + " @" + letter))
        for wrong in ("@", "!", "@ab", "!ab", "@A", "!0", "a@", "@@", "!!", "@!", "@a!"):
            self.assertEqual(fault_of_text("1 " + wrong), (1, 2), wrong)

    def test_no_words_that_look_like_some(self):
        for wrong in ("--1", "+1", "1-", "1+", "(", ")", "( )", ")(", "()()", "<=", "==", "::", ":a", "a;", "DUP",
                      "Dup", "1.0", "0x1", "1e1", "1_0", "\xb2", "?", "a number", ".", ",", ">"):
            self.assertEqual(fault_of_text(wrong)[0], 3 if wrong == "a number" else 1, wrong)


class Numbers(unittest.TestCase):
    def test_spellings(self):
        for word, number in (("007", "7"), ("-0", "0"), ("0", "0"), ("-007", "-7"), ("00000000000000000012", "12"),
                             ("-00000000000000000012", "-12"), ("9223372036854775807", "9223372036854775807"),
                             ("-9223372036854775808", "-9223372036854775808"),
                             ("09223372036854775807", "9223372036854775807"), ("-0000", "0")):
            self.assertEqual(stack(word, 1), [number])

    def test_twenty_digits_and_more(self):
        for word, fault in (("9" * 20, 5), ("-" + "9" * 20, 5), ("9" * 21, 1), ("-" + "9" * 21, 1),
                            ("0" * 20, None), ("-" + "0" * 20, None), ("0" * 21, 1), ("-" + "0" * 21, 1)):
            self.assertEqual(fault_of_text("1 " + word), None if fault is None else (fault, 2), word)

    def test_beyond_what_a_value_is(self):
        for word in ("9223372036854775808", "-9223372036854775809", "10000000000000000000"):
            self.assertEqual(fault_of_text(word), (5, 0))
            self.assertEqual(fault_of_text(" 1\n" + word + " 2"), (5, 3))
            self.assertEqual(fault_of_text(": a " + word + " ;"), (5, 4))


class Shape(unittest.TestCase):
    def test_right_ones(self):
        for text in (": a ;", ": a ; : b ;", "1 if end", "1 if else end", "while 0 do end",
                     "1 if 1 if end else 1 if else end end", "while while 1 do end 0 do while 0 do end end",
                     "while 1 if 1 else 0 end do end", "1 if while 0 do 1 if end end else while 0 do end end",
                     ": a leave ;", ": a 1 if leave else leave end leave ;",
                     ": a while leave do leave end ;", ": a b ; : b a ;", "a : a ;"):
            self.assertIsNone(fault_of_text(text), text)

    def test_fault_two(self):
        for text, place in (
                ("else", 0), ("do", 0), ("end", 0), (";", 0), ("leave", 0),
                ("1 else", 2), ("1 if else else end", 10), ("while end", 6), ("while do do end", 9),
                ("if do end", 3), ("while else", 6), ("while do else", 9), ("if end end", 7),
                ("while if do", 9), ("while if end end", 13), ("if while else", 9), ("if while end", 9),
                ("if : a", 3), ("if else : a", 8), ("while : a", 6), ("while do : a", 9), (": a : b", 4),
                (": a if : b", 7), (": a if ;", 7), (": a if else ;", 12), (": a while ;", 10),
                (": a while do ;", 13), (": a ; ;", 6), (": a end ;", 4), (": a else ;", 4), (": a do ;", 4),
                ("if : a ; end", 3), (": a ; leave", 6), ("if leave end", 3), ("while leave do end", 6),
                (": :", 2), (": ;", 2), (": 5", 2), (": if", 2), (": leave", 2), (": @a", 2), (": ()", 2),
                ("if ;", 3), (": a leave ; leave", 12)):
            self.assertEqual(fault_of_text(text), (2, place), text)

    def test_text_that_ends_too_early(self):
        for text in (":", ": ", " :\n\n", ": a", ": a ", ": a 1 if end", "if", "if\n", "if else", "if else 1 ",
                     "while", "while do", "while 1 do 2", "if if end", ": a if", ": a while do", ": a leave",
                     "if while do end  ", "1 : b"):
            self.assertEqual(fault_of_text(text), (2, len(text)), text)

    def test_nested_deep(self):
        self.assertIsNone(fault_of_text("if " * 585 + "end " * 585))
        self.assertEqual(fault_of_text("if " * 1365), (2, 4095))
        self.assertEqual(fault_of_text("if " * 500 + "end " * 501), (2, 3500))
        self.assertIsNone(fault_of_text("while " * 300 + "do end " * 300))
        self.assertIsNone(fault_of_text(": a " + "if " * 300 + "else end " * 300 + ";"))
        self.assertEqual(fault_of_text(": a " + "if " * 300 + "else end " * 299 + ";"), (2, 4 + 900 + 9 * 299))


class Names(unittest.TestCase):
    def test_unknown(self):
        self.assertEqual(fault_of_text("a"), (3, 0))
        self.assertEqual(fault_of_text(": a ; b"), (3, 6))
        self.assertEqual(fault_of_text(": a b ;"), (3, 4))
        self.assertEqual(fault_of_text("  abc : ab ;"), (3, 2))
        self.assertEqual(fault_of_text("a :"), (3, 0))
        self.assertEqual(fault_of_text("a 1 :"), (3, 0))

    def test_known_from_anywhere(self):
        for text in ("a : a ;", ": a a ;", ": a b ; : b ;", "1 if a end : a ;"):
            self.assertIsNone(fault_of_text(text), text)

    def test_known_from_a_colon_that_is_itself_wrong(self):
        self.assertEqual(fault_of_text("a 1 if : a ; end"), (2, 7))
        self.assertEqual(fault_of_text("b : a : b ;"), (2, 6))
        self.assertEqual(fault_of_text("a ; : a ;"), (2, 2))
        self.assertEqual(fault_of_text("a : : a ;"), (2, 4))
        self.assertEqual(fault_of_text("a : ? : a"), (1, 4))

    def test_once_more(self):
        self.assertEqual(fault_of_text(": a ; : a ;"), (4, 8))
        self.assertEqual(fault_of_text(": a ; : b ; : a ; : b ;"), (4, 14))
        self.assertEqual(fault_of_text(": a ;\n\n:\n a"), (4, 10))
        self.assertEqual(fault_of_text(": a ; : aa ; : aaa ;"), None)


class TheFault(unittest.TestCase):
    def test_the_first_by_its_place(self):
        for text, found in (
                ("? a", (1, 0)), ("a ?", (3, 0)), ("end ?", (2, 0)), ("? end", (1, 0)),
                ("99999999999999999999 end", (5, 0)), ("end 99999999999999999999", (2, 0)),
                (": a ; : a ; end", (4, 8)), ("end : a ; : a ;", (2, 0)), ("if ?", (1, 3)), ("if a", (3, 3)),
                ("if 9223372036854775808", (5, 3)), (": a ; : a", (4, 8)), ("b : a ; : a ;", (3, 0)),
                (": a ; : a b ;", (4, 8)), ("if end end if", (2, 7)), (": a 9223372036854775808", (5, 4))):
            self.assertEqual(fault_of_text(text), found, text)

    def test_the_lower_number_at_one_place(self):
        self.assertEqual(fault_of_text(": ?"), (1, 2))
        self.assertEqual(fault_of_text(": abcdefghijklmnopq"), (1, 2))
        self.assertEqual(fault_of_text(": 9223372036854775808"), (2, 2))
        self.assertEqual(fault_of_text(": " + "9" * 21), (1, 2))

    def test_bytes_that_are_no_words(self):
        for byte in (0, 9, 11, 13, 127, 128, 160, 255):
            self.assertEqual(fault_of_text(b"1 2 " + bytes([byte])), (1, 4))
            self.assertEqual(fault_of_text(b"1 2" + bytes([byte]) + b" 3"), (1, 2))
            self.assertEqual(fault_of_text(b"dup" + bytes([byte])), (1, 0))

    def test_a_text_that_is_not_right_is_no_program(self):
        self.assertEqual(ask(begin("?"), go()), [[-3, 1, 0], [-2]])


if __name__ == "__main__":
    unittest.main()
