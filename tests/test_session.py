"""The calls var, state, alike and again, and that all but begin, go and again change nothing."""

import unittest

from line import again, alike, ask, begin, go, said, state, text_of, top, var
from sharedlists.runs import answers

BIGGEST = 4294967295
TEXT = ": sq dup * ; 3 while dup do dup sq dup say cr () pair dup !z swap 1 - end drop"
# What's said of the list that it gives doubles at every turn: 2,559 bytes at ten, 5,119 at eleven.
DOUBLED = "{} 0 while dup {} < do swap dup pair swap 1 + end drop "
# t gives ten numbers, p makes ten cells by rests, w ten by firsts.
ROWS = ": t 1 1 1 1 1 1 1 1 1 1 ; : p pair pair pair pair pair pair pair pair pair pair ; "
WRAPS = ": w " + "() pair " * 10 + "; "


def alike_on_top(text):
    """What alike answers of the two on top when a text has run to its end, which has to be no fault."""
    taken = ask(begin(text), go(), alike(0, 1), alike(1, 0), alike(0, 0), alike(1, 1))
    assert taken[1][2] == 1, taken[1]
    assert taken[2] == taken[3] and taken[2][0] == 0, taken
    assert taken[4] == [0, 1, 1] and taken[5] == [0, 1, 1], taken
    return tuple(taken[2][1:])


class Refused(unittest.TestCase):
    CALLS = (var(0), var(25), var(26), var(BIGGEST), state(), alike(0, 0), alike(0, BIGGEST), again())

    def test_no_program_at_the_beginning(self):
        for call in self.CALLS:
            self.assertEqual(ask(call), [[-2]])
        self.assertEqual(ask(*self.CALLS), [[-2]] * len(self.CALLS))

    def test_no_program_behind_a_begin_that_was_refused(self):
        for refused in (begin("1 if"), begin("?"), begin(" " * 4097)):
            self.assertEqual(ask(refused, *self.CALLS)[1:], [[-2]] * len(self.CALLS))

    def test_what_has_no_program_changes_nothing(self):
        behind = (begin(TEXT), state(), go(9), state())
        self.assertEqual(ask(*self.CALLS, *behind)[len(self.CALLS):], ask(*behind))

    def test_var(self):
        taken = ask(begin("7 !z 5 !a"), go(), var(0), var(25), var(26), var(27), var(BIGGEST))
        self.assertEqual(taken[2:], [[0, 1, 53], [0, 1, 55], [-1], [-1], [-1]])

    def test_alike(self):
        taken = ask(begin("1 2"), alike(0, 0), go(1), alike(0, 0), alike(0, 1), alike(1, 0), alike(1, 1),
                    go(1), alike(0, 1), alike(1, 1), alike(2, 0), alike(0, 2), alike(BIGGEST, 0), alike(0, BIGGEST),
                    alike(2, BIGGEST))
        self.assertEqual(taken[1], [-1])
        self.assertEqual(taken[3:7], [[0, 1, 1], [-1], [-1], [-1]])
        self.assertEqual(taken[8:], [[0, 0, 0], [0, 1, 1]] + [[-1]] * 5)

    def test_numbers_below_zero(self):
        calls = (go(-1), said(-1), top(-1), var(-1), alike(-1, 0), alike(0, -1))
        self.assertEqual(ask(begin("1 dup say"), go(), *calls, state())[2:], [[-1]] * 6 + [[0, 1, 0, 0, 1, 2, 1, 0]])


class Var(unittest.TestCase):
    def test_each_variable(self):
        letters = "abcdefghijklmnopqrstuvwxyz"
        text = " ".join(f"{ord(letter)} !{letter}" for letter in letters)
        taken = ask(begin(text), *[var(x) for x in range(26)], go(), *[var(x) for x in range(26)])
        self.assertEqual([text_of(answer) for answer in taken[1:27]], ["0"] * 26)
        self.assertEqual([text_of(answer) for answer in taken[28:]], [str(ord(letter)) for letter in letters])

    def test_kinds(self):
        text = "-5 !a () !b 1 2 pair !c @c () pair !d 9 !e 0 !e @c !f"
        taken = ask(begin(text), go(), *[var(letter) for letter in "abcdefg"])
        self.assertEqual([text_of(answer) for answer in taken[2:]],
                         ["-5", "()", "(1 . 2)", "((1 . 2))", "0", "(1 . 2)", "0"])

    def test_in_the_middle_and_at_a_fault(self):
        taken = ask(begin("1 !a 2 !a first !a"), var("a"), go(2), var("a"), go(1), var("a"), go(), var("a"))
        self.assertEqual([text_of(answer) for answer in taken[1::2]], ["0", "1", "1", "2"])
        self.assertEqual(taken[-2], [0, 4, 2, 6, 10])

    def test_too_long_to_be_said(self):
        self.assertEqual(ask(begin(DOUBLED.format("()", 10) + "!a"), go(), var("a"))[2][:2], [0, 2559])
        for many in (11, 100):
            text = DOUBLED.format("()", many) + "dup !c"
            taken = ask(begin(text), go(), var("c"), top(0), var("c"), state(), var("d"))
            self.assertEqual(taken[2:5], [[-6]] * 3)
            self.assertEqual(taken[5][3:5], [many, many + 2])
            self.assertEqual(taken[6], [0, 1, 48])


class State(unittest.TestCase):
    def check(self, text, expected):
        """Holds the states at the beginning and behind each word against these."""
        taken = ask(begin(text), state(), *[call for word in expected[1:] for call in (go(1), state())])
        self.assertEqual([tuple(answer) for answer in [taken[1]] + taken[3::2]],
                         [(0,) + answer for answer in expected], text)

    def test_no_words(self):
        for text in ("", " ", "\n \n"):
            self.assertEqual(ask(begin(text), state(), go(0), state(), go(5), state())[1::2], [[0] * 8] * 3)

    def test_word_by_word(self):
        self.check("  5\n\n6 ", [(0, 0, 0, 0, 0, 0, 3), (1, 0, 0, 1, 1, 0, 6), (2, 0, 0, 2, 2, 0, 0)])
        self.check("1 2 pair dup drop say", [
            (0, 0, 0, 0, 0, 0, 1), (1, 0, 0, 1, 1, 0, 3), (2, 0, 0, 2, 2, 0, 5), (1, 0, 1, 2, 2, 0, 10),
            (2, 0, 1, 3, 3, 0, 14), (1, 0, 1, 2, 3, 0, 19), (0, 0, 1, 0, 3, 7, 0)])
        self.check("66 put cr -12 say", [
            (0, 0, 0, 0, 0, 0, 1), (1, 0, 0, 1, 1, 0, 4), (0, 0, 0, 0, 1, 1, 8), (0, 0, 0, 0, 1, 2, 11),
            (1, 0, 0, 1, 1, 2, 15), (0, 0, 0, 0, 1, 5, 0)])

    def test_inside_of_bodies(self):
        self.check(": a b 2 ; : b 1 ; a", [
            (0, 0, 0, 0, 0, 0, 1), (0, 0, 0, 0, 0, 0, 11), (0, 0, 0, 0, 0, 0, 19), (0, 1, 0, 1, 1, 0, 5),
            (0, 2, 0, 2, 2, 0, 15), (1, 2, 0, 3, 3, 0, 17), (1, 1, 0, 2, 3, 0, 7), (2, 1, 0, 3, 3, 0, 9),
            (2, 0, 0, 2, 3, 0, 0)])
        self.check(": a leave 2 ; a a", [
            (0, 0, 0, 0, 0, 0, 1), (0, 0, 0, 0, 0, 0, 15), (0, 1, 0, 1, 1, 0, 5), (0, 0, 0, 0, 1, 0, 17),
            (0, 1, 0, 1, 1, 0, 5), (0, 0, 0, 0, 1, 0, 0)])
        self.check(": a ;", [(0, 0, 0, 0, 0, 0, 1), (0, 0, 0, 0, 0, 0, 0)])

    def check_following(self, text, expected):
        """Holds the places of the next word, behind each word carried out, against these: None at the end."""
        taken = ask(begin(text), *[call for place in expected for call in (state(), go(1))])
        self.assertEqual([answer[7] - 1 for answer in taken[1::2]], [-1 if p is None else p for p in expected], text)

    def test_the_next_word_where_it_is_elsewhere(self):
        self.check_following("0 if 1 else 2 end 3", [0, 2, 12, 14, 18, None, None])
        self.check_following("1 if 1 else 2 end 3", [0, 2, 5, 7, 18, None])
        self.check_following("0 if 1 end", [0, 2, None])
        self.check_following("1 while dup do 1 - end drop", [0, 2, 8, 12, 15, 17, 19, 2, 8, 12, 23, None])
        self.check_following("while 0 do end", [0, 6, 8, None])

    def test_at_a_fault(self):
        for text, words, expected in (
                ("1 +", 1, (1, 0, 0, 1, 1, 0, 3)), ("first", 0, (0, 0, 0, 0, 0, 0, 1)),
                ("7 say 1 0 / 5", 4, (2, 0, 0, 2, 2, 1, 11)), (": a 1 2 pair + ; 9 a 5", 6, (2, 1, 1, 4, 4, 0, 14)),
                (": a a ; a", 101, (0, 100, 0, 100, 100, 0, 5)), ("while 1 do end", 3000, (0, 0, 0, 0, 1, 0, 1)),
                ("1 while dup do end", 3000, (1, 0, 0, 1, 2, 0, 16))):
            ahead = ask(begin(text), go(words), state())
            self.assertEqual(ahead[2], [0, *expected], text)
            # The 3,001st word is come to by a second go alone.
            taken = ask(begin(text), go(), go(1), state(), state(), go(0), go(5), state())
            self.assertEqual(taken[2][1:3], [words, 2], text)
            self.assertEqual(taken[2][4] + 1, taken[3][7], text)
            self.assertEqual([taken[3], taken[4], taken[7]], [[0, *expected]] * 3, text)

    def test_cells_made_are_counted_for_good(self):
        self.check("1 2 pair drop 3 4 pair first", [
            (0, 0, 0, 0, 0, 0, 1), (1, 0, 0, 1, 1, 0, 3), (2, 0, 0, 2, 2, 0, 5), (1, 0, 1, 2, 2, 0, 10),
            (0, 0, 1, 0, 2, 0, 15), (1, 0, 1, 1, 2, 0, 17), (2, 0, 1, 2, 2, 0, 19), (1, 0, 2, 2, 2, 0, 24),
            (1, 0, 2, 1, 2, 0, 0)])


class Alike(unittest.TestCase):
    def test_values(self):
        for one, other, expected in (
                ("1", "1", (1, 1)), ("1", "2", (0, 0)), ("-0", "000", (1, 1)), ("()", "()", (1, 1)),
                ("0", "()", (0, 0)), ("1", "()", (0, 0)), ("2", "1 2 pair", (0, 0)), ("()", "() () pair", (0, 0)),
                ("0", "0 0 pair", (0, 0)), ("1 2 pair", "1 2 pair", (1, 0)), ("1 2 pair", "dup", (1, 1)),
                ("1 2 pair", "2 1 pair", (0, 0)), ("1 2 pair", "1 3 pair", (0, 0)), ("1 2 pair", "3 2 pair", (0, 0)),
                ("1 0 pair", "1 () pair", (0, 0)), ("1 () pair () pair", "() 1 () pair pair", (0, 0)),
                ("-9223372036854775808", "-9223372036854775807 1 -", (1, 1)),
                ("1 2 pair dup pair", "1 2 pair 1 2 pair pair", (1, 0)),
                ("1 2 pair dup pair", "dup first", (0, 0)), ("1 2 pair dup pair dup rest", "swap first", (1, 1))):
            self.assertEqual(alike_on_top(one + " " + other), expected, (one, other))

    def test_as_the_words_say(self):
        for values in ("1 1", "1 () pair dup", "1 () pair 1 () pair", "() ()", "0 ()", "5 5 pair 5"):
            taken = ask(begin(values + " dup !a swap dup !b ="), go(), top(0))
            same = ask(begin(values + " same"), go(), top(0))
            self.assertEqual(alike_on_top(values), (int(text_of(taken[2])), int(text_of(same[2]))), values)

    def test_which_ones_are_meant(self):
        taken = ask(begin("1 2 pair 5 over 1 2 pair 5"), go(), *[alike(j, k) for j in range(5) for k in range(5)])
        found = {(j, k): tuple(taken[2 + 5 * j + k][1:]) for j in range(5) for k in range(5)}
        self.assertEqual({at for at, answer in found.items() if answer[1] == 1},
                         {(0, 0), (1, 1), (2, 2), (3, 3), (4, 4), (0, 3), (3, 0), (2, 4), (4, 2)})
        self.assertEqual({at for at, answer in found.items() if answer == (1, 0)}, {(1, 2), (2, 1), (1, 4), (4, 1)})

    def test_long_and_deep_lists(self):
        by_rests = "t " * 40 + "{} " + "p " * 40
        by_firsts = "{} " + "w " * 60
        for start, build in ((ROWS, by_rests), (WRAPS, by_firsts)):
            for one, other, expected in (("()", "()", (1, 0)), ("7", "7", (1, 0)), ("()", "0", (0, 0)),
                                         ("1", "2", (0, 0))):
                text = start + build.format(one) + build.format(other)
                self.assertEqual(alike_on_top(text), expected, (text, one, other))
            self.assertEqual(alike_on_top(start + build.format("()") + "dup"), (1, 1))
            self.assertEqual(alike_on_top(start + build.format("()") + "dup () pair"), (0, 0))

    def test_far_too_large_to_be_walked(self):
        one = DOUBLED.format("()", 110)
        self.assertEqual(alike_on_top(one + one), (1, 0))
        self.assertEqual(alike_on_top(one + DOUBLED.format("0", 110)), (0, 0))
        self.assertEqual(alike_on_top(one + DOUBLED.format("()", 111)), (0, 0))
        self.assertEqual(alike_on_top(one + DOUBLED.format("()", 111) + "rest"), (1, 0))


class Again(unittest.TestCase):
    TEXTS = (TEXT, "", "1 2 pair dup !a 5 say +", ": f 1 f ; f", "while 1 do () dup pair !b cr end", " : a 3 ; a !c")

    def looks(self):
        return [state(), said(), top(0), top(1), var("a"), var("b"), var("z"), alike(0, 1), go(0)]

    def test_what_it_answers(self):
        self.assertEqual(answers(begin("1") + again() + go(1) + again()), [2, 0, 1, 2, 0, 0, 3, 0, 1, 1, 2, 0, 0])

    def test_it_is_as_at_the_beginning_wherever_it_stood(self):
        for text in self.TEXTS:
            fresh = ask(begin(text), *self.looks(), go(4), *self.looks(), go(), *self.looks())[1:]
            for ahead in ([], [go(0)], [go(1)], [go(3), go(2)], [go(11)], [go()], [go(), go(1)], [again()],
                          [go(2), again()]):
                taken = ask(begin(text), *ahead, again(), *self.looks(), go(4), *self.looks(), go(), *self.looks())
                self.assertEqual(taken[2 + len(ahead):], fresh, (text, ahead))

    def test_other_pieces_behind_it(self):
        for text in self.TEXTS:
            whole = ask(begin(text), go(), go(1), *self.looks())[2:]
            for ahead, piece in ((3000, 20), (20, 3000), (1, 17), (7, 16), (0, 50), (50, 300)):
                pieces = [go(piece)] * (3000 // piece + 1)
                taken = ask(begin(text), go(ahead), again(), *pieces, go(1), *self.looks())
                self.assertEqual(taken[-10:], whole, (text, ahead, piece))

    def test_the_program_that_stood_stays_where_a_begin_was_refused(self):
        taken = ask(begin("5"), go(), begin("1 if"), again(), go(), top(0))
        self.assertEqual(taken[2:], [[-3, 2, 4], [0, 0], [0, 1, 1], [0, 1, 53]])

    def test_the_program_that_was_begun_last(self):
        taken = ask(begin("5"), go(), begin("6 7"), go(1), again(), state(), go(), top(0), top(1))
        self.assertEqual(taken[5:], [[0, 0, 0, 0, 0, 0, 0, 1], [0, 2, 1], [0, 1, 55], [0, 1, 54]])

    def test_two_hundred_times(self):
        text = ": f 1 2 pair !a @a @a pair drop f ; f"
        taken = ask(begin(text), *[again(), go()] * 199, state())
        self.assertEqual(taken[1:-1], [[0, 0], taken[2]] * 199)
        self.assertEqual(taken[-1], ask(begin(text), go(), state())[2])


class NothingIsChanged(unittest.TestCase):
    TEXTS = (TEXT, "1 2 pair dup dup pair !a 5 say @a @a first 1 + 7",
             ": fac dup 2 < if drop 1 leave end dup 1 - fac * ; 10 fac say cr 5 fac () pair dup !q",
             DOUBLED.format("()", 14) + "dup !a say", "")
    LOOKS = (said(0), top(0), top(1), var(0), var(16), state(), alike(0, 0), alike(0, 1))
    REFUSED = (go(3001), go(BIGGEST), said(4097), said(BIGGEST), top(3000), top(BIGGEST), var(26), var(BIGGEST),
               alike(0, 3000), alike(3000, 0), alike(BIGGEST, BIGGEST), begin("1 if"), begin("x"), begin("1" * 4097))
    LATER = (go(0), *LOOKS, go(1), *LOOKS, go(40), *LOOKS, go(), *LOOKS, again(), *LOOKS, go(3), *LOOKS)

    def test_by_looks_and_by_what_is_refused(self):
        for text in self.TEXTS:
            for words in (0, 1, 5, 23, 3000):
                plain = ask(begin(text), go(words), *self.LATER)[2:]
                for call in self.LOOKS + self.REFUSED:
                    taken = ask(begin(text), go(words), call, call, *self.LATER)
                    self.assertEqual(taken[4:], plain, (text, words, call))
                    self.assertEqual(taken[2], taken[3])
                    if call in self.REFUSED:
                        self.assertLess(taken[2][0], 0)

    def test_all_of_them_between_the_pieces(self):
        refused = self.REFUSED[:-1]
        for text in self.TEXTS:
            plain = ask(begin(text), *[go(13)] * 15, go(), *self.LOOKS)[-9:]
            taken = ask(begin(text), *(go(13), *self.LOOKS, *refused) * 15, go(), *self.LOOKS)
            self.assertEqual(taken[-9:], plain, text)

    def test_the_same_line_a_second_time(self):
        for text in self.TEXTS:
            calls = (state(), again(), var(3), alike(0, 0), begin(text), *self.LATER, *self.REFUSED)
            line = [number for call in calls for number in call]
            kept = list(line)
            first = answers(line)
            self.assertEqual(line, kept)
            answers(begin("1 2 pair !a 7 !q @a say") + go())
            self.assertEqual(answers(line), first)
            for number in first:
                self.assertIs(type(number), int)


if __name__ == "__main__":
    unittest.main()
