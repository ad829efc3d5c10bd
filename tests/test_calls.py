"""The calls begin, go, said and top: what they answer, what they refuse; that a run in pieces is the same run."""

import unittest

from line import alike, ask, begin, go, row, said, state, text_of, top, var
from sharedlists.runs import answers

BIGGEST = 4294967295
TEXT = ": sq dup * ; 3 while dup do dup sq dup say cr () pair swap 1 - end drop"


class Form(unittest.TestCase):
    def test_the_list_that_is_given_back(self):
        line = begin("1 say 7") + go() + said() + said(1) + top() + top(1) + begin("a") + go(5)
        self.assertEqual(answers(line), [2, 0, 3, 3, 0, 3, 1, 3, 0, 1, 49, 2, 0, 0, 3, 0, 1, 55, 1, -1,
                                         3, -3, 3, 0, 3, 0, 3, 1])

    def test_a_fault_has_five_numbers(self):
        self.assertEqual(answers(begin("1 +") + go(1) + go(1)), [2, 0, 2, 3, 0, 1, 0, 5, 0, 1, 2, 6, 2])

    def test_whole_numbers_alone(self):
        given = answers(begin(TEXT) + go(30) + said() + top() + go() + top(1) + begin("1 ="))
        self.assertIs(type(given), list)
        for number in given:
            self.assertIs(type(number), int)

    def test_what_is_handed_in_is_not_changed(self):
        line = begin(TEXT) + go(7) + said() + top() + top(BIGGEST) + begin("1 if") + begin("?" * 4097) + go()
        kept = list(line)
        answers(line)
        self.assertEqual(line, kept)

    def test_nothing_is_kept_from_one_time_to_the_next(self):
        line = begin(TEXT + " 5 !a 1 2 pair") + go() + said() + top() + top(1)
        first = answers(line)
        self.assertEqual(answers(go()), [1, -2])
        other = answers(begin("@a depth 3 4 pair") + go() + top(0) + top(1) + top(2) + said())
        self.assertEqual(other, [2, 0, 5, 3, 0, 5, 1, 9, 0, 7] + row("(3 . 4)") + [3, 0, 1, 49, 3, 0, 1, 48, 2, 0, 0])
        self.assertEqual(answers(line), first)

    def test_four_hundred_calls(self):
        taken = ask(begin("while 1 do end"), *[go(1)] * 399)
        self.assertEqual([answer[1] for answer in taken[1:]], list(range(1, 400)))
        taken = ask(*[begin("1 2 3"), go(2)] * 200)
        self.assertEqual(taken, [[0, 3], [0, 2, 0]] * 200)

    def test_the_longest_lines(self):
        for text in ("x" * 30900, " " * 30900, b"\xff" * 30900):
            self.assertEqual(ask(begin(text), go()), [[-1], [-2]])
        self.assertEqual(ask(*[begin("1 " * 2048)] * 7), [[0, 2048]] * 7)


class NoProgram(unittest.TestCase):
    def test_at_the_beginning(self):
        for call in (go(0), go(3000), go(3001), go(BIGGEST), said(0), said(1), said(BIGGEST), top(0), top(BIGGEST)):
            self.assertEqual(ask(call), [[-2]])

    def test_behind_a_begin_that_was_refused(self):
        self.assertEqual(ask(begin("a"), go(), begin(" " * 4097), said(), top()), [[-3, 3, 0], [-2], [-1], [-2], [-2]])

    def test_then_a_program(self):
        self.assertEqual(ask(go(), begin("1"), go()), [[-2], [0, 1], [0, 1, 1]])


class NotAsTold(unittest.TestCase):
    def test_go(self):
        taken = ask(begin("1 2 3"), go(3001), go(BIGGEST), go(1), go(3001), go(3000))
        self.assertEqual(taken[1:], [[-1], [-1], [0, 1, 0], [-1], [0, 3, 1]])

    def test_said(self):
        taken = ask(begin("12 say"), said(0), said(1), go(), said(0), said(1), said(2), said(3), said(BIGGEST))
        self.assertEqual(taken[1:3], [[0, 0], [-1]])
        self.assertEqual(taken[4:], [[0, 2, 49, 50], [0, 1, 50], [0, 0], [-1], [-1]])

    def test_top(self):
        taken = ask(begin("1 2"), top(0), go(1), top(0), top(1), go(1), top(0), top(1), top(2), top(BIGGEST))
        self.assertEqual(taken[1], [-1])
        self.assertEqual(taken[3:5], [[0, 1, 49], [-1]])
        self.assertEqual(taken[6:], [[0, 1, 50], [0, 1, 49], [-1], [-1]])

    def test_begin(self):
        self.assertEqual(ask(begin("1" + " " * 4095), begin("1" + " " * 4096)), [[0, 1], [-1]])
        self.assertEqual(ask([0, 2, 49, 255], [0, 2, 49, 256], [0, 2, -1, 49], [0, 2, 0, 49]),
                         [[-3, 1, 0], [-1], [-1], [-3, 1, 0]])


class Begin(unittest.TestCase):
    def test_it_is_the_program_at_its_beginning(self):
        taken = ask(begin("1 say 5 !a 6"), go(), begin("@a depth"), said(), top(0), go(0), go(), top(0), top(1))
        self.assertEqual(taken[2:7], [[0, 2], [0, 0], [-1], [0, 0, 0], [0, 2, 1]])
        self.assertEqual([text_of(answer) for answer in taken[7:]], ["1", "0"])

    def test_the_same_text_once_more_begins_anew(self):
        taken = ask(begin(TEXT), go(20), said(), begin(TEXT), said(), go(20), said())
        self.assertEqual(taken[4], [0, 0])
        self.assertEqual(taken[5:], taken[1:3])

    def test_what_stood_stays_where_it_is_refused(self):
        whole = ask(begin(TEXT), go(25), said(), top(0), go(), said(), top(0))
        for refused, answer in ((begin("1 if"), [-3, 2, 4]), (begin("?"), [-3, 1, 0]), (begin(" " * 4097), [-1]),
                                (begin(": a ; : a ;"), [-3, 4, 8])):
            taken = ask(begin(TEXT), refused, go(25), refused, said(), refused, top(0), go(), refused, said(), top(0))
            self.assertEqual([a for a in taken if a != answer], whole)
            self.assertEqual(taken.count(answer), 4)

    def test_no_words(self):
        for text in ("", "  \n"):
            taken = ask(begin(text), go(0), go(5), said(), top(0))
            self.assertEqual(taken, [[0, 0], [0, 0, 1], [0, 0, 1], [0, 0], [-1]])


class Pieces(unittest.TestCase):
    TEXTS = (
        TEXT,
        ": fac dup 2 < if drop 1 leave end dup 1 - fac * ; 10 fac say cr 5 fac",
        "1 2 3 rot say over pair dup pair say 0 if 1 else () end 5 +",
        "() 0 while dup 9 < do swap over swap pair dup say cr swap 1 + end drop dup first 0 / say",
        ": a depth b ; : b 1 if a end ; a",
        "while @a 7 < do @a 1 + dup !a dup 2 mod if say else put end end @a @a @a pair pair",
    )

    def whole(self, text):
        return ask(begin(text), go(), said(), top(0), top(1))[1:]

    def test_word_by_word(self):
        for text in self.TEXTS:
            whole = self.whole(text)
            words = whole[0][1]
            self.assertLess(words, 380)
            taken = ask(begin(text), *[go(1)] * (words + 1), said(), top(0), top(1))
            self.assertEqual(taken[words + 1:], whole)
            for count in range(1, words):
                self.assertEqual(taken[count], [0, count, 0])

    def test_with_said_and_top_in_between(self):
        for text in self.TEXTS:
            whole = self.whole(text)
            for piece in (2, 3, 7, 50):
                turns = whole[0][1] // piece + 1
                if turns > 75:
                    continue
                looks = [go(piece), said(), said(BIGGEST), top(0), top(BIGGEST)]
                taken = ask(begin(text), *looks * turns, go(1), said(), top(0), top(1))
                self.assertEqual(taken[-4:], whole, (text, piece))

    def test_said_grows_and_stays(self):
        for text in self.TEXTS:
            words = self.whole(text)[0][1]
            taken = ask(begin(text), *[call for word in range(min(words, 190)) for call in (go(1), said())])
            before = ""
            for answer in taken[2::2]:
                now = text_of(answer)
                self.assertTrue(now.startswith(before))
                before = now

    def test_no_words_more(self):
        taken = ask(begin("1 drop drop"), go(0), go(2), go(0), go(1), go(0), go(9))
        self.assertEqual(taken[1:], [[0, 0, 0], [0, 2, 0], [0, 2, 0]] + [[0, 2, 2, 6, 7]] * 3)
        taken = ask(begin("1 drop"), go(1), go(1), go(0), go(3000))
        self.assertEqual(taken[1:], [[0, 1, 0]] + [[0, 2, 1]] * 3)

    def test_it_is_at_its_end_right_behind_the_last_word(self):
        for text, words in (("1", 1), (": a ;", 1), (": a ; a", 3), ("0 if 1 end", 2), ("1 if end", 3),
                            ("while 0 do 5 end", 3), (": a leave 1 ; a", 3)):
            taken = ask(begin(text), go(words - 1), go(1))
            self.assertEqual(taken[1:], [[0, words - 1, 0], [0, words, 1]], text)


class WhereverTheyStand(unittest.TestCase):
    """Plain words do the same outside, in bodies, in branches and in loops."""

    PLAIN = ("1 2 3 rot swap over depth", "7 -2 / -7 2 mod + 3 * 5 -", "1 2 < 2 1 < = 4 4 same",
             "1 () pair dup pair dup first swap rest kind", "5 !q @q @r @q pair", "1 2 pair say 66 put cr -7 say 9",
             "() 1 +", "5 0 /", "first", "1 256 put")
    PLACES = ("{}", ": a {} ; a", ": a b ; : b {} ; a", "1 if {} end", "0 if else {} end", "1 if {} else end",
              "while @z 0 = do 1 !z {} end", "while {} 0 do end", ": a 1 if while @z 0 = do 1 !z {} leave end end ; a")

    def test_the_same_in_all_places(self):
        for words in self.PLAIN:
            found = []
            for place in self.PLACES:
                text = place.format(words)
                taken = ask(begin(text), go(), state(), said(), var("q"), var("r"), alike(0, 1),
                            *[top(k) for k in range(9)])
                stands = taken[1][2:4]
                if len(taken[1]) == 5:
                    stands.append(taken[1][4] - place.index("{}"))
                # How many values stand on the stack, how many cells were made, how many bytes were said.
                counts = [taken[2][1], taken[2][3], taken[2][6]]
                found.append([stands, counts] + taken[3:])
            for other in found[1:]:
                self.assertEqual(other, found[0], words)


if __name__ == "__main__":
    unittest.main()
