"""What is alive: what can be come to, each cell once, at the moments that the document names."""

import unittest

from line import again, ask, begin, go, state, top, var

# p makes ten cells, each of one cell twice, and q a hundred; w and x wrap what's on top by firsts.
TWICE = ": p " + "dup pair " * 10 + "; : q p p p p p p p p p p ; "
WRAPS = ": w " + "() pair " * 10 + "; : x w w w w w w w w w w ; "


def states(text):
    """What state answers at the beginning and behind each word, up to the run's end."""
    words = ask(begin(text), go())[1][1]
    taken = ask(begin(text), state(), *[call for word in range(words) for call in (go(1), state())])
    return [taken[1]] + taken[3::2]


def moments(text):
    """How much is alive at each moment of a run."""
    return [answer[4] for answer in states(text)]


def alive_and_fullest(text, words=3000):
    """How much is alive when so many words were asked for, and how much was at the fullest moment."""
    return tuple(ask(begin(text), go(words), state())[2][4:6])


class Moments(unittest.TestCase):
    def check(self, text, expected):
        self.assertEqual(moments(text), expected, text)
        for words in range(len(expected)):
            self.assertEqual(alive_and_fullest(text, words), (expected[words], max(expected[:words + 1])), text)

    def test_values_on_the_stack(self):
        self.check("", [0])
        self.check("1 2 drop drop", [0, 1, 2, 1, 0])
        self.check("0 () dup", [0, 1, 2, 3])
        self.check("7 7 +", [0, 1, 2, 1])
        self.check("1 2 3 rot swap over depth", [0, 1, 2, 3, 3, 3, 4, 5])
        self.check("65 put 1 say cr", [0, 1, 0, 1, 0, 0])
        self.check("1 if 0 if 5 end else 6 end", [0, 1, 0, 1, 0, 0])

    def test_variables(self):
        self.check("1 !a", [0, 1, 1])
        self.check("0 !a", [0, 1, 0])
        self.check("-0 !a 000 !z", [0, 1, 0, 1, 0])
        self.check("() !a", [0, 1, 1])
        self.check("1 2 pair !a", [0, 1, 2, 2, 2])
        self.check("5 !a 0 !a", [0, 1, 1, 2, 0])
        self.check("() !a 0 !a 0 !a", [0, 1, 1, 2, 0, 1, 0])
        self.check("1 2 pair !a 0 !a", [0, 1, 2, 2, 2, 3, 0])
        self.check("5 !a 6 !a () !a", [0, 1, 1, 2, 1, 2, 1])
        self.check("1 !a 2 !b @a !b @c !a", [0, 1, 1, 2, 2, 3, 2, 3, 1])

    def test_a_variable_becomes_what_it_is(self):
        self.check("1 2 pair !a @a !a @a !a", [0, 1, 2, 2, 2, 3, 2, 3, 2])
        self.check("1 () pair !a @a rest !a", [0, 1, 2, 2, 2, 3, 3, 1])
        self.check("1 () pair () pair !a @a first !a", [0, 1, 2, 2, 3, 3, 3, 4, 4, 2])

    def test_cells(self):
        self.check("1 2 pair", [0, 1, 2, 2])
        self.check("1 2 pair drop", [0, 1, 2, 2, 0])
        self.check("1 2 pair 3 pair", [0, 1, 2, 2, 3, 3])
        self.check("3 1 2 pair pair", [0, 1, 2, 3, 3, 3])
        self.check("1 2 pair 1 2 pair", [0, 1, 2, 2, 3, 4, 4])

    def test_a_cell_once_however_often_it_is_shared(self):
        self.check("1 2 pair dup dup", [0, 1, 2, 2, 3, 4])
        self.check("1 2 pair dup pair", [0, 1, 2, 2, 3, 3])
        self.check("1 2 pair dup !a", [0, 1, 2, 2, 3, 3])
        self.check("1 2 pair dup !a dup !b", [0, 1, 2, 2, 3, 3, 4, 4])
        self.check("1 2 pair !a @a @a pair", [0, 1, 2, 2, 2, 3, 4, 4])
        self.check("() dup pair dup pair dup pair", [0, 1, 2, 2, 3, 3, 4, 4])

    def test_one_that_is_still_held_elsewhere(self):
        self.check("1 2 pair dup drop drop", [0, 1, 2, 2, 3, 2, 0])
        self.check("1 2 pair dup !a drop 0 !a", [0, 1, 2, 2, 3, 3, 2, 3, 0])
        self.check("1 2 pair dup !a 0 !a drop", [0, 1, 2, 2, 3, 3, 4, 2, 0])
        self.check("1 2 pair dup 3 pair drop drop", [0, 1, 2, 2, 3, 4, 4, 2, 0])
        self.check("1 2 pair dup 3 pair swap drop drop", [0, 1, 2, 2, 3, 4, 4, 4, 3, 0])
        self.check("1 2 pair !a @a !b 0 !a 0 !b", [0, 1, 2, 2, 2, 3, 3, 4, 2, 3, 0])

    def test_firsts_and_rests_that_are_left(self):
        self.check("1 2 pair first", [0, 1, 2, 2, 1])
        self.check("1 2 pair rest", [0, 1, 2, 2, 1])
        self.check("1 2 pair 3 pair first", [0, 1, 2, 2, 3, 3, 2])
        self.check("3 1 2 pair pair rest", [0, 1, 2, 3, 3, 3, 2])
        self.check("3 1 2 pair pair first", [0, 1, 2, 3, 3, 3, 1])
        self.check("1 2 pair 3 pair dup first", [0, 1, 2, 2, 3, 3, 4, 4])
        self.check("1 2 pair dup pair dup first swap rest same", [0, 1, 2, 2, 3, 3, 4, 4, 4, 3, 1])

    def test_cells_that_words_take(self):
        self.check("1 2 pair say", [0, 1, 2, 2, 0])
        self.check("1 2 pair kind", [0, 1, 2, 2, 1])
        self.check("1 2 pair dup =", [0, 1, 2, 2, 3, 1])
        self.check("1 2 pair dup same", [0, 1, 2, 2, 3, 1])
        self.check("1 2 pair 1 2 pair =", [0, 1, 2, 2, 3, 4, 4, 1])

    def test_cells_that_words_move(self):
        self.check("1 () pair 2 () pair 3 () pair rot rot rot", [0, 1, 2, 2, 3, 4, 4, 5, 6, 6, 6, 6, 6])
        self.check("1 () pair 2 () pair swap over", [0, 1, 2, 2, 3, 4, 4, 4, 5])
        self.check("1 () pair 2 over drop swap drop", [0, 1, 2, 2, 3, 4, 3, 3, 1])

    def test_procedures_under_way(self):
        self.check(": a ; a", [0, 0, 1, 0])
        self.check(": a 1 ; a", [0, 0, 1, 2, 1])
        self.check(": a 1 leave 2 ; a a", [0, 0, 1, 2, 1, 2, 3, 2])
        self.check(": a b ; : b 5 ; a drop", [0, 0, 0, 1, 2, 3, 2, 1, 0])
        self.check(": a 1 2 pair !x ; a @x", [0, 0, 1, 2, 3, 3, 3, 2, 3])

    def test_nothing_that_is_gone_over(self):
        self.check(": a 1 2 pair ; 0 if 1 2 3 end while 0 do 4 end", [0, 0, 1, 0, 0, 1, 0])


class Fullest(unittest.TestCase):
    def test_of_a_list_that_is_dropped(self):
        text = "1 2 3 () pair pair pair drop 5"
        self.assertEqual(alive_and_fullest(text, 4), (4, 4))
        self.assertEqual(alive_and_fullest(text, 7), (4, 4))
        self.assertEqual(alive_and_fullest(text), (1, 4))
        self.assertEqual(alive_and_fullest("1 2 3 () pair pair pair dup dup !a drop drop 0 !a"), (0, 6))

    def test_inside_of_a_procedure(self):
        self.assertEqual(alive_and_fullest(": a 1 2 3 drop drop drop ; a"), (0, 4))
        self.assertEqual(alive_and_fullest(": a b ; : b 1 () pair dup drop drop ; a"), (0, 5))

    def test_at_a_name(self):
        self.assertEqual(alive_and_fullest(": a drop ; 5 a"), (0, 2))
        self.assertEqual(alive_and_fullest(": a b ; : b leave ; a"), (0, 2))
        self.assertEqual(alive_and_fullest(": a ; 5 6 pair a"), (2, 3))

    def test_at_the_very_last_word(self):
        self.assertEqual(alive_and_fullest("1 2 3", 2), (2, 2))
        self.assertEqual(alive_and_fullest("1 2 3"), (3, 3))
        self.assertEqual(alive_and_fullest("1 2 pair dup"), (3, 3))

    def test_at_the_three_thousandth_word(self):
        # : and 29 times t are 2,959 words.
        text = ": t " + "1 " * 100 + "; " + "t " * 29 + "1 " * 42
        taken = ask(begin(text), go(2999), state(), go(1), state(), go(1), state())
        self.assertEqual(taken[2][1:6], [2940, 0, 0, 2940, 2940])
        self.assertEqual(taken[4][1:6], [2941, 0, 0, 2941, 2941])
        self.assertEqual(taken[5][:4], [0, 3000, 2, 11])
        self.assertEqual(taken[6], taken[4])

    def test_not_within_a_word(self):
        self.assertEqual(alive_and_fullest("1 2 swap"), (2, 2))
        self.assertEqual(alive_and_fullest("1 2 pair !a @a !a"), (2, 3))
        self.assertEqual(alive_and_fullest("1 2 3 rot"), (3, 3))

    def test_nothing_is_done_at_a_fault(self):
        for text, expected in (
                ("pair", (0, 0, 0, 0, 0)), ("1 pair", (1, 0, 0, 1, 1)), ("1 2 pair dup +", (2, 0, 1, 3, 3)),
                ("1 2 pair if end", (1, 0, 1, 2, 2)), ("1 2 pair 0 /", (2, 0, 1, 3, 3)), ("5 0 /", (2, 0, 0, 2, 2)),
                ("1 2 pair drop drop", (0, 0, 1, 0, 2)), ("1 2 3 drop drop drop drop", (0, 0, 0, 0, 3)),
                ("() !a 5 first", (1, 0, 0, 2, 2)), ("1 2 pair !a !a", (0, 0, 1, 2, 2)), ("300 put", (1, 0, 0, 1, 1)),
                (": f 1 f ; f", (100, 100, 0, 200, 200)), (": f f ; 1 2 pair f", (1, 100, 1, 102, 102)),
                (": f 1 2 pair rot ; f", (1, 1, 1, 3, 3)),
                (TWICE + "() p p say", (1, 0, 20, 21, 22))):
            taken = ask(begin(text), go(), state(), go(), state())
            self.assertEqual(taken[1][2], 2, text)
            self.assertEqual(tuple(taken[2][1:6]), expected, text)
            self.assertEqual(taken[4], taken[2])

    def test_when_there_are_too_many_words(self):
        taken = ask(begin("while 1 do 1 2 pair end"), go(2999), state(), go(1), state(), go(1), state())
        self.assertEqual(taken[5][:4], [0, 3000, 2, 11])
        # 428 rounds of seven words, then while, 1, do and 1.
        self.assertEqual([answer[1:6] for answer in taken[2::2]],
                         [[428, 0, 428, 856, 857], [429, 0, 428, 857, 857], [429, 0, 428, 857, 857]])


class LongAndDeep(unittest.TestCase):
    def test_dup_pair_over_and_over(self):
        for state_now in states(TWICE + "() p p p p drop"):
            self.assertEqual(state_now[4], state_now[1] + state_now[2] + (state_now[3] if state_now[1] > 0 else 0))

    def test_more_than_a_thousand_cells_are_dropped_at_once(self):
        for text in (TWICE + "() " + "q " * 13, WRAPS + "5 " + "x " * 12):
            cells = 1300 if "dup" in text else 1200
            self.assertEqual(alive_and_fullest(text)[0], cells + 1)
            self.assertEqual(alive_and_fullest(text + "drop")[0], 0)
            self.assertEqual(alive_and_fullest(text + "!a 0")[0], cells + 2)
            self.assertEqual(alive_and_fullest(text + "!a 0 !a")[0], 0)
            self.assertEqual(alive_and_fullest(text + "dup drop")[0], cells + 1)
            self.assertEqual(alive_and_fullest(text + "first")[0], cells)
            self.assertEqual(alive_and_fullest(text + "dup 7 pair swap drop")[0], cells + 2)

    def test_a_list_that_is_gone_along(self):
        for step, build in (("rest", "() " + "7 swap pair " * 20), ("first", "() " + "7 pair " * 20)):
            text = build + "while dup kind 2 = do " + step + " end"
            calls = [call for word in range(20 * 8 + 6) for call in (go(1), state())]
            taken = ask(begin(text), go(len(build.split())), *calls)
            self.assertEqual(taken[-2][2], 1)
            cells = [answer[4] - answer[1] for answer in taken[3::2]]
            self.assertEqual(sorted(set(cells)), list(range(21)))
            self.assertEqual(sorted(cells, reverse=True), cells)

    def test_long_runs_with_many_states(self):
        text = TWICE + "() " + "q " * 13 + "drop"
        calls = [call for turn in range(193) for call in (go(15), state())]
        taken = ask(begin(text), *calls, again(), go(), state())
        self.assertEqual(taken[-2], [0, 2890, 1])
        self.assertEqual(taken[-1], [0, 0, 0, 1300, 0, 1303, 0, 0])
        self.assertEqual(taken[-4], taken[-1])
        fullest = [answer[5] for answer in taken[2:-3:2]]
        self.assertEqual(sorted(fullest), fullest)
        self.assertGreater(len(set(fullest)), 180)
        for answer in taken[2:-5:2]:
            self.assertEqual(answer[4], answer[1] + answer[2] + answer[3])

    def test_the_same_in_any_pieces(self):
        text = TWICE + "() " + "q " * 5 + "!a @a first !b 0 !a @b rest rest dup !b"
        whole = ask(begin(text), go(), state())[2]
        for piece in (1, 2, 3, 7, 100, 999):
            calls = [call for turn in range(min(198, 3000 // piece + 1)) for call in (go(piece), state())]
            self.assertEqual(ask(begin(text), *calls, go(), state())[-1], whole, piece)


class Again(unittest.TestCase):
    def test_nothing_is_alive_behind_it(self):
        text = ": f 1 2 pair dup !a () !b ; f f f drop"
        for words in (0, 1, 3, 5, 9, 3000):
            taken = ask(begin(text), go(words), again(), state(), go(words), state(), begin(text), go(words), state())
            self.assertEqual(taken[3], [0, 0, 0, 0, 0, 0, 0, 1])
            self.assertEqual(taken[5], taken[8])

    def test_what_was_alive_ahead_of_it_is_forgotten(self):
        text = TWICE + "() q q q"
        taken = ask(begin(text), go(), state(), again(), go(3), state(), var("a"), top(0))
        self.assertEqual(taken[2][3:6], [300, 301, 303])
        self.assertEqual(taken[5][1:6], [1, 0, 0, 1, 1])


if __name__ == "__main__":
    unittest.main()
