"""Texts made at random, the same ones each time, held against the reference."""

import random
import unittest

import reference
from line import again, alike, ask, begin, go, said, state, top, var

WORDS = reference.PLAIN + list(reference.SHAPING) + "0 1 2 -3 7 255 a b c @x !x @y !y".split()
ODD = ("? A @ ! @xy aB 9223372036854775808 -9223372036854775809 99999999999999999999 000000000000000000001"
       " abcdefghijklmnop abcdefghijklmnopq -0 - -- () (").split()
MAKING = ("pair", "pair", "dup pair", "over over pair", "over pair", "() pair", "7 swap pair", "dup 3 pair", "rot pair")
DROPPING = ("drop", "dup kind 2 = if first end", "dup kind 2 = if rest end", "!x", "!y", "0 !x", "() !y", "swap drop")
KEEPING = ("@x", "@y", "dup !x", "over !y", "@x !y", "dup", "over", "rot", "swap", "kind", "1", "()", "@x @y pair !x",
           "dup @x = drop", "dup @y same drop")
MOVING = "dup swap over rot depth dup over".split()
TESTS = 300


def any_words(chance, many):
    """A text of words as they come, few of them no words."""
    pool = WORDS if chance.random() < 0.7 else WORDS + ODD
    text = ""
    for k in range(many):
        text += chance.choice(("", "", "", " ", "\n")) + chance.choice(pool) + chance.choice(" \n")
    return text[:-1] if chance.random() < 0.5 else text


def shaped_words(chance, depth, inner):
    """Words that are nested rightly, and mostly have what they take."""
    words = []
    for k in range(chance.randrange(1, 6)):
        chosen = chance.random()
        if chosen < 0.12 and depth < 4:
            words += [chance.choice(("0", "1", "dup kind", "depth 2 mod")), "if"]
            words += shaped_words(chance, depth + 1, inner)
            if chance.random() < 0.5:
                words += ["else"] + shaped_words(chance, depth + 1, inner)
            words += ["end"]
        elif chosen < 0.20 and depth < 3:
            words += ["while", chance.choice(("@x 5 < @x 1 + !x", "@y 3 < @y 1 + !y", "depth 9 <")), "do"]
            words += shaped_words(chance, depth + 1, inner) + ["end"]
        elif chosen < 0.28:
            words.append(chance.choice("abc"))
        elif chosen < 0.31 and inner:
            words.append("leave")
        elif chosen < 0.60:
            words.append(chance.choice(("0", "1", "2", "-3", "7", "()", "1 2 pair", "3 () pair", "@x", "@z", "depth")))
        elif chosen < 0.75:
            words.append(chance.choice(MOVING))
        else:
            words.append(chance.choice(reference.PLAIN + ["!z"]))
    return words


def shaped_text(chance):
    parts = [[":", name] + shaped_words(chance, 1, True) + [";"] for name in "abc"]
    parts.insert(chance.randrange(4), ["1 2 () dup"] + shaped_words(chance, 0, False) + shaped_words(chance, 0, False))
    return " ".join(" ".join(part) for part in parts)


def listing_text(chance):
    """A text that makes, shares and drops many cells, the same ones in a loop."""
    def items(many):
        chosen = [chance.choice(chance.choice((MAKING, DROPPING, KEEPING))) for k in range(many)]
        return " ".join("filled " + item for item in chosen)
    return (": filled depth 4 < if () 1 @x @y end ; : f " + items(6) + " ; " + items(4)
            + " while @n 9 < do @n 1 + !n " + items(3) + " f end " + items(4))


def any_call(chance, texts):
    """A call of a line, mostly one that isn't refused."""
    few = chance.choice((0, 0, 0, 1, 1, 2, 3, 7, 40, 4096, 4097, 4294967295))
    return chance.choice((
        lambda: begin(chance.choice(texts)),
        lambda: go(chance.choice((0, 1, 1, 2, 3, 5, 8, 30, 3000, 3001, 4294967295))),
        lambda: go(chance.choice((1, 2, 4, 9))),
        lambda: said(few),
        lambda: top(few),
        lambda: var(chance.choice((0, 23, 24, 25, 25, 26, few))),
        state,
        state,
        lambda: alike(chance.choice((0, 0, 1, few)), chance.choice((0, 1, 2, few))),
        again,
    ))()


class AgainstTheReference(unittest.TestCase):
    def check(self, calls):
        line = reference.Line()
        expected = [line.answer(call) for call in calls]
        self.assertEqual(ask(*calls), expected, calls)
        return expected

    def check_run(self, text, pieces):
        calls = [begin(text)]
        for piece in pieces:
            calls += [go(piece), said(0), top(0), top(2), state(), var("x"), var("z"), alike(0, 1), alike(0, 2)]
        return self.check(calls)[-9]

    def test_words_as_they_come(self):
        chance = random.Random(1)
        right = 0
        for turn in range(TESTS):
            text = any_words(chance, chance.randrange(1, 9))
            if self.check([begin(text)])[0][0] == 0:
                right += 1
                self.check_run(text, [1, 2, 3000, 1])
        self.assertGreater(right, TESTS // 20)

    def test_shaped_words_with_one_word_changed(self):
        chance = random.Random(2)
        for turn in range(TESTS):
            words = shaped_text(chance).split()
            place = chance.randrange(len(words))
            chosen = chance.random()
            if chosen < 0.3:
                words = words[:place] + words[place + 1:]
            elif chosen < 0.6:
                words = words[:place] + [chance.choice(WORDS + ODD)] + words[place:]
            elif chosen < 0.9:
                words[place] = chance.choice(WORDS + ODD)
            else:
                words = words[:place]
            self.check([begin(" ".join(words))])

    def test_runs_in_pieces(self):
        chance = random.Random(3)
        stands = {}
        for turn in range(TESTS):
            text = shaped_text(chance)
            pieces = [chance.choice((0, 1, 2, 5, 30)) for k in range(4)] + [3000, 1]
            answer = self.check_run(text, pieces)
            found = tuple(answer[2:4])
            stands[found] = stands.get(found, 0) + 1
        for found in ((1,), (2, 6), (2, 7), (2, 8), (2, 9), (2, 10), (2, 11)):
            self.assertGreater(stands.get(found, 0), 0, (found, stands))

    def test_lists_that_are_made_shared_and_dropped(self):
        chance = random.Random(5)
        made, fuller = 0, 0
        for turn in range(TESTS // 3):
            text = listing_text(chance)
            calls = [begin(text)]
            while len(calls) < 60:
                calls += [go(chance.choice((1, 2, 3, 10, 20))), state(), alike(0, 1), alike(1, 2), top(0), var("x")]
            expected = self.check(calls + [go(), state(), said(), var("y"), again(), state(), go(), state()])
            self.assertEqual(expected[-1], expected[-7])
            made += expected[-1][3]
            fuller += expected[-1][4] < expected[-1][5]
        self.assertGreater(made, 10 * TESTS)
        self.assertGreater(fuller, TESTS // 6)

    def test_all_calls_in_any_order(self):
        chance = random.Random(4)
        answered = {}
        for turn in range(TESTS):
            texts = [shaped_text(chance), listing_text(chance), any_words(chance, 3), "", "1 if", " " * 4097]
            calls = [any_call(chance, texts) for k in range(chance.randrange(1, 6))] + [begin(texts[0])]
            calls += [any_call(chance, texts[chance.randrange(2):]) for k in range(40)]
            for call, answer in zip(calls, self.check(calls)):
                found = (call[0], min(answer[0], 0))
                answered[found] = answered.get(found, 0) + 1
        for call in range(8):
            self.assertGreater(answered.get((call, 0), 0), TESTS // 3)
            self.assertGreater(answered.get((call, -2), 0), 0 if call > 0 else -1)
            self.assertGreater(answered.get((call, -1), 0), 0 if call not in (5, 7) else -1)


if __name__ == "__main__":
    unittest.main()
