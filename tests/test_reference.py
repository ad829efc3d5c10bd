"""Texts made at random, the same ones each time, held against the reference."""

import random
import unittest

import reference
from line import ask, begin, go, row, said, top

WORDS = reference.PLAIN + list(reference.SHAPING) + "0 1 2 -3 7 255 a b c @x !x @y !y".split()
ODD = ("? A @ ! @xy aB 9223372036854775808 -9223372036854775809 99999999999999999999 000000000000000000001"
       " abcdefghijklmnop abcdefghijklmnopq -0 - -- () (").split()
MOVING = "dup swap over rot depth dup over".split()
TESTS = 300


def any_words(chance, many):
    """A text of words as they come, few of them no words."""
    pool = WORDS if chance.random() < 0.7 else WORDS + ODD
    text = ""
    for k in range(many):
        text += chance.choice(("", "", "", " ", "\n")) + chance.choice(pool) + chance.choice(" \n")
    return text[:-1] if chance.random() < 0.5 else text


def shaped_words(chance, depth, inner):
    """Words that are nested rightly, and mostly have what they take."""
    words = []
    for k in range(chance.randrange(1, 6)):
        chosen = chance.random()
        if chosen < 0.12 and depth < 4:
            words += [chance.choice(("0", "1", "dup kind", "depth 2 mod")), "if"]
            words += shaped_words(chance, depth + 1, inner)
            if chance.random() < 0.5:
                words += ["else"] + shaped_words(chance, depth + 1, inner)
            words += ["end"]
        elif chosen < 0.20 and depth < 3:
            words += ["while", chance.choice(("@x 5 < @x 1 + !x", "@y 3 < @y 1 + !y", "depth 9 <")), "do"]
            words += shaped_words(chance, depth + 1, inner) + ["end"]
        elif chosen < 0.28:
            words.append(chance.choice("abc"))
        elif chosen < 0.31 and inner:
            words.append("leave")
        elif chosen < 0.60:
            words.append(chance.choice(("0", "1", "2", "-3", "7", "()", "1 2 pair", "3 () pair", "@x", "@z", "depth")))
        elif chosen < 0.75:
            words.append(chance.choice(MOVING))
        else:
            words.append(chance.choice(reference.PLAIN + ["!z"]))
    return words


def shaped_text(chance):
    parts = [[":", name] + shaped_words(chance, 1, True) + [";"] for name in "abc"]
    parts.insert(chance.randrange(4), ["1 2 () dup"] + shaped_words(chance, 0, False) + shaped_words(chance, 0, False))
    return " ".join(" ".join(part) for part in parts)


def expected_go(text, limit):
    run = reference.Run(text, limit)
    return run, [0, run.count, run.stands] + list(run.fault or ())


class AgainstTheReference(unittest.TestCase):
    def check_begin(self, text):
        fault = reference.fault_of_text(text)
        expected = [0, len(reference.words_of(text))] if fault is None else [-3, *fault]
        self.assertEqual(ask(begin(text))[0], expected, text)
        return fault is None

    def expected_top(self, stack, k):
        if k >= len(stack):
            return [-1]
        if reference.length_of(stack[-1 - k]) > 4096:
            return [-6]
        value = row(reference.said_of(stack[-1 - k]))
        return [0, len(value)] + value

    def check_run(self, text, pieces):
        calls, expected, limit = [begin(text)], [[0, len(reference.words_of(text))]], 0
        for piece in pieces:
            limit += piece
            run, answer = expected_go(text, limit)
            start = limit % (len(run.output) + 1)
            calls += [go(piece), said(start), top(0), top(2)]
            expected += [answer, [0, len(run.output) - start] + row(run.output[start:])]
            for k in (0, 2):
                expected.append(self.expected_top(run.stack, k))
        self.assertEqual(ask(*calls), expected, (text, pieces))
        return answer

    def test_words_as_they_come(self):
        chance = random.Random(1)
        right = 0
        for turn in range(TESTS):
            text = any_words(chance, chance.randrange(1, 9))
            if self.check_begin(text):
                right += 1
                self.check_run(text, [1, 2, 3000, 1])
        self.assertGreater(right, TESTS // 20)

    def test_shaped_words_with_one_word_changed(self):
        chance = random.Random(2)
        for turn in range(TESTS):
            words = shaped_text(chance).split()
            place = chance.randrange(len(words))
            chosen = chance.random()
            if chosen < 0.3:
                words = words[:place] + words[place + 1:]
            elif chosen < 0.6:
                words = words[:place] + [chance.choice(WORDS + ODD)] + words[place:]
            elif chosen < 0.9:
                words[place] = chance.choice(WORDS + ODD)
            else:
                words = words[:place]
            self.check_begin(" ".join(words))

    def test_runs_in_pieces(self):
        chance = random.Random(3)
        stands = {}
        for turn in range(TESTS):
            text = shaped_text(chance)
            self.assertTrue(self.check_begin(text), text)
            pieces = [chance.choice((0, 1, 2, 5, 30)) for k in range(4)] + [3000, 1]
            answer = self.check_run(text, pieces)
            found = tuple(answer[2:4])
            stands[found] = stands.get(found, 0) + 1
        for found in ((1,), (2, 6), (2, 7), (2, 8), (2, 9), (2, 10), (2, 11)):
            self.assertGreater(stands.get(found, 0), 0, (found, stands))


if __name__ == "__main__":
    unittest.main()
