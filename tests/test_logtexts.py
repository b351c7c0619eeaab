"""Points 106 and 107: log texts."""

import re
import unittest

from leastshelf.errors import BadBatch, BadLog
from leastshelf.logtexts import log_text, read_log
from samples import GREATEST_LETTER, ODD_VALUES, TOP, Raising, random_batch, seeded
from test_batches import BAD_STROKES

GREATEST = 999999999
BATCHES = [((0, 7, True, ()), (2, 3, False, (9, 9))), (), ((5, TOP, True, (0, GREATEST_LETTER, 10)), (0, 1, False, ()))]
TEXT = "4 ; 0 7 stone ; 2 3 part 9 9\n5\n6 ; 5 1000000 put 0 999999999 10 ; 0 1 part\n"

# lines that are no lines of a batch number and a batch
BAD_LINES = (
    "", " ", ";", " ; ", "0", "00", "01", "1000000000", "-1", "+1", "1.0", "a", "1 ", " 1", "1 ;", "1;", "1 ; ", "1 ;  ; ",
    "1 ; 0", "1 ; 0 2", "1 ; 0 2 ", "1 ; 0 2 put", "1 ; 0 2 put ", "1 ; 0 2 Put 5", "1 ; 0 2 putt 5", "1 ; 0 2 stone 5",
    "1 ; 0 2 stone ", "1 ; 0 2 part ", "1 ; 0 2 clear 5", "1 ; 0 2 5", "1 ; 0 2 part 05", "1 ; 0 2 part 00", "1 ; 00 2 part 5",
    "1 ; 0 02 part 5", "01 ; 0 2 part 5", "1 ; 0  2 part 5", "1 ; 0 2 part  5", "1  ; 0 2 part 5", "1 ;  0 2 part 5",
    "1 ; 0 2 part 5 ", "1 ; 0 2 part 5  6", "1 0 2 part 5", "1 ; 2 2 part 5", "1 ; 3 2 part 5", "1 ; 0 1000001 part 5",
    "1 ; -1 2 part 5", "1 ; 0 2 part -5", "1 ; 0 2 part 1000000000", "1 ; 0 2 part 5,6", "1 ; 0 2 part 5 ;", "1 ; 0 2 part 5 ; ",
    "1 ; 0 2 part 5 ; ; 0 2 part 5", "1 ; 0 2 part 5;0 2 part 6", "1 ; 0 2 part 5 0 2 part 6", "1 ; part 0 2 5", "one",
    "1 ; 0 2 part x", "1 ; 0 x part 5", "1 ; 0 2 PART 5", "1 ; 0 2 part 5.0", "1 ; (0, 2, False, (5,))", "1 1", "1 ; 1",
    "9" * 5000, "1 ; 0 2 part " + "9" * 5000, "1 ; 0 2 part 5 # 6", "1 ; 0 2 part 1_0", "1 ; 0 2 part 0x1", "~",
)


def slow_text(first, batches):
    """Returns the log text, as point 106 says it."""
    out = ""
    for at, batch in enumerate(batches):
        out += str(first + at)
        for a, b, clear, word in batch:
            name = "part" if not clear else "put" if len(word) else "stone"
            out += " ; " + str(a) + " " + str(b) + " " + name
            for letter in word:
                out += " " + str(letter)
        out += "\n"
    return out


class LogTextTest(Raising, unittest.TestCase):
    def test_point_106(self):
        self.assertEqual(log_text(4, BATCHES), TEXT)
        rng = seeded(106)
        for _ in range(60):
            batches = [random_batch(rng) for _ in range(rng.randrange(5))]
            first = rng.choice((1, 9, 99, 99999, GREATEST - 9))
            text = log_text(first, batches)
            self.assertEqual(text, slow_text(first, batches))
            self.assertEqual(log_text(first, tuple(list(batch) for batch in batches)), text)

    def test_no_batches_and_empty_ones(self):
        self.assertEqual((log_text(1, []), log_text(7, ()), log_text(GREATEST, [()])), ("", "", "999999999\n"))
        self.assertEqual(log_text(9, [(), [], ()]), "9\n10\n11\n")

    def test_words_stay_as_they_are(self):
        self.assertEqual(log_text(1, [[(0, 1, True, (3, 1, 3))]]), "1 ; 0 1 put 3 1 3\n")

    def test_bad_batches(self):
        good = (0, 1, True, (1,))
        for thing in ODD_VALUES + (3, "abc", {good: 1}):
            self.raised(BadBatch, [0], log_text, 1, [[good], thing, [None]])
        for thing in BAD_STROKES:
            self.raised(BadBatch, [0], log_text, 1, [(), [thing], None])
            self.raised(BadBatch, [2], log_text, 1, [[good], (good, good, thing, thing), [thing]])

    def test_arguments_stay(self):
        batches = [[(0, 1, True, (1,))], []]
        log_text(1, batches)
        self.assertEqual(batches, [[(0, 1, True, (1,))], []])


class ReadLogTest(Raising, unittest.TestCase):
    def test_point_107(self):
        told = read_log(TEXT)
        self.assertEqual(told, [(4, BATCHES[0]), (5, ()), (6, BATCHES[2])])
        self.assertIsInstance(told, list)
        self.assertTrue(all(isinstance(batch, tuple) for _, batch in told))
        rng = seeded(107)
        for _ in range(60):
            batches = [random_batch(rng) for _ in range(rng.randrange(5))]
            first = rng.choice((1, 9, 99, 99999, GREATEST - 9))
            said = [(first + at, batch) for at, batch in enumerate(batches)]
            self.assertEqual(read_log(log_text(first, batches)), said)

    def test_point_107_every_beginning(self):
        said = [(4, BATCHES[0]), (5, ()), (6, BATCHES[2])]
        for many in range(len(TEXT) + 1):
            self.assertEqual(read_log(TEXT[:many]), said[:TEXT[:many].count("\n")])
        # what stands behind the last line feed is not looked at
        for behind in ("7", "8 ; ", "nothing", " ", "4 ; 0 7 stone"):
            self.assertEqual(read_log(TEXT + behind), said)
            self.assertEqual(read_log(behind), [])

    def test_empty_texts(self):
        self.assertEqual((read_log(""), read_log("3"), read_log("1\n")), ([], [], [(1, ())]))
        self.raised(BadLog, [0], read_log, "\n")
        self.raised(BadLog, [0], read_log, "\n1\n")
        self.raised(BadLog, [1], read_log, "1\n\n")

    def test_first_numbers(self):
        for number in (1, 2, 10, 1000, GREATEST):
            self.assertEqual(read_log(str(number) + "\n"), [(number, ())])
        self.raised(BadLog, [1], read_log, "999999999\n1000000000\n")

    def test_bad_lines(self):
        for line in BAD_LINES:
            self.raised(BadLog, [0], read_log, line + "\n2\n")
            self.raised(BadLog, [0], read_log, line + "\n" + line + "\n")
            if not line.startswith("1"):
                self.raised(BadLog, [1], read_log, "5 ; 0 1 part\n" + line + "\n")
            self.raised(BadLog, [2], read_log, "5 ; 0 1 part\n6\n" + re.sub("^1", "7", line) + "\n8\n")
            self.assertEqual(read_log("5\n" + line), [(5, ())])

    def test_numbers_that_do_not_follow(self):
        for text, line in (("1\n3\n", 1), ("1\n1\n", 1), ("2\n1\n", 1), ("5\n6\n8\n9\n", 2), ("5\n6\n7\n7\n", 3), ("9\n09\n", 1),
                           ("1 ; 0 2 put 5\n3\n", 1), ("1\n2 ; 0 2 putt\n5\n", 1), ("1\n3 ; 0 2 putt\n5\n", 1)):
            self.raised(BadLog, [line], read_log, text)

    def test_one_character_more_or_less(self):
        # each text that differs in one character is another log text, or raises
        for at in range(len(TEXT)):
            for text in [TEXT[:at] + TEXT[at + 1:]] + [TEXT[:at] + more + TEXT[at:] for more in " ;0a\n"]:
                try:
                    told = read_log(text)
                except BadLog:
                    continue
                whole = text[:text.rfind("\n") + 1]
                self.assertEqual(log_text(told[0][0], [batch for _, batch in told]), whole)

    def test_example(self):
        text = log_text(4, [[(0, 7, True, ()), (2, 3, False, (9, 9))], []])
        self.assertEqual([text, read_log(text[:30])],
                         ["4 ; 0 7 stone ; 2 3 part 9 9\n5\n", [(4, ((0, 7, True, ()), (2, 3, False, (9, 9))))]])
        self.raised(BadLog, [1], read_log, "1 ; 0 2 put 5\n3\n")

    def test_results_are_new(self):
        read_log(TEXT).clear()
        self.assertEqual(len(read_log(TEXT)), 3)


if __name__ == "__main__":
    unittest.main()
