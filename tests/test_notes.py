"""Point 12: texts of tokens and logs, written and read."""

import random
import unittest
from itertools import product

from causalports.errors import BadText, BadToken
from causalports.notes import read, read_log, written, written_log
from cases import Case
from lives import random_life

NO_TOKENS = (
    None, True, False, 0, "", "0 0", [], [0, 0], (), (0,), (0,) * 6, (-1, 0), (0, -1), (1000, 0), (0, 1000),
    (True, 0), (0, False), (None, 0), ("0", 0), ([0], 0), (0, (0,)), (10 ** 5000, 0),
)

# No numbers of one to four figures, none needless.
NO_NUMBERS = (
    "", "x", "-", "--1", "+1", "00", "01", "007", "0000", "-0", "-00", "-01", "10000", "-10000", "99999", "00001",
    "1.0", "1e3", "1_0", "0x1", "1-", "1-2", "put", "None", "True", "\"1\"", "1,", "- 1", "~", "/", ":", "a1", "1a",
    "\u0663", "\u00b2", "1\u0663",
)
NUMBERS = ("0", "1", "9", "10", "99", "100", "999", "1000", "9999", "-1", "-9", "-10", "-999", "-1000", "-9999")

ROW = "put 0 1 0 0 1 0 30"
PUT = (0, 1, (0, 0), 1, 0, 30)
OTHER_ROW = "put 4 999 0 0 0 0 998 4995 5 -999"
OTHER_PUT = (4, 999, (0, 0, 0, 0, 998), 4995, 5, -999)


class TextsCase(Case):
    def refuse_row(self, row, text, asked=read_log):
        self.assertEqual(self.refuse(BadText, asked, text).row, row, text)


class Tokens(TextsCase):
    def test_written(self):
        for token, text in (
            ((0, 0), "0 0"),
            ((1, 20), "1 20"),
            ((999, 0, 999), "999 0 999"),
            ((1, 2, 3, 4), "1 2 3 4"),
            ((10, 0, 100, 5, 99), "10 0 100 5 99"),
        ):
            self.assertEqual(written(token), text)
            self.assertEqual(read(text), token)

    def test_what_is_written_is_read_to_the_same(self):
        for many in range(2, 6):
            for token in product((0, 1, 10, 999), repeat=many):
                self.assertEqual(read(written(token)), token)
                self.assertIsInstance(read(written(token)), tuple)
                self.assertEqual(written(read(written(token))), written(token))

    def test_what_is_no_token_is_not_written(self):
        for at, wrong in enumerate(NO_TOKENS):
            with self.subTest(at=at):
                self.refuse(BadToken, written, wrong)

    def test_numbers_that_are_no_token(self):
        for text in ("0", "999", "0 0 0 0 0 0", "1 2 3 4 5 6 7", "-1 0", "0 -1", "1000 0", "0 0 0 0 9999", "-9999 1",
                     " ".join(["1"] * 100)):
            self.refuse(BadToken, read, text)

    def test_what_is_no_number(self):
        for wrong in NO_NUMBERS:
            for text in (wrong, wrong + " 0", "0 " + wrong, "0 0 " + wrong + " 0", "1000 " + wrong,
                         "0 0 0 0 0 0 " + wrong):
                self.refuse_row(0, text, read)

    def test_empty_words(self):
        for text in ("", " ", "  ", " 0 0", "0 0 ", "0  0", "0 0  ", "0  0 0"):
            self.refuse_row(0, text, read)

    def test_line_ends(self):
        for text in ("\n", "0 0\n", "\n0 0", "0\n0", "0 0\n0 0", "0 \n0"):
            self.refuse_row(0, text, read)

    def test_a_row_of_a_log(self):
        self.refuse_row(0, ROW, read)

    def test_what_is_no_text(self):
        for wrong in (None, True, 0, (0, 0), [], ["0 0"]):
            self.refuse_row(0, wrong, read)
            self.refuse_row(0, wrong)


class Logs(TextsCase):
    def test_written(self):
        self.assertEqual(written_log([]), "")
        self.assertEqual(written_log([PUT]), ROW)
        self.assertEqual(written_log([PUT, OTHER_PUT]), ROW + "\n" + OTHER_ROW)

    def test_read(self):
        self.assertEqual(read_log(""), [])
        self.assertEqual(read_log(ROW), [PUT])
        self.assertEqual(read_log(OTHER_ROW + "\n" + ROW), [OTHER_PUT, PUT])

    def test_logs_of_whole_lives(self):
        for seed in range(60):
            life = random_life(seed, self, steps=40, checked=False)
            for port in life.sites:
                text = written_log(port.log())
                self.assertEqual(read_log(text), port.log())
                self.assertEqual(written_log(read_log(text)), text)

    def test_a_log_needs_not_be_one_that_can_be(self):
        for text, log in (
            (ROW + "\n" + ROW, [PUT, PUT]),
            (OTHER_ROW, [OTHER_PUT]),
            ("put 9999 9999 9999 9999 9999 9999 9999", [(9999, 9999, (9999, 9999), 9999, 9999, 9999)]),
            ("put -1 -2 -3 -4 -5 -6 -7 -8 -9 -9999", [(-1, -2, (-3, -4, -5, -6, -7), -8, -9, -9999)]),
            ("put 0 0 0 0 0 0 0", [(0, 0, (0, 0), 0, 0, 0)]),
            ("put 1 2 3 4 5 6 7 8", [(1, 2, (3, 4, 5), 6, 7, 8)]),
            ("put 1 2 3 4 5 6 7 8 9", [(1, 2, (3, 4, 5, 6), 7, 8, 9)]),
        ):
            self.assertEqual(read_log(text), log)
            self.assertEqual(written_log(log), text)

    def test_seven_to_ten_words_behind_the_first(self):
        for many in range(0, 16):
            text = " ".join(["put"] + ["1"] * many)
            if 7 <= many <= 10:
                self.assertEqual(read_log(text), [(1, 1, (1,) * (many - 5), 1, 1, 1)])
            else:
                self.refuse_row(0, text)
                self.refuse_row(1, ROW + "\n" + text + "\n" + ROW)

    def test_the_first_word(self):
        for word in ("", "Put", "PUT", "puts", "pu", "get", "0", "put0", "-put", "\"put\""):
            self.refuse_row(0, word + ROW[3:])
            self.refuse_row(2, ROW + "\n" + ROW + "\n" + word + ROW[3:])
        self.refuse_row(0, ROW[4:])
        self.refuse_row(0, "put " + ROW)
        self.refuse_row(0, "put\n" + ROW[4:])

    def test_each_word_that_is_no_number(self):
        for row, at, wrong in product((ROW, OTHER_ROW), range(10), NO_NUMBERS):
            words = row.split(" ")
            if at + 1 < len(words):
                words[at + 1] = wrong
                self.refuse_row(0, " ".join(words))
                self.refuse_row(1, row + "\n" + " ".join(words) + "\n\n")

    def test_each_word_that_is_a_number(self):
        for at, word in product(range(7), NUMBERS):
            words = ROW.split(" ")
            words[at + 1] = word
            put = read_log(" ".join(words))[0]
            self.assertEqual([put[0], put[1], *put[2], *put[3:]][at], int(word))

    def test_empty_words_and_rows(self):
        for text, row in (
            (" ", 0), ("\n", 0), ("\n\n", 0), (" " + ROW, 0), (ROW + " ", 0), (ROW.replace(" ", "  ", 1), 0),
            (ROW[:-2] + " " + ROW[-2:], 0), ("\n" + ROW, 0), (ROW + "\n", 1), (ROW + "\n\n" + ROW, 1),
            (ROW + "\n" + ROW + "\n", 2), (ROW + "\n " + ROW, 1), (ROW + " \n" + ROW, 0), (ROW + "\n ", 1),
            ("put", 0), ("put ", 0), ("put" + " " * 7, 0),
        ):
            self.refuse_row(row, text)

    def test_the_first_of_several_rows(self):
        for rows in product((ROW, "put", ""), repeat=4):
            wrong = [at for at, row in enumerate(rows) if row != ROW]
            if wrong:
                self.refuse_row(wrong[0], "\n".join(rows))
            else:
                self.assertEqual(read_log("\n".join(rows)), [PUT] * 4)

    def test_words_put_in_left_out_and_doubled(self):
        chance = random.Random(1)
        for _ in range(600):
            rows = [chance.choice((ROW, OTHER_ROW)) for _ in range(chance.randint(1, 5))]
            at = chance.randrange(len(rows))
            words = rows[at].split(" ")
            place = chance.randrange(len(words))
            step = chance.randrange(3)
            if step == 0:
                words.insert(place, chance.choice(("7", "put", "x", "")))
            elif step == 1:
                del words[place]
            else:
                words.insert(place, words[place])
            rows[at] = " ".join(words)
            is_plain = words[:1] == ["put"] and 8 <= len(words) <= 11 and all(
                word.lstrip("-").isdigit() for word in words[1:])
            if is_plain:
                self.assertEqual(written_log(read_log("\n".join(rows))), "\n".join(rows))
            else:
                self.refuse_row(at, "\n".join(rows))


class Changed(TextsCase):
    def test_what_is_told_may_be_changed_and_what_is_handed_in_stays(self):
        log = [PUT, OTHER_PUT]
        text = written_log(log)
        self.assertEqual(log, [PUT, OTHER_PUT])
        log.clear()
        told = read_log(text)
        told.clear()
        self.assertEqual(read_log(text), [PUT, OTHER_PUT])
        read_log("").append(PUT)
        self.assertEqual(read_log(""), [])


if __name__ == "__main__":
    unittest.main()
