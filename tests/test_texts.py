"""Point 25: claims, books and ladders as texts, and texts read."""

import re
import unittest

from sparecut.errors import NoText
from sparecut.texts import read_book, read_ladder, show_book, show_claim, show_ladder
from tests.helper import (
    ALL_SAYS, LADDER, asked_twice, chances, every_claim, some_book, some_dense_ladders, some_ladder,
    some_ladders,
)

WHOLE = "(?:0|[1-9][0-9]*)"


def claim_plainly(text):
    """The claim that a text writes, None where it writes none."""
    if text == "none":
        return ()
    if not re.fullmatch("-?[1-8](?: -?[1-8])*", text):
        return None
    says = [int(word) for word in text.split(" ")]
    return tuple(says) if says == sorted(says) and len({abs(say) for say in says}) == len(says) else None


def book_plainly(text):
    claims = [claim_plainly(part) for part in text.split(" / ")]
    return None if None in claims or len(claims) > 16 else tuple(claims)


def row_plainly(text, ahead):
    if re.fullmatch(f"book {WHOLE}", text) and int(text[5:]) < 16:
        return ("book", int(text[5:]))
    if re.fullmatch(f"cut {WHOLE} {WHOLE} [1-8]", text):
        one, other, k = (int(word) for word in text.split(" ")[1:])
        if one < ahead and other < ahead:
            return ("cut", one, other, k)
    return None


def ladder_plainly(text):
    rows = [row_plainly(part, ahead) for ahead, part in enumerate(text.split(" / "))]
    return None if None in rows or len(rows) > 200 else rows


def fault_at_plainly(text, read, ends):
    """The number of the first word that can't go on to anything that can be read, by trying ends behind it."""
    words = text.split(" ")
    for at in range(len(words)):
        begun = " ".join(words[:at + 1])
        if all(read(begun + end) is None for end in ends):
            return at
    return len(words)


def book_fault_plainly(text):
    return fault_at_plainly(text, book_plainly, ("", " none"))


def ladder_fault_plainly(text):
    return fault_at_plainly(text, ladder_plainly, ("", " 0", " book 0", " 0 0 1", " 0 1", " 1"))


class Asking(unittest.TestCase):
    def book(self, text):
        """The book that is read, after a look that it, or the place of the fault, is right; None where it is refused."""
        right = book_plainly(text)
        if right is None:
            with self.assertRaises(NoText) as caught:
                read_book(text)
            self.assertEqual(caught.exception.at, book_fault_plainly(text), repr(text))
            self.assertIs(type(caught.exception.at), int)
            return None
        told = asked_twice(self, read_book, text)
        self.assertEqual(told, right, repr(text))
        self.assertEqual(show_book(told), text)
        return told

    def ladder(self, text):
        right = ladder_plainly(text)
        if right is None:
            with self.assertRaises(NoText) as caught:
                read_ladder(text)
            self.assertEqual(caught.exception.at, ladder_fault_plainly(text), repr(text)[:400])
            self.assertIs(type(caught.exception.at), int)
            return None
        told = asked_twice(self, read_ladder, text)
        self.assertEqual(told, right, repr(text)[:400])
        self.assertIs(type(told), list)
        self.assertEqual(show_ladder(told), text)
        return told

    def no_book(self, text, at):
        self.assertIsNone(self.book(text))
        self.assertEqual(book_fault_plainly(text), at, repr(text))

    def no_ladder(self, text, at):
        self.assertIsNone(self.ladder(text))
        self.assertEqual(ladder_fault_plainly(text), at, repr(text)[:400])


class Showing(unittest.TestCase):
    def test_claims(self):
        self.assertEqual(show_claim(()), "none")
        self.assertEqual(show_claim((1,)), "1")
        self.assertEqual(show_claim((-8,)), "-8")
        self.assertEqual(show_claim((-3, 1, 2)), "-3 1 2")
        self.assertEqual(show_claim((-8, -6, -4, -2, 1, 3, 5, 7)), "-8 -6 -4 -2 1 3 5 7")

    def test_books(self):
        self.assertEqual(show_book(((),)), "none")
        self.assertEqual(show_book(((1, 2), (), (-1,))), "1 2 / none / -1")
        self.assertEqual(show_book(((1,),) * 16), " / ".join(["1"] * 16))

    def test_ladders(self):
        self.assertEqual(show_ladder([("book", 0)]), "book 0")
        self.assertEqual(show_ladder([("book", 15), ("book", 1), ("cut", 0, 1, 8)]), "book 15 / book 1 / cut 0 1 8")
        kept = list(LADDER)
        self.assertEqual(
            show_ladder(LADDER),
            "book 0 / book 1 / cut 0 1 1 / book 2 / cut 2 3 2 / book 3 / cut 4 5 3",
        )
        self.assertEqual(LADDER, kept)


class Books(Asking):
    TEXT = "-3 1 2 / none / -1 / none / 4 8"

    def test_what_is_shown_is_read_as_the_very_one(self):
        for number, chance in enumerate(chances(200)):
            book = some_book(chance, (2, 4, 8)[number % 3], (2, 8)[number % 2])
            self.assertEqual(self.book(show_book(book)), book)
            for claim in book:
                self.assertEqual(show_claim(claim), show_book((claim,)))
        for claim in every_claim(4):
            self.assertEqual(self.book(show_claim(claim)), (claim,))

    def test_no_signs_at_all(self):
        self.no_book("", 0)

    def test_blanks_ahead_behind_and_doubled(self):
        self.no_book(" ", 0)
        self.no_book(" 1", 0)
        self.no_book("1 ", 1)
        self.no_book("1  2", 1)
        self.no_book("none ", 1)
        self.no_book("1 /  2", 2)
        self.no_book("1  / 2", 1)
        self.no_book("1 / 2 ", 3)
        self.no_book("    ", 0)

    def test_other_signs(self):
        for text, at in (
            ("1\t2", 0), ("1\n", 0), ("\n", 0), ("1 2\n", 1), ("1 \n", 1), ("1 \t 2", 1), ("1\n/ 2", 0), ("none\n", 0),
            ("1 /\n2", 1), ("1/2", 0), ("1 /2", 1), ("1/ 2", 0), ("~", 0), ("1 ~", 1), ("1 //", 1), ("1,2", 0),
        ):
            self.no_book(text, at)

    def test_numbers_that_are_not_written_so(self):
        for word in (
            "0", "-0", "01", "+1", "-01", "00", "9", "-9", "10", "-10", "1.", "1.0", "--1", "- 1", "-", "+", "1-", "1e0",
            "one", "None", "NONE", "none1", "nonenone", "book", "True", "1_0", "0x1", "9" * 40, "-" + "9" * 40, "1" * 3990,
            "0" * 3990, "(1)", "\"1\"", "1\t", "\t1", "8.", "1/",
        ):
            self.no_book(word, 0)
            self.no_book(f"-5 {word}", 1)
            self.no_book(f"-5 / {word}", 2)
            self.no_book(f"-5 / {word} 7", 2)
            self.no_book(f"{word} / 2", 0)

    def test_the_place_of_a_say(self):
        self.no_book("2 1", 1)
        self.no_book("1 1", 1)
        self.no_book("-1 1", 1)
        self.no_book("-3 1 3", 2)
        self.no_book("-3 2 1 / 2 x", 2)
        self.no_book("1 8 8", 2)
        self.no_book("1 2 / 3 2", 4)
        self.no_book("1 2 / 2 1 / x", 4)
        self.assertEqual(self.book("1 / -1"), ((1,), (-1,)))
        self.assertEqual(self.book("8 / 1"), ((8,), (1,)))

    def test_none_beside_says(self):
        self.no_book("none 1", 1)
        self.no_book("1 none", 1)
        self.no_book("none none", 1)
        self.no_book("1 / none 2", 3)
        self.no_book("1 / 2 none", 3)
        self.assertEqual(self.book("none / none"), ((), ()))

    def test_strokes(self):
        self.no_book("/", 0)
        self.no_book("/ 1", 0)
        self.no_book("1 /", 2)
        self.no_book("1 / ", 2)
        self.no_book("1 / / 2", 2)
        self.no_book("1 / 2 /", 4)
        self.no_book("none /", 2)
        self.no_book("/ /", 0)
        self.no_book("1 / 2 / /", 4)

    def test_fifteen_to_seventeen_claims(self):
        for claim in ("1", "none", "-2 -1 4"):
            for many in (15, 16):
                self.assertEqual(len(self.book(" / ".join([claim] * many))), many)
                self.no_book(" / ".join([claim] * many) + " x", many * (len(claim.split(" ")) + 1) - 1)
            words = len(claim.split(" "))
            self.no_book(" / ".join([claim] * 17), 16 * (words + 1) - 1)
            self.no_book(" / ".join([claim] * 16) + " /", 16 * (words + 1) - 1)
            self.no_book(" / ".join([claim] * 15) + " /", 15 * (words + 1))
            self.no_book(" / ".join([claim] * 30), 16 * (words + 1) - 1)

    def test_each_word_left_out_put_in_exchanged_and_cut_off(self):
        words = self.TEXT.split(" ")
        self.assertIsNotNone(self.book(self.TEXT))
        for at in range(len(words) + 1):
            self.book(" ".join(words[:at]))
            self.book(" ".join(words[:at] + words[at + 1:]))
            self.book(" ".join(words[at:]))
            for word in ("", "/", "none", "0", "-0", "01", "+1", "9", "x", "book", *map(str, ALL_SAYS)):
                self.book(" ".join(words[:at] + [word] + words[at:]))
                self.book(" ".join(words[:at] + [word] + words[at + 1:]))

    def test_each_sign_left_out_or_exchanged(self):
        for at in range(len(self.TEXT)):
            self.book(self.TEXT[:at] + self.TEXT[at + 1:])
            self.book(self.TEXT[:at])
            for sign in " /-0189n\t\n~":
                self.book(self.TEXT[:at] + sign + self.TEXT[at + 1:])
                self.book(self.TEXT[:at] + sign + self.TEXT[at:])

    def test_spoilt_by_chance(self):
        seen = [0, 0]
        for number, chance in enumerate(chances(400)):
            book = some_book(chance, (3, 8)[number % 2], 4, chance.choice((1, 2, 4, 14, 16)))
            for turn in range(8):
                text = spoilt_text(chance, show_book(book), BOOK_WORDS, chance.choice((1, 1, 2, 3)))
                seen[self.book(text) is None] += 1
        self.assertGreater(seen[0], 200)
        self.assertGreater(seen[1], 1000)


BOOK_WORDS = ["", "/", "none", "0", "-0", "01", "+1", "9", "\n", *map(str, ALL_SAYS)]
LADDER_WORDS = ["", "/", "book", "cut", "-0", "01", "+1", "none", "\t", "200", "199", *map(str, range(-1, 18))]


def spoilt_text(chance, text, other_words, places):
    """The text with words left out, put in, exchanged or cut off at so many places."""
    words = text.split(" ")
    for turn in range(places):
        at = chance.randrange(len(words))
        way = chance.randrange(6)
        if way == 0 and len(words) > 1:
            del words[at]
        elif way == 1:
            words.insert(at, chance.choice(other_words))
        elif way == 2:
            words[at] = chance.choice(other_words)
        elif way == 3:
            words = words[:at + 1]
        elif way == 4:
            other = chance.randrange(len(words))
            words[at], words[other] = words[other], words[at]
        else:
            words.append(chance.choice(other_words))
    return " ".join(words)


class Ladders(Asking):
    TEXT = "book 0 / book 15 / cut 0 1 1 / cut 2 0 8 / book 3 / cut 4 4 3"

    def test_what_is_shown_is_read_as_the_very_one(self):
        for book, ladder in [*some_ladders(), *some_dense_ladders()[::4]]:
            self.assertEqual(self.ladder(show_ladder(ladder)), ladder)

    def test_whether_they_can_be_cut_is_not_looked_at(self):
        self.assertEqual(self.ladder("book 7 / cut 0 0 5"), [("book", 7), ("cut", 0, 0, 5)])
        self.assertIsNotNone(self.ladder(self.TEXT))

    def test_no_signs_at_all(self):
        self.no_ladder("", 0)

    def test_blanks_ahead_behind_and_doubled(self):
        self.no_ladder(" ", 0)
        self.no_ladder(" book 0", 0)
        self.no_ladder("book  0", 1)
        self.no_ladder("book 0 ", 2)
        self.no_ladder("book 0  / book 1", 2)
        self.no_ladder("book 0 /  book 1", 3)
        self.no_ladder("book 0 / cut 0  0 1", 5)
        self.no_ladder("book 0 / cut 0 0 1 ", 7)

    def test_other_signs(self):
        for text, at in (
            ("book\t0", 0), ("book 0\n", 1), ("\n", 0), ("book\n0", 0), ("book 0\t/ book 1", 1), ("book 0 /\nbook 1", 2),
            ("book0", 0), ("book 0/ book 1", 1), ("book 0, book 1", 1), ("Book 0", 0), ("BOOK 0", 0), ("books 0", 0),
            ("row 0", 0), ("none", 0), ("0", 0), ("book 0 / Cut 0 0 1", 3), ("book 0 / cut0 0 1", 3),
        ):
            self.no_ladder(text, at)

    def test_numbers_of_claims(self):
        for number in range(16):
            self.assertEqual(self.ladder(f"book {number}"), [("book", number)])
        for word in ("16", "17", "-1", "-0", "00", "01", "015", "+1", "none", "x", "book", "/", "1.0", "9" * 40, "1" * 3900):
            self.no_ladder(f"book {word}", 1)
            self.no_ladder(f"book 1 / book {word} / book 1", 4)

    def test_a_cut_as_the_first_row(self):
        self.no_ladder("cut", 0)
        self.no_ladder("cut 0", 0)
        self.no_ladder("cut 0 0 1", 0)
        self.no_ladder("cut 0 1 1 / book 0", 0)
        self.no_ladder("book 0 / cut", 4)

    def test_numbers_of_rows_that_are_not_ahead(self):
        self.no_ladder("book 0 / cut 1 0 1", 4)
        self.no_ladder("book 0 / cut 0 1 1", 5)
        self.no_ladder("book 0 / cut 1 1 1", 4)
        self.no_ladder("book 0 / book 1 / cut 0 2 1", 8)
        self.no_ladder("book 0 / book 1 / cut 2 0 1 / book 2", 7)
        self.no_ladder("book 0 / book 1 / cut 200 0 1", 7)
        for word in ("-1", "-0", "00", "+0", "01", "1", "x", "", "/", "none", "9" * 40):
            self.no_ladder(f"book 0 / cut {word} 0 1", 4)
            self.no_ladder(f"book 0 / cut 0 {word} 1", 5)

    def test_numbers_of_things(self):
        for k in range(1, 9):
            self.assertEqual(self.ladder(f"book 0 / cut 0 0 {k}"), [("book", 0), ("cut", 0, 0, k)])
        for word in ("0", "9", "-1", "-0", "01", "+1", "", "/", "x", "10", "80"):
            self.no_ladder(f"book 0 / cut 0 0 {word}", 6)

    def test_cut_off(self):
        self.no_ladder("book", 1)
        self.no_ladder("book 0 /", 3)
        self.no_ladder("book 0 / book", 4)
        self.no_ladder("book 0 / cut 0", 5)
        self.no_ladder("book 0 / cut 0 0", 6)
        self.no_ladder("book 0 / cut 0 0 1 /", 8)

    def test_strokes(self):
        self.no_ladder("/", 0)
        self.no_ladder("/ book 0", 0)
        self.no_ladder("book / 0", 1)
        self.no_ladder("book 0 / / book 1", 3)
        self.no_ladder("book 0 /", 3)
        self.no_ladder("book 0 book 1", 2)
        self.no_ladder("book 0 / cut 0 0 / 1", 6)

    def test_words_too_many(self):
        self.no_ladder("book 0 0", 2)
        self.no_ladder("book 0 / cut 0 0 1 1", 7)
        self.no_ladder("book 0 / cut 0 0 1 / cut 0 0 1 2 / book 1", 12)

    def test_199_to_201_rows(self):
        for rows in (["book 0"], ["book 0", "cut 0 0 1"]):
            for many in (199, 200):
                text = " / ".join((rows * 210)[:many])
                self.assertEqual(len(self.ladder(text)), many)
                self.no_ladder(text + " x", len(text.split(" ")))
            text = " / ".join((rows * 210)[:200])
            self.no_ladder(" / ".join((rows * 210)[:201]), len(text.split(" ")))
            self.no_ladder(text + " /", len(text.split(" ")))
            text = " / ".join((rows * 210)[:199])
            self.no_ladder(text + " /", len(text.split(" ")) + 1)
        text = " / ".join(["book 0"] + ["cut 0 0 1"] * 198 + ["cut 198 198 8"])
        self.assertEqual(self.ladder(text)[-1], ("cut", 198, 198, 8))
        self.no_ladder(text.replace("198 198", "198 199"), len(text.split(" ")) - 2)
        self.no_ladder(text.replace("198 198", "199 198"), len(text.split(" ")) - 3)

    def test_each_word_left_out_put_in_exchanged_and_cut_off(self):
        words = self.TEXT.split(" ")
        for at in range(len(words) + 1):
            self.ladder(" ".join(words[:at]))
            self.ladder(" ".join(words[:at] + words[at + 1:]))
            self.ladder(" ".join(words[at:]))
            for word in LADDER_WORDS:
                self.ladder(" ".join(words[:at] + [word] + words[at:]))
                self.ladder(" ".join(words[:at] + [word] + words[at + 1:]))

    def test_each_sign_left_out_or_exchanged(self):
        for at in range(len(self.TEXT)):
            self.ladder(self.TEXT[:at] + self.TEXT[at + 1:])
            self.ladder(self.TEXT[:at])
            for sign in " /-01689bc\t\n~":
                self.ladder(self.TEXT[:at] + sign + self.TEXT[at + 1:])
                self.ladder(self.TEXT[:at] + sign + self.TEXT[at:])

    def test_spoilt_by_chance(self):
        seen = [0, 0]
        for number, chance in enumerate(chances(300)):
            book = some_book(chance, 4, 3, 16)
            ladder = some_ladder(chance, book, chance.choice((1, 2, 3, 6, 15)))
            for turn in range(8):
                text = spoilt_text(chance, show_ladder(ladder), LADDER_WORDS, chance.choice((1, 1, 2, 3)))
                seen[self.ladder(text) is None] += 1
        self.assertGreater(seen[0], 100)
        self.assertGreater(seen[1], 1000)


if __name__ == "__main__":
    unittest.main()
