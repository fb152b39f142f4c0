"""Point 26: the desk."""

import unittest

from sparecut.desk import Desk
from sparecut.errors import NoBack, NoLadder, NoRow, NoText, SpareError, TooMany
from tests.helper import (
    BOOK, CHAIN_BOOK, LADDER, ROUND, chain_ladder, chances, claims_plainly, doubling_ladder, every_claim, fault_plainly,
    follows_plainly, how_many_cuts_plainly, look_at_shorter, picked_plainly, some_book, some_ladder, some_ladders,
    some_short_book, some_wide_claim, under_plainly,
)

OF_LADDERS = ("claim", "show", "rows", "cuts", "height", "pieces", "floor")
SHORTENINGS = ("trim", "once", "bare", "off")
SOME_CLAIMS = ((), (1,), (-1,), (2,), (1, 2), (-2, 1), (3,), (-4, 2, 3), (1, 2, 3, 4, 5, 6, 7, 8))


def claim_text(claim):
    return " ".join(str(say) for say in claim) or "none"


def book_text(book):
    return " / ".join(claim_text(claim) for claim in book)


def ladder_text(ladder):
    return " / ".join(" ".join(str(part) for part in row) for row in ladder)


def rows_by_text(text):
    """The rows that a ladder's text shows."""
    return [(word, *map(int, numbers)) for word, *numbers in (row.split(" ") for row in text.split(" / "))]


def answer(desk, row):
    """The answer, or the class of the refusal with its field at, where it has one."""
    try:
        return desk.say(row)
    except SpareError as refusal:
        return type(refusal), getattr(refusal, "at", None)


def all_answers(desk):
    """What a desk answers to all rows that turn nothing, but for most claims."""
    rows = (*OF_LADDERS, "follows 1", "follows none", "core 2 3")
    return [answer(desk, row) for row in rows]


def heights_plainly(ladder):
    told = []
    for row in ladder:
        told.append(0 if row[0] == "book" else 1 + max(told[row[1]], told[row[2]]))
    return told


def pieces_of_plainly(ladder):
    told = []
    for row in ladder:
        told.append(1 if row[0] == "book" else 1 + told[row[1]] + told[row[2]])
    return told[-1]


class Asking(unittest.TestCase):
    def refused(self, refusal, desk, row, at=None):
        """Looks that the row is refused so, and that behind it all is answered as ahead of it."""
        before = all_answers(desk)
        with self.assertRaises(refusal) as caught:
            desk.say(row)
        self.assertIs(type(caught.exception), refusal, row)
        self.assertEqual(getattr(caught.exception, "at", None), at, row)
        self.assertEqual(all_answers(desk), before)

    def desk(self, book=None, ladder=None):
        desk = Desk()
        if book is not None:
            self.assertEqual(desk.say(f"book {book_text(book)}"), "ok")
        if ladder is not None:
            self.assertEqual(desk.say(f"ladder {ladder_text(ladder)}"), "ok")
        return desk

    def look_at_ladder(self, desk, book, ladder):
        """Looks at what is answered of a ladder."""
        claim = claims_plainly(book, ladder)[-1]
        self.assertEqual(desk.say("claim"), claim_text(claim))
        self.assertEqual(desk.say("show"), ladder_text(ladder))
        self.assertEqual(desk.say("rows"), str(len(ladder)))
        self.assertEqual(desk.say("cuts"), str(how_many_cuts_plainly(ladder)))
        self.assertEqual(desk.say("height"), str(heights_plainly(ladder)[-1]))
        self.assertEqual(desk.say("pieces"), str(pieces_of_plainly(ladder)))
        if len(book) > 10:
            with self.assertRaises(TooMany):
                desk.say("floor")
        else:
            self.assertIn(int(desk.say("floor")), range(1, 2 * len(book), 2))
            self.assertLessEqual(int(desk.say("floor")), len(ladder))

    def look_at_claims(self, desk, book):
        """Looks at what is answered of some claims."""
        for claim in SOME_CLAIMS:
            right = follows_plainly(book, claim)
            self.assertEqual(desk.say(f"follows {claim_text(claim)}"), "yes" if right else "no")
            told = desk.say(f"core {claim_text(claim)}")
            if not right:
                self.assertEqual(told, "no")
                continue
            numbers = [int(word) for word in told.split(" ")]
            self.assertEqual(" ".join(str(number) for number in sorted(set(numbers))), told)
            self.assertTrue(follows_plainly([book[number] for number in numbers], claim))
            for number in numbers:
                part = [book[other] for other in numbers if other != number]
                self.assertFalse(follows_plainly(part, claim))


class Rows(Asking):
    def test_a_book_and_a_ladder(self):
        desk = self.desk(BOOK, LADDER)
        self.look_at_ladder(desk, BOOK, LADDER)
        self.look_at_claims(desk, BOOK)
        self.assertEqual(desk.say("claim"), "none")
        self.assertEqual(desk.say("height"), "3")
        self.assertEqual(desk.say("pieces"), "7")
        self.assertEqual(desk.say("floor"), "1")

    def test_floors(self):
        book = ((1, 2), (-1, 2), (-2, 3), (5,))
        desk = self.desk(book, [("book", 0), ("book", 1), ("cut", 0, 1, 1), ("book", 2), ("cut", 2, 3, 2)])
        self.assertEqual(desk.say("claim"), "3")
        self.assertEqual(desk.say("floor"), "5")
        desk.say("ladder book 0")
        self.assertEqual(desk.say("floor"), "1")

    def test_claims_that_follow_and_their_cores(self):
        desk = self.desk(((1, 2), (5,), (-2, 1), (6,)))
        for row, right in (
            ("follows 1", "yes"), ("follows 2", "no"), ("follows none", "no"), ("follows 1 3", "yes"), ("core 1", "0 2"),
            ("core 2", "no"), ("core none", "no"), ("core 5 7", "1"), ("follows -8 6", "yes"), ("core 6", "3"),
        ):
            self.assertEqual(desk.say(row), right)
        desk = self.desk(((1,), (-1,)))
        self.assertEqual(desk.say("follows none"), "yes")
        self.assertEqual(desk.say("core none"), "0 1")
        self.assertEqual(desk.say("core -8 -7"), "0 1")
        self.assertEqual(self.desk(((),)).say("core none"), "0")

    def test_another_book_takes_the_ladder_away(self):
        desk = self.desk(BOOK, LADDER)
        self.assertEqual(desk.say("book 1 / -1"), "ok")
        for row in (*OF_LADDERS, *SHORTENINGS):
            self.refused(NoRow, desk, row)
        self.assertEqual(desk.say("follows 5"), "yes")
        # The very same book, too.
        desk = self.desk(BOOK, LADDER)
        desk.say(f"book {book_text(BOOK)}")
        self.refused(NoRow, desk, "show")

    def test_another_ladder(self):
        desk = self.desk(BOOK, LADDER)
        self.assertEqual(desk.say("ladder book 6"), "ok")
        self.look_at_ladder(desk, BOOK, [("book", 6)])
        self.assertEqual(desk.say("ladder book 0 / book 1 / cut 0 1 1"), "ok")
        self.assertEqual(desk.say("claim"), "2")

    def test_great_numbers_of_pieces(self):
        ladder = doubling_ladder(200)
        desk = self.desk(ROUND[:10] + ROUND[10:], ladder)
        self.look_at_ladder(desk, ROUND, ladder)
        self.assertGreater(int(desk.say("pieces")), 10 ** 9)

    def test_a_book_of_more_than_ten_claims_has_no_floor(self):
        for many in (10, 11, 16):
            desk = self.desk(((1,),) * many, [("book", 0)])
            if many == 10:
                self.assertEqual(desk.say("floor"), "1")
            else:
                self.refused(TooMany, desk, "floor")

    def test_many_ladders(self):
        for book, ladder in some_ladders()[::3]:
            self.look_at_ladder(self.desk(book, ladder), book, ladder)
        for number, chance in enumerate(chances(12)):
            book = some_book(chance, 4, 3)
            self.look_at_claims(self.desk(book), book)


class Shortening(Asking):
    def told(self, book, ladder, word):
        """The ladder behind the word, after a look at it."""
        desk = self.desk(book, ladder)
        self.assertEqual(desk.say(word), "ok")
        told = rows_by_text(desk.say("show"))
        look_at_shorter(self, book, ladder, told)
        self.look_at_ladder(desk, book, told)
        self.assertEqual(desk.say("back"), "ok")
        self.assertEqual(desk.say("show"), ladder_text(ladder))
        return told

    def test_each_as_its_stage_tells(self):
        book = ((1, 2), (-1, 2), (-2, 3), (2,))
        ladder = [
            ("book", 2), ("book", 0), ("book", 0), ("book", 1), ("cut", 1, 3, 1), ("cut", 2, 3, 1), ("book", 1),
            ("cut", 5, 0, 2),
        ]
        self.assertEqual(
            self.told(book, ladder, "trim"),
            [("book", 2), ("book", 0), ("book", 1), ("cut", 1, 2, 1), ("cut", 3, 0, 2)],
        )
        self.assertEqual(
            self.told(book, ladder[:3] + ladder[3:], "once"),
            [("book", 2), ("book", 0), ("book", 1), ("cut", 1, 2, 1), ("cut", 3, 0, 2)],
        )
        self.assertEqual(sorted(self.told(book, ladder, "bare"))[:2], [("book", 2), ("book", 3)])
        book = ((1,), (-1, 2, 3), (-3, 4))
        ladder = [("book", 0), ("book", 1), ("cut", 0, 1, 1), ("book", 2), ("cut", 2, 3, 3)]
        told = self.told(book, ladder, "off")
        self.assertEqual((len(told), told[-1][3]), (5, 1))

    def test_two_hundred_rows(self):
        for word in SHORTENINGS:
            self.told(CHAIN_BOOK, chain_ladder(200), word)

    def test_by_chance(self):
        for number, chance in enumerate(chances(60)):
            book = some_short_book(chance, number)
            ladder = some_ladder(chance, book, chance.randint(1, 40))
            for word in SHORTENINGS:
                told = self.told(book, ladder, word)
                needed = under_plainly(ladder, len(ladder) - 1)
                if word == "trim":
                    self.assertEqual(told, picked_plainly(ladder, needed, list(range(len(ladder)))))
                if word == "once":
                    claims = claims_plainly(book, told)
                    self.assertEqual(claims[-1], claims_plainly(book, ladder)[-1])
                    self.assertEqual(len(set(claims)), len(claims))


class Refusing(Asking):
    WRONG_ROWS = (
        "", " ", "  ", "claims", "Claim", "CLAIM", "claim ", " claim", "claim  ", "claim 1", "claim\n", "claim\t", "show ",
        "show 1", " show", "rows ", "rows rows", "cuts cuts", "cuts ", "height 1", "height ", "pieces ", "pieces 14",
        "floor ", "floor 1", "trim ", "trim 1", "once ", "once once", "bare ", "bare bare", "off ", "off 1", "back ",
        "back back", "back 1", " back", "Back", "book", "ladder", "books", " book 1", " ladder book 0", "Book 1",
        "LADDER book 0", "follows", "follows ", "follows  ", "follows 1 ", "follows  1", "follows 0", "follows -0",
        "follows 01", "follows +1", "follows 2 1", "follows -1 1", "follows 1 1", "follows 9", "follows none none",
        "follows none 1", "follows 1 none", "follows 1 / 2", "follows /", "follows 1 /", "follows x", "follows ()",
        "core", "core ", "core 1 ", "core  1", "core 0", "core 9", "core 2 1", "core -1 1", "core none 1", "core 1 / 2",
        "core x", "core\t1", "follows\t1", "follow 1", "cores 1", "none", "1", "cut 0 1 1", "/", "ok", "yes", "book\t1",
        "ladder\nbook 0", "~", "x " * 50, "claim show", "trim once", "height\n", "floor\t", "off\n", "say", "go_back",
    )

    def test_rows_that_are_none_by_their_words(self):
        for desk in (self.desk(), self.desk(BOOK), self.desk(BOOK, LADDER)):
            for row in self.WRONG_ROWS:
                self.refused(NoRow, desk, row)

    def test_ahead_of_any_book(self):
        desk = self.desk()
        for row in (
            *OF_LADDERS, *SHORTENINGS, "follows 1", "follows none", "core 1", "core none", "ladder book 0", "ladder ",
            "ladder x", "ladder cut 0 1 1", "ladder  book 0",
        ):
            self.refused(NoRow, desk, row)
        self.refused(NoBack, desk, "back")

    def test_ahead_of_any_ladder(self):
        desk = self.desk(BOOK)
        for row in (*OF_LADDERS, *SHORTENINGS):
            self.refused(NoRow, desk, row)
        self.assertEqual(desk.say("follows none"), "yes")

    def test_no_ladder_and_no_floor_at_once(self):
        self.refused(NoRow, self.desk(((1,),) * 16), "floor")

    def test_books_that_are_no_text(self):
        for desk in (self.desk(), self.desk(BOOK), self.desk(BOOK, LADDER)):
            for row, at in (
                ("book ", 1), ("book  1", 1), ("book  ", 1), ("book 1 ", 2), ("book 0", 1), ("book 1 2 1", 3), ("book x", 1),
                ("book none 1", 2), ("book 1 /", 3), ("book 1 / ", 3), ("book / 1", 1), ("book 1 / / 2", 3), ("book 01", 1),
                ("book -0", 1), ("book 1\n", 1), ("book book 1", 1), ("book 1 / book 2", 3), ("book (1, 2)", 1),
                ("book " + " / ".join(["1"] * 17), 32), ("book " + " / ".join(["none"] * 16) + " /", 32),
            ):
                self.refused(NoText, desk, row, at)

    def test_ladders_that_are_no_text(self):
        for desk in (self.desk(BOOK), self.desk(BOOK, LADDER)):
            for row, at in (
                ("ladder ", 1), ("ladder  book 0", 1), ("ladder book", 2), ("ladder book 0 ", 3), ("ladder book 0 /", 4),
                ("ladder book 16", 2), ("ladder cut 0 1 1", 1), ("ladder book 0 / cut 0 1 1", 6), ("ladder 1", 1),
                ("ladder none", 1), ("ladder book 0 / cut 0 0 9", 7), ("ladder book 0\n", 2), ("ladder book 00", 2),
                ("ladder " + " / ".join(["book 0"] * 201), 600), ("ladder ladder book 0", 1),
            ):
                self.refused(NoText, desk, row, at)

    def test_ladders_that_are_none(self):
        for desk in (self.desk(BOOK), self.desk(BOOK, LADDER)):
            for row, at in (
                ("ladder book 7", 0), ("ladder book 15", 0), ("ladder book 0 / book 7", 1), ("ladder book 0 / cut 0 0 1", 1),
                ("ladder book 0 / book 1 / cut 1 0 1", 2), ("ladder book 0 / book 1 / cut 0 1 2", 2),
                ("ladder book 0 / book 1 / cut 0 1 1 / cut 2 0 1 / book 9", 3),
            ):
                self.refused(NoLadder, desk, row, at)

    def test_no_text_goes_ahead_of_no_ladder(self):
        for desk in (self.desk(BOOK), self.desk(BOOK, LADDER)):
            self.refused(NoText, desk, "ladder book 7 / x", 4)
            self.refused(NoText, desk, "ladder book 0 / cut 0 0 1 /", 9)
            self.refused(NoText, desk, "ladder book 9 ", 3)
            self.refused(NoText, desk, "ladder book 9 / cut 0 0 0", 7)

    def test_a_ladder_by_another_book_is_none(self):
        desk = self.desk(BOOK, LADDER)
        desk.say("book 1 / -1")
        self.refused(NoLadder, desk, f"ladder {ladder_text(LADDER)}", 3)
        self.assertEqual(desk.say("ladder book 0 / book 1 / cut 0 1 1"), "ok")


class GoingBack(Asking):
    def test_ahead_of_all(self):
        self.refused(NoBack, self.desk(), "back")

    def test_behind_a_book(self):
        desk = self.desk(BOOK)
        self.assertEqual(desk.say("back"), "ok")
        self.refused(NoRow, desk, "follows 1")
        self.refused(NoBack, desk, "back")

    def test_behind_a_ladder(self):
        desk = self.desk(BOOK, LADDER)
        self.assertEqual(desk.say("back"), "ok")
        self.refused(NoRow, desk, "show")
        self.assertEqual(desk.say("follows none"), "yes")
        self.assertEqual(desk.say("back"), "ok")
        self.refused(NoRow, desk, "follows none")
        self.refused(NoBack, desk, "back")

    def test_behind_a_book_the_ladder_is_there_again(self):
        desk = self.desk(BOOK, LADDER)
        desk.say("book 5")
        self.assertEqual(desk.say("back"), "ok")
        self.look_at_ladder(desk, BOOK, LADDER)
        self.look_at_claims(desk, BOOK)

    def test_behind_the_same_ladder(self):
        desk = self.desk(BOOK, LADDER)
        before = all_answers(desk)
        bare = self.desk(BOOK, [("book", 6)])
        for word in SHORTENINGS:
            self.assertEqual(bare.say(word), "ok")
            self.assertEqual(bare.say("show"), "book 6")
        for word in SHORTENINGS:
            self.assertEqual(bare.say("back"), "ok")
            self.assertEqual(bare.say("show"), "book 6")
        self.assertEqual(bare.say("back"), "ok")
        self.refused(NoRow, bare, "show")
        desk.say(f"ladder {ladder_text(LADDER)}")
        desk.say("back")
        self.assertEqual(all_answers(desk), before)

    def test_rows_that_turn_nothing_are_not_gone_back_behind(self):
        desk = self.desk(BOOK, LADDER)
        for row in ("claim", "show", "rows", "follows 1", "core none", "height"):
            desk.say(row)
        self.assertEqual(desk.say("back"), "ok")
        self.refused(NoRow, desk, "show")

    def test_behind_refused_rows(self):
        desk = self.desk(BOOK, LADDER)
        for row in ("x", "book ", "ladder ", "ladder book 7", "trim ", "follows 0", "back ", "book 1 1"):
            with self.assertRaises(SpareError):
                desk.say(row)
        self.assertEqual(desk.say("back"), "ok")
        self.refused(NoRow, desk, "show")
        self.assertEqual(desk.say("follows none"), "yes")

    def test_a_turn_behind_going_back(self):
        desk = self.desk(BOOK, LADDER)
        desk.say("trim")
        desk.say("back")
        desk.say("ladder book 6")
        self.assertEqual(desk.say("back"), "ok")
        self.assertEqual(desk.say("show"), ladder_text(LADDER))
        self.assertEqual(desk.say("back"), "ok")
        self.refused(NoRow, desk, "show")

    def test_two_desks_side_by_side(self):
        one, other = Desk(), Desk()
        one.say(f"book {book_text(BOOK)}")
        self.refused(NoBack, other, "back")
        self.refused(NoRow, other, "follows 1")
        other.say("book 1")
        one.say(f"ladder {ladder_text(LADDER)}")
        self.refused(NoRow, other, "show")
        other.say("ladder book 0")
        one.say("trim")
        self.look_at_ladder(other, ((1,),), [("book", 0)])
        self.look_at_ladder(one, BOOK, LADDER)
        for turn in range(2):
            self.assertEqual(other.say("back"), "ok")
        self.refused(NoBack, other, "back")
        self.look_at_ladder(one, BOOK, LADDER)
        for turn in range(3):
            self.assertEqual(one.say("back"), "ok")
        self.refused(NoBack, one, "back")

    def some_row(self, chance, book):
        """A row by chance, often one that is refused."""
        way = chance.randrange(10)
        if way == 0 or book is None and way < 7:
            new = tuple(some_wide_claim(chance, 4, 1) for turn in range(chance.randint(1, 12)))
            return f"book {book_text(new)}"
        if way < 4 and book is not None:
            return f"ladder {ladder_text(some_ladder(chance, book, chance.randint(1, 12)))}"
        if way < 7:
            return chance.choice(SHORTENINGS)
        if way == 7:
            return "back"
        return chance.choice((
            "x", "book ", "book 0", "ladder ", "ladder book 15", "ladder cut 0 0 1", "trim ", "floor", "claim", "core 1",
            "ladder book 0 / cut 0 0 1", "follows none", "back ", "core 0", "book 1 /", "follows 1 ",
        ))

    def test_behind_many_rows_as_often_as_there_is_something(self):
        backs = 0
        for chance in chances(40):
            desk, books, states = Desk(), [None], [all_answers(Desk())]
            for turn in range(chance.choice((3, 10, 25))):
                row = self.some_row(chance, books[-1])
                told = answer(desk, row)
                if row == "back":
                    backs += 1
                    self.assertEqual(told, "ok" if len(states) > 1 else (NoBack, None))
                    if told == "ok":
                        states.pop()
                        books.pop()
                elif told == "ok":
                    new = row.split(" ", 1)[1] if row.startswith("book") else None
                    claims = tuple(
                        tuple(int(word) for word in part.split(" ")) for part in new.split(" / ")
                    ) if new else books[-1]
                    books.append(claims)
                    states.append(all_answers(desk))
                    if not new:
                        self.assertIsNone(fault_plainly(claims, rows_by_text(desk.say("show"))))
                self.assertEqual(all_answers(desk), states[-1], row)
            while len(states) > 1:
                states.pop()
                self.assertEqual(desk.say("back"), "ok")
                self.assertEqual(all_answers(desk), states[-1])
            self.refused(NoBack, desk, "back")
        self.assertGreater(backs, 30)


class Showing(Asking):
    def test_a_ladder_read_from_what_is_shown_is_the_very_one(self):
        for number, chance in enumerate(chances(30)):
            book = some_short_book(chance, number)
            desk = self.desk(book, some_ladder(chance, book, chance.randint(1, 30)))
            for word in ("trim", "bare"):
                text = desk.say("show")
                self.assertEqual(desk.say(f"ladder {text}"), "ok")
                self.assertEqual(desk.say("show"), text)
                desk.say(word)

    def test_a_claim_from_what_is_told_follows(self):
        for book, ladder in some_ladders()[::4]:
            desk = self.desk(book, ladder)
            self.assertEqual(desk.say("follows " + desk.say("claim")), "yes")

    def test_every_claim_of_three_things(self):
        desk = self.desk(((1, 2), (-2, 3), (-3, 1)))
        for claim in every_claim(3):
            right = follows_plainly(((1, 2), (-2, 3), (-3, 1)), claim)
            self.assertEqual(desk.say(f"follows {claim_text(claim)}"), "yes" if right else "no")


if __name__ == "__main__":
    unittest.main()
