"""Point 10: quays written as texts, and read again."""

import unittest

from berthrow.books import read, written
from berthrow.errors import NoRoom, NoText, NoWish, Taken
from berthrow.quays import Quay, Round
from plain import mixed, name_of, no_numbers, told

KINDS = [Quay, Round]
HEADS = {Quay: "quay", Round: "round"}

# Words that are no number from 1 to 400 in figures.
NO_NUMBERS = [
    "", "0", "00", "01", "007", "0400", "401", "402", "999", "1000", "4000", "-1", "+1", "-0", "1.0", "1.",
    "1e2", "1_0", "0x1", "0b1", "a", "one", "1a", "a1", "True", "None", "1,2", "1/1", "1:", "/", ":", "!1",
    "9" * 5000, "1" * 61, "1\t", "\t1",
]
# Words that are no name.
BAD_NAMES = [
    "", "A", "Ab", "aB", "abcdefghi", "a" * 400, "1", "12", "a1", "1a", "a-b", "a_b", "a.", "`", "{", "@", "[", "a\t",
]


def mixed_quay(kind, berths, steps, seed):
    """A quay behind comings and departures that follow no plain pattern."""
    quay = kind(berths)
    for number, wish in enumerate(mixed(berths, steps, seed)):
        told(quay.come, name_of(number), wish)
        ships = quay.all_ships()
        if number % 4 == 3 and ships:
            quay.leave(ships[number % len(ships)][0])
    return quay


def shown(quay):
    return type(quay), quay.kind(), quay.size(), quay.all_ships(), quay.free_ones()


class TestWritten(unittest.TestCase):

    def test_by_hand(self):
        for kind, head in HEADS.items():
            quay = kind(12)
            self.assertEqual(written(quay), f"{head} 12\n")
            quay.come("b", 10)
            quay.come("abcdefgh", 10)
            quay.come("a", 1)
            self.assertEqual(written(quay), f"{head} 12\nb 10\nabcdefgh 10\na 1\n")
            quay.leave("b")
            self.assertEqual(written(quay), f"{head} 12\nabcdefgh 10\na 1\n")
            quay.come("b", 12)
            self.assertEqual(written(quay), f"{head} 12\nabcdefgh 10\na 1\nb 12\n")
            self.assertIs(type(written(quay)), str)

    def test_writing_changes_nothing(self):
        for kind in KINDS:
            quay = mixed_quay(kind, 9, 20, 1)
            before = shown(quay)
            self.assertEqual(written(quay), written(quay))
            self.assertEqual(shown(quay), before)


class TestRead(unittest.TestCase):

    def test_by_hand(self):
        quay = read("quay 5\nb 4\na 4\nc 1\n")
        self.assertEqual(shown(quay), (Quay, "quay", 5, [("b", 4, 4), ("a", 4, 5), ("c", 1, 1)], [2, 3]))
        quay = read("round 5\nb 5\na 5\nc 1\n")
        self.assertEqual(shown(quay), (Round, "round", 5, [("b", 5, 5), ("a", 5, 1), ("c", 1, 2)], [3, 4]))

    def test_empty_quays(self):
        for kind, head in HEADS.items():
            for berths in [1, 9, 10, 99, 100, 101, 309, 399, 400]:
                quay = read(f"{head} {berths}\n")
                self.assertEqual(shown(quay), (kind, head, berths, [], list(range(1, berths + 1))))

    def test_ships_with_the_names_of_the_first_words(self):
        quay = read("quay 5\nquay 5\nround 3\n")
        self.assertEqual(quay.all_ships(), [("quay", 5, 5), ("round", 3, 3)])
        quay = read("round 5\nround 5\nquay 5\n")
        self.assertEqual(quay.all_ships(), [("round", 5, 5), ("quay", 5, 1)])

    def test_written_and_read_back(self):
        for kind in KINDS:
            for berths in [1, 2, 3, 7, 12, 60, 400]:
                for seed in range(3):
                    quay = mixed_quay(kind, berths, 2 * min(berths, 40), seed)
                    again = read(written(quay))
                    self.assertEqual(shown(again), shown(quay))
                    self.assertEqual(written(again), written(quay))

    def test_full_quays(self):
        for kind, head in HEADS.items():
            for berths in [1, 5, 400]:
                quay = kind(berths)
                rows = [head + f" {berths}\n"]
                for number, wish in enumerate([1] * (berths // 2) + list(range(berths - berths // 2, 0, -1))):
                    quay.come(name_of(number), wish)
                    rows.append(f"{name_of(number)} {wish}\n")
                self.assertEqual(quay.free_ones(), [])
                self.assertEqual(written(quay), "".join(rows))
                self.assertEqual(shown(read("".join(rows))), shown(quay))

    def test_the_quay_read_goes_on(self):
        for kind in KINDS:
            for berths in [3, 8, 12, 400]:
                quay = mixed_quay(kind, berths, 30, 5)
                again = read(written(quay))
                for number, wish in enumerate(mixed(berths, 60, 6)):
                    name = name_of(100 + number)
                    self.assertEqual(told(again.come, name, wish), told(quay.come, name, wish))
                    ships = quay.all_ships()
                    if number % 2 and ships:
                        gone = ships[number % len(ships)][0]
                        self.assertEqual(again.leave(gone), quay.leave(gone))
                    self.assertEqual(shown(again), shown(quay))

    def test_the_quay_read_is_another_one(self):
        for kind in KINDS:
            quay = mixed_quay(kind, 6, 4, 2)
            text = written(quay)
            again = read(text)
            for name, _, _ in quay.all_ships():
                quay.leave(name)
            self.assertEqual(written(again), text)
            self.assertEqual(written(read(text)), text)


class TestNoText(unittest.TestCase):

    def refused(self, refusal, text):
        self.assertIs(told(read, text), refusal, repr(text)[:200])

    def test_what_is_no_text(self):
        for thing in no_numbers() + [5, b"quay 5\n", ["quay 5\n"], ("quay 5\n",), Quay(3), {"quay": 5}]:
            self.refused(NoText, thing)

    def test_first_rows_that_lack_or_are_others(self):
        for text in ["", "\n", "\n\n", " ", " \n", "a 1\n", "a 1\nb 2\n", "\nquay 5\n", "5\n", "quay\n", "quay \n"]:
            self.refused(NoText, text)
        for word in ["Quay", "QUAY", "quays", "qua", "Round", "rounds", "ring", "", "a", "quay:", "5", "quayround"]:
            self.refused(NoText, f"{word} 5\n")
            self.refused(NoText, f"{word} 5\na 1\n")

    def test_line_ends(self):
        for head in HEADS.values():
            for text in [
                f"{head} 5", f"{head} 5\na 1", f"{head} 5\n\n", f"{head} 5\n\na 1\n", f"{head} 5\na 1\n\n",
                f"{head} 5\na 1\n\nb 1\n", f"\n{head} 5\na 1\n", f"{head} 5\na 1\n ", f"{head} 5 a 1\n",
                f"{head} 5a 1\n", f"{head}\n5\n", f"{head} 5\na\n1\n", f"{head} 5\na 1 b 2\n", f"{head} 5\na 1b 2\n",
                f"{head} 5\na 1\n\n\n", f"{head} 5\r\na 1\r\n", f"{head} 5\ra 1\r", f"{head} 5\na 1\r\n",
            ]:
                self.refused(NoText, text)

    def test_blanks(self):
        for head in HEADS.values():
            for row in [
                f" {head} 5", f"{head} 5 ", f"{head}  5", f"{head}5", f"{head}\t5", f"{head} 5 5", f"{head} 5 a",
            ]:
                self.refused(NoText, row + "\n")
                self.refused(NoText, row + "\na 1\n")
            for row in [" a 1", "a 1 ", "a  1", "a1", "a\t1", "a 1 1", "a 1 b", "a", "1", "a ", " 1", " ", "", "1 a"]:
                self.refused(NoText, f"{head} 5\n{row}\n")
                self.refused(NoText, f"{head} 5\nb 1\n{row}\n")
                self.refused(NoText, f"{head} 5\n{row}\nb 1\n")

    def test_numbers(self):
        for head in HEADS.values():
            for word in NO_NUMBERS:
                self.refused(NoText, f"{head} {word}\n")
                self.refused(NoText, f"{head} {word}\na 1\n")
                self.refused(NoText, f"{head} 400\na {word}\n")
                self.refused(NoText, f"{head} 400\nb 1\na {word}\nc 3\n")

    def test_names(self):
        for head in HEADS.values():
            for word in BAD_NAMES:
                self.refused(NoText, f"{head} 5\n{word} 1\n")
                self.refused(NoText, f"{head} 5\nb 1\n{word} 2\nc 3\n")

    def test_no_text_comes_ahead_of_what_refuses_a_ship(self):
        bad_rows = ["", "a", "d 0", "d 01", "d 401", "D 1", "d  1", " d 1", "d 1 ", "abcdefghi 1", "d +1"]
        for head in HEADS.values():
            faults = [["a 1", "a 2"], ["a 4"], ["a 400"], ["a 3", "b 3", "c 3", "e 3"]]
            for rows in faults:
                self.assertIsNot(told(read, "\n".join([f"{head} 3"] + rows) + "\n"), NoText)
                for bad in bad_rows:
                    for at in range(len(rows) + 1):
                        text = "\n".join([f"{head} 3"] + rows[:at] + [bad] + rows[at:]) + "\n"
                        self.refused(NoText, text)
                self.refused(NoText, "\n".join([f"{head} 3"] + rows))
                self.refused(NoText, "\n".join([f"{head} 03"] + rows) + "\n")
                self.refused(NoText, "\n".join(["ring 3"] + rows) + "\n")

    def test_what_refuses_a_ship_goes_out(self):
        for head in HEADS.values():
            self.refused(Taken, f"{head} 3\na 1\nb 1\na 1\n")
            self.refused(NoWish, f"{head} 3\na 1\nb 4\n")
            self.refused(NoWish, f"{head} 399\na 400\n")
            self.refused(NoRoom, f"{head} 3\na 1\nb 1\nc 1\nd 1\n")
            self.refused(NoRoom, f"{head} 1\na 1\nb 1\n")
        self.refused(NoRoom, "quay 3\na 3\nb 3\n")
        self.assertEqual(read("round 3\na 3\nb 3\n").where("b"), 1)

    def test_of_several_refusals_the_first_ships_comes(self):
        for head in HEADS.values():
            self.refused(Taken, f"{head} 3\na 1\na 400\n")
            self.refused(Taken, f"{head} 1\na 1\na 1\n")
            self.refused(NoWish, f"{head} 1\na 1\nb 2\n")
            self.refused(Taken, f"{head} 3\na 1\na 1\nb 4\n")
            self.refused(NoWish, f"{head} 3\na 1\nb 4\na 1\n")
            self.refused(NoRoom, f"{head} 1\na 1\nb 1\na 1\nc 2\n")
            self.refused(NoWish, f"{head} 1\na 1\nc 2\nb 1\n")

    def test_more_than_400_ships(self):
        for head in HEADS.values():
            rows = "".join([f"{name_of(number)} 1\n" for number in range(401)])
            self.refused(NoRoom, f"{head} 400\n{rows}")
            self.refused(NoText, f"{head} 400\n{rows}\n")


if __name__ == "__main__":
    unittest.main()
