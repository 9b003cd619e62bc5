"""Promises 30 and 31: fractions, plots, questions and answers, written and read."""

import unittest
from fractions import Fraction
from random import Random

from helper import (THIRTY, HelperMixin, box, kinds_under, ladder, many_plots, random_walls, sample_plots,
                    spot, wall, walls_of)
from spotlook.errors import NoText
from spotlook.parting import parted
from spotlook.plain import look_plainly
from spotlook.plots import corners_of, plot_of
from spotlook.texts import read_plot, read_questions, show_answers, show_fraction, show_plot, show_questions

# Words that are no fraction's text.
NO_FRACTIONS = (
    "", "-", "+1", "--1", "1-", "-0", "00", "01", "-01", "007", "0x1", "1.0", "1e3", "1_0", "a", "x", "1a", "a1", ".5",
    "/", "1/", "/2", "-/2", "1//2", "1/2/3", "1/1", "5/1", "0/1", "0/2", "0/5", "-0/5", "2/4", "-2/4", "6/3", "-6/3",
    "1/0", "0/0", "1/-2", "-1/-2", "1/02", "01/2", "1/+2", "1/2.", "1/2a", "(1,2)", "1,2", "\t1", "1\t", "1\r",
    "1" * 31, "-" + "1" * 31, "1/" + "2" * 31, "1" * 31 + "/2", "0" * 31, "9" * 400, "1/" + "9" * 400, "9" * 1500)
FRACTIONS = {
    "0": (0, 1), "1": (1, 1), "-1": (-1, 1), "10": (10, 1), "-20": (-20, 1), "1/2": (1, 2), "-1/2": (-1, 2),
    "7/3": (7, 3), "-22/7": (-22, 7), "10/21": (10, 21), "9" * 30: (THIRTY, 1), "-" + "9" * 30: (-THIRTY, 1),
    "1/" + "9" * 30: (1, THIRTY), "-" + "9" * 30 + "/1" + "0" * 29: (-THIRTY, 10 ** 29), "1" + "0" * 29: (10 ** 29, 1)}


class ShowFraction(HelperMixin, unittest.TestCase):
    def test_some(self):
        for text, one in FRACTIONS.items():
            self.assert_told(show_fraction(one), text)

    def test_however_great(self):
        self.assert_told(show_fraction((10 ** 31, 1)), "1" + "0" * 31)
        self.assert_told(show_fraction((-(10 ** 3999), 10 ** 3999 + 1)), "-1" + "0" * 3999 + "/1" + "0" * 3998 + "1")


class ShowPlot(HelperMixin, unittest.TestCase):
    def test_some(self):
        self.assert_told(show_plot(()), "")
        self.assert_told(show_plot(plot_of(walls_of([(3, 1, 0, 0)]))), "wall 0 0 3 1")
        plot = plot_of(walls_of([(Fraction(1, 2), -3, Fraction(-7, 3), 0), (0, 5, 0, 6)]))
        self.assert_told(show_plot(plot), "wall -7/3 0 1/2 -3\nwall 0 5 0 6")

    def test_greater_numbers_that_were_told(self):
        numbers = [Fraction(top, THIRTY - at) for at, top in enumerate((3, 10, 77, 121))]
        plot = parted(random_walls(Random(3), 5, numbers))
        text = show_plot(plot)
        self.assertGreater(max(len(word) for word in text.split()), 62)
        self.assertEqual(len(text.split("\n")), len(plot))
        self.assert_refused(NoText, read_plot, text)


class ReadPlot(HelperMixin, unittest.TestCase):
    def assert_no_text(self, row, text):
        self.assert_told(self.assert_refused(NoText, read_plot, text).row, row)

    def test_the_text_without_signs(self):
        self.assert_told(read_plot(""), ())

    def test_of_plots_whose_text_it_is(self):
        for plot in many_plots():
            self.assert_told(read_plot(show_plot(plot)), plot)

    def test_fractions(self):
        for text, one in FRACTIONS.items():
            self.assert_told(read_plot(f"wall 5 {text} 6 {text}"), ((((5, 1), one), ((6, 1), one)),))
            self.assert_told(read_plot(f"wall {text} -3 {text} 4/3"), (((one, (-3, 1)), (one, (4, 3))),))

    def test_words_that_are_no_fraction(self):
        for word in NO_FRACTIONS:
            for row in (f"wall {word} 0 7 0", f"wall -7 {word} 7 0", f"wall -7 0 {word} 0", f"wall -7 0 7 {word}"):
                self.assert_no_text(0, row)
                self.assert_no_text(1, "wall 0 9 1 9\n" + row)

    def test_a_sign_or_a_blank_more_or_less(self):
        for row in (" ", "wall", "wall ", "wall 0 0 1", "wall 0 0 1 1 ", " wall 0 0 1 1", "wall  0 0 1 1",
                    "wall 0  0 1 1", "wall 0 0 1  1", "wall 0 0 1 1 2", "wall 0 0 1 1 2 2", "0 0 1 1", "wall0 0 1 1",
                    "wall 00 1 1", "wall 0 0 11", "wall 0 0 1 1.", "wall\t0 0 1 1", "wall,0,0,1,1"):
            self.assert_no_text(0, row)
            self.assert_no_text(1, "wall 0 5 1 5\n" + row)

    def test_another_word(self):
        for word in ("Wall", "WALL", "walls", "wal", "", "ask", "put", "land", "corner"):
            self.assert_no_text(0, f"{word} 0 0 1 1")
        self.assert_no_text(0, "ask 0 0")

    def test_empty_rows(self):
        self.assert_no_text(0, "\n")
        self.assert_no_text(1, "wall 0 0 1 1\n")
        self.assert_no_text(0, "\nwall 0 0 1 1")
        self.assert_no_text(1, "wall 0 0 1 1\n\nwall 0 2 1 2")
        self.assert_no_text(0, "\n\n")

    def test_ends_exchanged(self):
        self.assert_no_text(0, "wall 1 0 0 0")
        self.assert_no_text(0, "wall 0 1 0 0")
        self.assert_no_text(0, "wall 1/2 0 1/3 9")
        self.assert_told(read_plot("wall 0 9 1/1000 -9"), plot_of([wall(0, 9, Fraction(1, 1000), -9)]))

    def test_a_wall_of_one_spot(self):
        self.assert_no_text(0, "wall 0 0 0 0")
        self.assert_no_text(1, "wall 0 0 1 1\nwall 1 1 1 1")

    def test_a_wall_that_crosses_one_ahead(self):
        self.assert_no_text(1, "wall 0 0 2 2\nwall 0 2 2 0")
        self.assert_no_text(2, "wall 0 0 2 2\nwall 0 5 1 5\nwall 0 0 2 2")
        self.assert_no_text(2, "wall 0 0 2 2\nwall 0 5 1 5\nwall 1 1 9 1")
        self.assert_no_text(1, "wall 0 0 2 2\nwall 1 1 3 3\nnothing")
        self.assert_told(len(read_plot("wall 0 0 2 2\nwall 2 2 4 4\nwall 0 0 2 1")), 3)

    def test_the_first_row_that_is_wrong(self):
        self.assert_no_text(1, "wall 0 0 2 2\nwall 2 2 0 0\nwall 0 2 2 0")
        self.assert_no_text(2, "wall 0 0 2 2\nwall 5 0 6 0\nwall 0 2 2 0\nwall\n\n")
        self.assert_no_text(3, "wall 0 0 2 2\nwall 5 0 6 0\nwall 0 4 1 4\nask 1 1\nwall 0 2 2 0")

    def test_the_forty_first_wall(self):
        rows = [f"wall 0 {y} 1 {y}" for y in range(42)]
        self.assert_told(len(read_plot("\n".join(rows[:40]))), 40)
        self.assert_no_text(40, "\n".join(rows[:41]))
        self.assert_no_text(40, "\n".join(rows))
        # A row that is wrong ahead of it goes first.
        self.assert_no_text(7, "\n".join(rows[:7] + ["wall"] + rows[7:]))


class Questions(HelperMixin, unittest.TestCase):
    def assert_no_text(self, row, text):
        self.assert_told(self.assert_refused(NoText, read_questions, text).row, row)

    def test_shown(self):
        plot = plot_of(walls_of([(0, 0, 3, 1)]))
        self.assert_told(show_questions((), []), "")
        self.assert_told(show_questions(plot, []), "wall 0 0 3 1")
        self.assert_told(show_questions((), [spot(1, Fraction(-2, 3))]), "ask 1 -2/3")
        self.assert_told(show_questions(plot, [spot(1, 1), spot(1, 1), spot(0, 9)]),
                         "wall 0 0 3 1\nask 1 1\nask 1 1\nask 0 9")

    def test_read(self):
        plot = plot_of(walls_of([(0, 0, 3, 1)]))
        self.assert_told(read_questions(""), ((), []))
        self.assert_told(read_questions("wall 0 0 3 1"), (plot, []))
        self.assert_told(read_questions("ask 1 -2/3"), ((), [spot(1, Fraction(-2, 3))]))
        self.assert_told(read_questions("wall 0 0 3 1\nask 1 1\nask 1 1"), (plot, [spot(1, 1), spot(1, 1)]))

    def test_written_and_read(self):
        for plot in many_plots():
            for spots in ([], corners_of(plot), [spot(Fraction(x, 3), -x) for x in range(-60, 60)]):
                self.assert_told(read_questions(show_questions(plot, spots)), (plot, spots))

    def test_words_that_are_no_fraction(self):
        for word in NO_FRACTIONS:
            for row in (f"ask {word} 0", f"ask 0 {word}", f"wall -7 0 7 {word}", f"wall {word} 0 7 0"):
                self.assert_no_text(0, row)
                self.assert_no_text(2, "wall 0 9 1 9\nwall 0 8 1 8\n" + row)
                self.assert_no_text(2, "wall 0 9 1 9\nask 1 2\n" + row)
        for text, one in FRACTIONS.items():
            self.assert_told(read_questions(f"ask {text} 0\nask 1 {text}"), ((), [(one, (0, 1)), ((1, 1), one)]))

    def test_a_wall_behind_an_ask(self):
        self.assert_no_text(1, "ask 0 0\nwall 0 0 1 1")
        self.assert_no_text(2, "wall 0 5 1 5\nask 0 0\nwall 0 0 1 1\nask")
        self.assert_no_text(2, "ask 0 0\nask 0 0\nwall 0 0 1 1")

    def test_other_rows(self):
        for row in (" ", "ask", "ask ", "ask 0", "ask 0 0 ", " ask 0 0", "ask  0 0", "ask 0  0", "ask 0 0 0", "Ask 0 0",
                    "asks 0 0", "ask 0,0", "land 0", "0 0", "ask 0 0 1 1", "wall 0 0", "wall 0 0 0 0", "wall 1 0 0 0"):
            self.assert_no_text(0, row)
            self.assert_no_text(1, "ask 1 1\n" + row)
            self.assert_no_text(1, "wall 0 7 1 7\n" + row + "\nask 0 0")
        self.assert_no_text(1, "ask 0 0\n")
        self.assert_no_text(0, "\nask 0 0")
        self.assert_no_text(1, "ask 0 0\n\nask 0 0")
        self.assert_no_text(0, "\n")

    def test_walls_that_are_no_plot(self):
        self.assert_no_text(1, "wall 0 0 2 2\nwall 0 2 2 0\nask 0 0")
        rows = [f"wall 0 {y} 1 {y}" for y in range(41)]
        self.assert_no_text(40, "\n".join(rows + ["ask 0 0"]))
        self.assert_told(len(read_questions("\n".join(rows[:40] + ["ask 0 0"] * 120))[1]), 120)


class Answers(HelperMixin, unittest.TestCase):
    def test_some(self):
        self.assert_told(show_answers([]), "")
        self.assert_told(show_answers([("land", 0)]), "land 0")
        self.assert_told(show_answers([("corner", 12), ("wall", 39), ("land", 3), ("land", 3)]),
                         "corner 12\nwall 39\nland 3\nland 3")

    def test_of_questions(self):
        plot, spots = read_questions("wall 0 0 4 0\nwall 0 0 2 4\nwall 2 4 4 0\nask 2 1\nask 2 0\nask 2 4\nask 9 9")
        self.assert_told(show_answers([look_plainly(plot, one) for one in spots]), "land 1\nwall 0\ncorner 1\nland 0")


class WhatHoldsEverywhere(HelperMixin, unittest.TestCase):
    """Promise 2, as far as it touches texts."""

    def test_what_is_read_is_the_askers_own(self):
        text = "wall 0 0 3 1\nask 1 1\nask 2 2"
        self.assert_own(lambda: read_questions(text), lambda told: told[1].pop())
        self.assert_own(lambda: read_questions(text), lambda told: told[1].clear())

    def test_nothing_that_is_handed_in_is_changed(self):
        spots, answers = [spot(0, 0), spot(1, 2)], [("land", 0), ("wall", 1)]
        show_questions((), spots)
        show_answers(answers)
        self.assertEqual((spots, answers), ([spot(0, 0), spot(1, 2)], [("land", 0), ("wall", 1)]))

    def test_of_kinds_under_the_told_ones_the_told_kinds_come(self):
        plot = plot_of(box(0, 0, 4, Fraction(9, 2)))
        text = show_questions(plot, [spot(1, 2)])
        self.assert_told(show_plot(kinds_under(plot)), show_plot(plot))
        self.assert_told(show_questions(kinds_under(plot), kinds_under([spot(1, 2)])), text)
        self.assert_told(show_fraction(kinds_under((-1, 2))), "-1/2")
        self.assert_told(show_answers(kinds_under([("land", 0), ("wall", 7)])), "land 0\nwall 7")
        self.assert_told(read_questions(kinds_under(text)), (plot, [spot(1, 2)]))
        self.assert_told(read_plot(kinds_under("")), ())
        self.assert_told(read_plot(kinds_under("wall 0 0 1 1")), plot_of([wall(0, 0, 1, 1)]))

    def test_texts_of_about_two_thousand_signs(self):
        plot = plot_of([wall(-THIRTY, y, THIRTY, Fraction(y * 10 ** 28 + 1, 10 ** 28)) for y in range(15)])
        text = show_plot(plot)
        self.assertGreater(len(text), 1500)
        self.assert_told(read_plot(text), plot)
        self.assert_told(self.assert_refused(NoText, read_plot, text + "\n" + "9" * 500).row, 15)
        self.assert_told(self.assert_refused(NoText, read_plot, "wall " * 400).row, 0)
        self.assert_told(self.assert_refused(NoText, read_plot, "\n" * 2000).row, 0)
        self.assert_told(read_plot(show_plot(plot_of(ladder()))), plot_of(ladder()))
        self.assert_told(read_plot(show_plot(sample_plots()["great"])), sample_plots()["great"])


if __name__ == "__main__":
    unittest.main()
