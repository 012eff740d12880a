"""[52] to [58] and laidforall/layings.py."""

import itertools
import unittest

import layouts
import samples
from layouts import block
from laidforall.books import Book
from laidforall.errors import BadLaying
from laidforall.galleys import Galley
from laidforall.layings import (
    START, cost_of, every_laying, final_cost, line_cost, line_gap, line_width, moves_of, states_of,
)


def cases(seed, many, most=5, figures=2):
    """Random galleys with books: (blocks, galley, book)."""
    rnd = samples.chance(seed)
    for _ in range(many):
        blocks = layouts.random_blocks(rnd, most, figures)
        book = Book(rnd.randint(1, 9), rnd.randint(1, 6), **layouts.random_costs(rnd))
        yield blocks, Galley(blocks), book


class LineTest(unittest.TestCase):
    def setUp(self):
        self.galley = Galley([
            block(1, 2, 0, False, (3, ("blank", 1)), (4, ("joint", 5)), (2, ("blank", 0)), (6, ("end",))),
            block(1, 1, 0, False, (9, ("end",))),
        ])

    def test_widths(self):
        told = {(0, 1): 5, (0, 2): 15, (0, 3): 12, (0, 4): 18, (1, 2): 9, (1, 3): 6, (1, 4): 12,
                (2, 3): 2, (2, 4): 8, (3, 4): 6, (4, 5): 10}
        for (start, end), width in told.items():
            self.assertEqual(line_width(self.galley, start, end), width)

    def test_gaps_and_costs(self):
        book = Book(9, 5, over=7, joint=3)
        told = {(0, 1): (4, 16), (0, 2): (0, 45), (1, 2): (0, 3), (2, 3): (7, 49), (1, 3): (3, 9),
                (3, 4): (0, 0), (2, 4): (0, 0), (4, 5): (0, 7), (1, 4): (0, 21)}
        for (start, end), (gap, cost) in told.items():
            self.assertEqual(line_gap(self.galley, book, start, end), gap)
            self.assertEqual(line_cost(self.galley, book, start, end), cost)

    def test_against_the_words(self):
        for blocks, galley, book in cases(52, 60):
            page = layouts.Page(blocks, book, ())
            for start, end in itertools.combinations(range(len(galley) + 1), 2):
                if page.pieces[start][0] == page.pieces[end - 1][0]:
                    line = (start, end)
                    self.assertEqual(line_width(galley, start, end), page.width(line))
                    self.assertEqual(line_gap(galley, book, start, end), page.gap(line))
                    self.assertEqual(line_cost(galley, book, start, end), page.line_cost(line))


class SearchTest(unittest.TestCase):
    def test_all_layings_and_their_costs(self):
        for blocks, galley, book in cases(53, 220):
            told = layouts.all_layings(blocks, book)
            self.assertEqual(list(every_laying(galley, book)), [laying for laying, _ in told])
            for laying, cost in told:
                self.assertEqual(cost_of(galley, book, laying), cost)

    def test_states_are_what_the_words_say(self):
        for blocks, galley, book in cases(54, 40, 4):
            for laying in every_laying(galley, book):
                states = states_of(galley, book, laying)
                self.assertEqual((states[0], len(states)), (START, len(laying) + 1))
                for many in range(1, len(laying) + 1):
                    page = layouts.Page(blocks, book, laying[:many])
                    line = page.lines[-1]
                    columns = page.columns()
                    placed = sum(len(column[1]) for column in columns)
                    first = page.is_first(line) and not page.is_last(line)
                    told = (line[1], page.used(columns[-1]), placed, first)
                    self.assertEqual(states[many], told)

    def test_moves_lead_along_all_layings(self):
        for blocks, galley, book in cases(55, 60, 4):
            layings = {laying: cost for laying, cost in layouts.all_layings(blocks, book)}
            seen = {}
            for laying in layings:
                states = states_of(galley, book, laying)
                total = 0
                for state, step, later in zip(states, laying, states[1:]):
                    moves = {move[0]: move for move in moves_of(galley, book, state)}
                    seen.setdefault(state, {})[step] = later
                    self.assertEqual(moves[step][2], later)
                    total += moves[step][1]
                self.assertEqual(moves_of(galley, book, states[-1]), [])
                self.assertEqual(total + final_cost(galley, book, states[-1]), layings[laying])
            for state, steps in seen.items():
                told = [(step, later) for step, _, later in moves_of(galley, book, state)]
                ordered = sorted(steps.items(), key=lambda pair: (
                    pair[0][0], -1 if pair[0][1] is None else pair[0][1]))
                self.assertEqual(told, ordered)

    def test_wrong_layings(self):
        rnd = samples.chance(56)
        for blocks, galley, book in cases(57, 60, 4):
            layings = list(every_laying(galley, book))
            beginnings = {laying[:many] for laying in layings for many in range(len(laying) + 1)}
            for _ in range(60):
                wrong = tuple((rnd.randint(0, len(galley) + 1), rnd.choice((None, 0, 1, 2)))
                              for _ in range(rnd.randint(0, 4)))
                if rnd.random() < 0.5:
                    wrong = rnd.choice(layings)[:rnd.randint(0, 3)] + wrong
                if wrong in layings:
                    continue
                many = max(size for size in range(len(wrong) + 1) if wrong[:size] in beginnings)
                for call in (cost_of, states_of):
                    with self.assertRaises(BadLaying) as caught:
                        call(galley, book, wrong)
                    self.assertEqual(caught.exception.step, many)


class CaseTest(unittest.TestCase):
    def test_the_empty_galley(self):
        galley, book = Galley(), Book(1, 1)
        self.assertEqual(START, (0, 0, 0, False))
        self.assertEqual(list(every_laying(galley, book)), [()])
        self.assertEqual((cost_of(galley, book, ()), states_of(galley, book, ())), (0, [START]))
        self.assertEqual((moves_of(galley, book, START), final_cost(galley, book, START)), ([], 0))
        for call in (cost_of, states_of):
            with self.assertRaises(BadLaying) as caught:
                call(galley, book, ((1, 0),))
            self.assertEqual(caught.exception.step, 0)

    def test_bad_layings(self):
        galley = Galley([block(1, 0, 0, False, (3, ("blank", 1)), (3, ("end",)))])
        book = Book(7, 1)
        told = {(): 0, ((1, 0),): 1, ((1, None),): 0, ((1, 1),): 0, ((3, 0),): 0, ((0, 0),): 0,
                ((1, 0), (2, None)): 1, ((1, 0), (2, 1)): 1, ((1, 0), (1, 0)): 1,
                ((2, 0), (2, 0)): 1, ((2, 0), (3, None)): 1, ((1, 0), (2, 0), (3, 0)): 2}
        for laying, step in told.items():
            for call in (cost_of, states_of):
                with self.assertRaises(BadLaying) as caught:
                    call(galley, book, laying)
                self.assertEqual(caught.exception.step, step)
        self.assertEqual(cost_of(galley, book, ((2, 0),)), 0)
        self.assertEqual(cost_of(galley, book, ((1, 0), (2, 0))), 16)

    def test_wide_lines(self):
        galley = Galley([block(1, 1, 0, False, (6, ("joint", 2)), (1, ("blank", 1)), (7, ("end",)))])
        book = Book(5, 9, over=10, joint=4)
        layings = list(every_laying(galley, book))
        self.assertEqual(layings[:2], [((1, 0), (2, None), (3, None)), ((1, 0), (2, None), (3, 0))])
        self.assertEqual(len(layings), 4)
        self.assertEqual(cost_of(galley, book, layings[0]), 44 + 16 + 20)

    def test_a_hyphen_may_be_wider_than_a_further_piece(self):
        galley = Galley([block(1, 0, 0, False, (2, ("blank", 0)), (2, ("joint", 3)), (1, ("end",)))])
        told = [laying for laying in every_laying(galley, Book(5, 1))]
        self.assertIn(((3, 0),), told)
        self.assertNotIn(((2, 0), (3, 0)), told)

    def test_high_columns(self):
        galley = Galley([block(5, 0, 0, False, (1, ("end",)), ), block(1, 0, 0, False, (1, ("end",)))])
        book = Book(1, 3)
        self.assertEqual(list(every_laying(galley, book)), [((1, 0), (2, 0))])
        self.assertEqual(cost_of(galley, book, ((1, 0), (2, 0))), 0)
        self.assertEqual(states_of(galley, book, ((1, 0), (2, 0))), [START, (1, 5, 0, False), (2, 1, 0, False)])

    def test_costs_of_column_breaks(self):
        blocks = [block(1, 0, 0, True, (1, ("blank", 1)), (1, ("blank", 1)), (1, ("end",))),
                  block(1, 0, 1, False, (1, ("end",)))]
        galley = Galley(blocks)
        book = Book(1, 9, keep=1000, orphan=100, widow=10)
        told = {
            ((1, 0), (2, None), (3, None), (4, None)): 0,
            ((1, 0), (2, None), (3, None), (4, 0)): 1000 + 36,
            ((1, 0), (2, 0), (3, None), (4, None)): 100 + 64,
            ((1, 0), (2, None), (3, 0), (4, None)): 10 + 49,
            ((1, 0), (2, 0), (3, 0), (4, 0)): 100 + 64 + 10 + 64 + 1000 + 64,
        }
        for laying, cost in told.items():
            self.assertEqual(cost_of(galley, book, laying), cost)
        # A line that is the first and the last one of its block is neither.
        galley = Galley([block(1, 0, 0, False, (1, ("end",)))] * 2)
        self.assertEqual(cost_of(galley, book, ((1, 0), (2, 0))), 64)

    def test_figures(self):
        galley = Galley([
            block(1, 0, 0, False, (1, ("blank", 0), (), (2, 9)), (1, ("end",), (1,), (1,))),
            block(1, 0, 0, False, (1, ("end",))),
        ])
        book = Book(2, 4, wait=7)
        self.assertEqual([step for step, _, _ in moves_of(galley, book, (1, 1, 0, True))],
                         [(2, None), (2, 0), (2, 1)])
        # Only the first figure may stand on top: 2 + 1 + 1 is the height.
        self.assertEqual(moves_of(galley, book, (1, 1, 0, True))[2],
                         ((2, 1), 9 + 7, (2, 4, 1, False)))
        self.assertEqual(final_cost(galley, book, (3, 1, 0, False)), 21)
        self.assertEqual(cost_of(galley, book, ((2, 0), (3, 0))), 4 + 21 + 21)
        self.assertEqual(cost_of(galley, book, ((2, 0), (3, 1))), 4 + 14 + 14)
        self.assertEqual(cost_of(galley, book, ((2, 0), (3, None))), 21)

    def test_the_first_few_of_very_many(self):
        pieces = [(1, ("blank", 1))] * 40
        galley = Galley([block(1, 0, 0, False, *pieces)])
        book = Book(2000, 2000)
        found = list(itertools.islice(every_laying(galley, book), 3))
        start = tuple((end, None) for end in range(2, 39))
        self.assertEqual(found, [
            ((1, 0),) + start + ((39, None), (40, None)), ((1, 0),) + start + ((39, None), (40, 0)),
            ((1, 0),) + start + ((39, 0), (40, None)),
        ])

    def test_nothing_is_changed(self):
        blocks = [block(1, 0, 0, False, (1, ("blank", 0), (), (2,)), (1, ("end",)))]
        galley, book = Galley(blocks), Book(2, 4)
        moves_of(galley, book, START).clear()
        states_of(galley, book, ((2, 0),)).clear()
        self.assertEqual(len(moves_of(galley, book, START)), 2)
        self.assertEqual((galley, book), (Galley(blocks), Book(2, 4)))


if __name__ == "__main__":
    unittest.main()
