"""[58], [59] and laidforall/prices.py."""

import unittest

import layouts
from layouts import block
from test_layings import cases
from laidforall.books import Book
from laidforall.galleys import Galley
from laidforall.layings import START, final_cost, moves_of, states_of
from laidforall.prices import is_right, price_table


class PriceTest(unittest.TestCase):
    def test_against_all_layings(self):
        for blocks, galley, book in cases(58, 80):
            layings = layouts.all_layings(blocks, book)
            least = min(cost for _, cost in layings)
            table = price_table(galley, book)
            self.assertEqual(table[START], (least, sum(cost == least for _, cost in layings)))
            passed = {state for laying, _ in layings for state in states_of(galley, book, laying)}
            self.assertEqual(set(table), passed)
            self.assertTrue(is_right(galley, book, table))

    def test_every_price(self):
        for blocks, galley, book in cases(59, 40, 4):
            follows = {}
            for laying, cost in layouts.all_layings(blocks, book):
                page = layouts.Page(blocks, book, laying)
                for many, state in enumerate(states_of(galley, book, laying)):
                    rest = cost - self.cost_so_far(galley, book, laying[:many])
                    follows.setdefault(state, {})[laying[many:]] = rest
                self.assertEqual(page.cost(), cost)
            for state, (price, count) in price_table(galley, book).items():
                prices = list(follows[state].values())
                self.assertEqual((price, count), (min(prices), prices.count(min(prices))))

    def cost_so_far(self, galley, book, steps):
        state = START
        total = 0
        for step in steps:
            _, cost, state = [move for move in moves_of(galley, book, state) if move[0] == step][0]
            total += cost
        return total

    def test_wrong_tables(self):
        for _, galley, book in cases(60, 25, 4):
            table = price_table(galley, book)
            for state, (price, count) in table.items():
                for entry in ((price + 1, count), (price - 1, count), (price, count + 1), (price, count - 1)):
                    self.assertFalse(is_right(galley, book, {**table, state: entry}))
                less = {other: table[other] for other in table if other != state}
                self.assertFalse(is_right(galley, book, less))
            self.assertFalse(is_right(galley, book, {}))

    def test_more_states(self):
        galley = Galley([block(1, 0, 0, False, (1, ("blank", 0)), (1, ("end",)))])
        book = Book(1, 9)
        table = price_table(galley, book)
        final = (2, 7, 0, False)
        self.assertNotIn(final, table)
        self.assertTrue(is_right(galley, book, {**table, final: (0, 1)}))
        self.assertFalse(is_right(galley, book, {**table, final: (0, 2)}))
        self.assertFalse(is_right(galley, book, {**table, final: (1, 1)}))
        before = (1, 9, 0, True)
        self.assertTrue(is_right(galley, book, {**table, before: (0, 1)}))
        self.assertFalse(is_right(galley, book, {**table, before: (1, 1)}))
        self.assertFalse(is_right(galley, book, {**table, (1, 8, 0, True): (0, 1)}))

    def test_the_empty_galley(self):
        table = price_table(Galley(), Book(1, 1))
        self.assertEqual(table, {START: (0, 1)})
        self.assertTrue(is_right(Galley(), Book(1, 1), table))
        self.assertFalse(is_right(Galley(), Book(1, 1), {START: (0, 0)}))

    def test_very_many_layings(self):
        pieces = [(1, ("blank", 1))] * 40
        galley = Galley([block(1, 0, 0, False, *pieces)])
        table = price_table(galley, Book(1, 2000))
        self.assertEqual(table[START], (0, 1))
        table = price_table(galley, Book(1, 1))
        self.assertEqual(table[START], (0, 1))
        even = Galley([block(1, 0, 0, False, (1, ("end",)))] * 40)
        table = price_table(even, Book(1, 2))
        self.assertEqual(table[START][0], 0)
        self.assertEqual(sum(state[0] == 40 for state in table), 2)
        self.assertEqual(final_cost(even, Book(1, 2), (40, 2, 0, False)), 0)

    def test_a_table_may_be_changed(self):
        galley = Galley([block(1, 0, 0, False, (1, ("end",)))])
        price_table(galley, Book(1, 1)).clear()
        table = price_table(galley, Book(1, 1))
        self.assertEqual(len(table), 2)
        is_right(galley, Book(1, 1), table)
        self.assertEqual(table, price_table(galley, Book(1, 1)))


if __name__ == "__main__":
    unittest.main()
