import itertools
import unittest

from tests.helper import agent, join, last, make, needed_places, pairs, rule, symbol


def matchings(places):
    """Every way to lay wires so that each place comes once."""
    if not places:
        yield []
        return
    for k in range(1, len(places)):
        rest = places[1:k] + places[k + 1:]
        for wires in matchings(rest):
            yield [(places[0], places[k])] + wires


def moved(place, order):
    if place >= 80:
        return place - 16
    if place >= 64:
        return place + 16
    return 4 * order[place // 4] + place % 4


def is_even(symbols, wires):
    """The document's words, tried on every order."""
    whole = {frozenset(wire) for wire in wires}
    for order in itertools.permutations(range(len(symbols))):
        if all(symbols[order[i]] == symbols[i] for i in range(len(symbols))):
            if {frozenset(moved(place, order) for place in wire) for wire in wires} == whole:
                return True
    return False


# Symbols 0 to 3 have that many ports besides the first; 4 to 7 are another four like these.
LINE = [make(0)] + [symbol(0, n % 4) for n in range(8)]


def answer(s, symbols, wires):
    row = [len(symbols)] + list(symbols) + [place for wire in wires for place in wire]
    return last(LINE + [rule(0, s, s, row)])


class Even(unittest.TestCase):
    def test_without_new_agents(self):
        self.assertEqual(answer(0, [], []), [0])
        self.assertEqual(answer(1, [], [(65, 81)]), [0])
        self.assertEqual(answer(2, [], [(65, 81), (66, 82)]), [0])
        self.assertEqual(answer(2, [], [(65, 82), (66, 81)]), [0])
        self.assertEqual(answer(2, [], [(65, 66), (81, 82)]), [0])
        self.assertEqual(answer(3, [], [(65, 66), (81, 82), (67, 83)]), [0])
        self.assertEqual(answer(3, [], [(65, 66), (81, 83), (67, 82)]), [-7])
        self.assertEqual(answer(3, [], [(65, 82), (66, 83), (67, 81)]), [-7])

    def test_in_the_first_order(self):
        self.assertEqual(answer(1, [1], [(0, 1), (65, 81)]), [0])
        self.assertEqual(answer(1, [0, 4], [(0, 4), (65, 81)]), [0])
        self.assertEqual(answer(2, [0, 1, 2], [(0, 4), (5, 8), (9, 10), (65, 81), (66, 82)]), [0])

    def test_only_in_another_order(self):
        self.assertEqual(answer(1, [0, 0], [(0, 65), (4, 81)]), [0])
        self.assertEqual(answer(1, [0, 0], [(0, 81), (4, 65)]), [0])
        self.assertEqual(answer(1, [1, 1], [(0, 65), (4, 81), (1, 5)]), [0])
        self.assertEqual(answer(2, [2, 2], [(0, 65), (1, 66), (4, 81), (5, 82), (2, 6)]), [0])
        self.assertEqual(answer(2, [0, 1, 0, 1], [(0, 65), (8, 81), (4, 66), (12, 82), (5, 13)]), [0])

    def test_only_in_one_order_of_720(self):
        wires = [(0, 65), (4, 66), (8, 67), (12, 83), (16, 82), (20, 81)]
        self.assertEqual(answer(3, [0] * 6, wires), [0])
        self.assertEqual(answer(3, [0, 0, 4, 4, 0, 0], wires), [0])
        self.assertEqual(answer(3, [0, 0, 4, 0, 4, 0], wires), [-7])
        self.assertEqual(answer(3, [4, 0, 0, 0, 0, 0], wires), [-7])

    def test_agents_that_hang_together(self):
        chain = [(0, 65), (1, 4), (5, 8), (9, 12), (13, 16), (17, 20), (21, 81)]
        self.assertEqual(answer(1, [1] * 6, chain), [-7])
        mirrored = [(0, 65), (1, 4), (5, 9), (8, 13), (12, 81)]
        self.assertEqual(answer(1, [1] * 4, mirrored), [0])
        self.assertEqual(answer(1, [1, 5, 5, 1], mirrored), [0])
        self.assertEqual(answer(1, [1, 1, 5, 5], mirrored), [-7])
        self.assertEqual(answer(1, [1, 5, 1, 5], mirrored), [-7])

    def test_the_ports_count(self):
        self.assertEqual(answer(1, [1, 1], [(0, 65), (1, 4), (5, 81)]), [-7])
        self.assertEqual(answer(1, [1], [(0, 65), (1, 81)]), [-7])
        self.assertEqual(answer(1, [1, 1], [(0, 65), (5, 81), (1, 4)]), [-7])
        self.assertEqual(answer(2, [1, 1], [(0, 65), (1, 66), (4, 82), (5, 81)]), [-7])
        self.assertEqual(answer(2, [1, 1], [(0, 65), (1, 82), (4, 81), (5, 66)]), [0])

    def test_the_symbols_are_kept_by_number(self):
        self.assertEqual(answer(1, [0, 4], [(0, 65), (4, 81)]), [-7])
        self.assertEqual(answer(1, [4, 4], [(0, 65), (4, 81)]), [0])
        self.assertEqual(answer(1, [0, 1], [(0, 65), (4, 5)]), [-6])

    def test_parts_that_hang_on_nothing(self):
        loops = [(0, 1), (4, 5), (8, 9), (12, 13), (16, 17), (20, 21)]
        self.assertEqual(answer(1, [1] * 6, loops + [(65, 81)]), [0])
        self.assertEqual(answer(3, [1] * 6, loops + [(65, 66), (81, 83), (67, 82)]), [-7])
        ring = [(0, 5), (4, 9), (8, 13), (12, 17), (16, 21), (20, 1)]
        self.assertEqual(answer(1, [1] * 6, ring + [(65, 81)]), [0])
        self.assertEqual(answer(0, [0] * 6, [(0, 4), (8, 20), (12, 16)]), [0])

    def test_only_two_of_one_symbol_must_be(self):
        line = LINE + [rule(0, 1, 5, [1, 1, 0, 65, 1, 81]), agent(0, 5), agent(0, 1), join(0, 0, 4)]
        self.assertEqual(last(line + [pairs(0)]), [0, 0])

    def check_all(self, s, symbols):
        places = needed_places([s % 4, s % 4] + [symbol % 4 for symbol in symbols])
        met = []
        for wires in matchings(places):
            expected = [0] if is_even(symbols, wires) else [-7]
            self.assertEqual(answer(s, symbols, wires), expected, (s, symbols, wires))
            met.append(expected)
        return met

    def test_all_wires_of_small_rules(self):
        for s in range(4):
            for k in range(3):
                for symbols in itertools.product((0, 1, 2, 4), repeat=k):
                    size = 2 * s + sum(symbol % 4 + 1 for symbol in symbols)
                    if size % 2 == 0 and size <= 8:
                        self.check_all(s, list(symbols))

    def test_all_wires_of_some_larger_rules(self):
        for s, symbols in ((1, [0, 0, 1]), (1, [0] * 6), (2, [0, 0, 4, 4]), (1, [1, 1, 1]), (3, [0, 0]), (0, [1, 1, 1]),
                           (1, [0, 4, 0, 4]), (2, [1, 1]), (1, [2, 2])):
            met = self.check_all(s, symbols)
            self.assertIn([0], met)


if __name__ == "__main__":
    unittest.main()
