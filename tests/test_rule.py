import itertools
import unittest

from tests.helper import (HIGHEST, agent, ask, four_symbols, join, last, make, needed_places, pairs, plain_row, rule,
                          symbol)

SYMBOLS = four_symbols(0)
GOOD_1_2 = plain_row(1, 2, [0])


def answer(s, t, row):
    return last(SYMBOLS + [rule(0, s, t, row)])


class GoodRules(unittest.TestCase):
    def test_every_count_of_new_agents(self):
        for k in range(7):
            for s, t in ((0, 1), (1, 0), (2, 3), (3, 1)):
                for new in range(4):
                    symbols = [new] * k
                    row = plain_row(s, t, symbols)
                    expected = [0] if (len(row) - 1 - k) % 2 == 0 else [-6]
                    self.assertEqual(answer(s, t, row), expected)

    def test_new_agents_of_several_symbols(self):
        for symbols in ([0, 1, 2, 3, 3], [3, 2, 1, 0, 3], [1, 0], [0, 3, 0, 2, 2, 2], [1, 2, 2, 3, 3, 3]):
            for s, t in itertools.permutations(range(4), 2):
                row = plain_row(s, t, symbols)
                expected = [0] if (len(row) - 1 - len(symbols)) % 2 == 0 else [-6]
                self.assertEqual(answer(s, t, row), expected)

    def test_nothing_in_place_of_two_without_ports(self):
        line = [make(0), symbol(0, 0), symbol(0, 0)]
        self.assertEqual(ask(line + [rule(0, 0, 0, [0]), rule(0, 0, 1, [0]), rule(0, 1, 1, [0])])[-3:], [[0]] * 3)

    def test_wires_of_every_sort(self):
        self.assertEqual(answer(1, 3, [0, 65, 81, 82, 83]), [0])
        self.assertEqual(answer(3, 1, [0, 67, 65, 81, 66]), [0])
        self.assertEqual(answer(2, 0, [0, 65, 66]), [0])
        self.assertEqual(answer(0, 2, [0, 82, 81]), [0])
        self.assertEqual(answer(1, 2, [1, 2, 1, 2, 0, 65, 81, 82]), [0])
        self.assertEqual(answer(1, 2, [2, 0, 3, 0, 4, 7, 82, 65, 6, 5, 81]), [0])

    def test_any_order_of_wires_and_of_a_wires_places(self):
        for wires in itertools.permutations(([0, 65], [1, 81], [2, 82])):
            for flips in itertools.product((1, -1), repeat=3):
                row = [1, 2] + [place for wire, flip in zip(wires, flips) for place in wire[::flip]]
                self.assertEqual(answer(1, 2, row), [0])

    def test_every_two_symbols_of_sixteen(self):
        line = [make(0)] + [symbol(0, 0)] * 16
        two = [(s, t) for s in range(16) for t in range(s, 16)]
        told = ask(line + [rule(0, s, t, [0]) for s, t in two])
        self.assertEqual(told[17:], [[0]] * 136)

    def test_the_symbols_may_come_with_the_new_agents(self):
        self.assertEqual(answer(1, 2, [2, 1, 2, 0, 65, 1, 81, 4, 82, 5, 6]), [0])


class OrderOfRefusals(unittest.TestCase):
    def test_no_symbol(self):
        for bad in (4, 5, 16, HIGHEST):
            for row in (GOOD_1_2, [], [7], [0, 65, 65]):
                self.assertEqual(answer(bad, 2, row), [-4])
                self.assertEqual(answer(1, bad, row), [-4])
                self.assertEqual(answer(bad, bad, row), [-4])

    def test_a_symbol_that_comes_later(self):
        line = [make(0), symbol(0, 0), rule(0, 0, 1, [0]), symbol(0, 0), rule(0, 0, 1, [0])]
        self.assertEqual(ask(line)[1:], [[0, 0], [-4], [0, 1], [0]])

    def test_there_is_a_rule_already(self):
        for first in (rule(0, 1, 2, GOOD_1_2), rule(0, 2, 1, plain_row(2, 1, [0]))):
            told = ask(SYMBOLS + [first, rule(0, 1, 2, GOOD_1_2), rule(0, 2, 1, plain_row(2, 1, [0]))])
            self.assertEqual(told[-3:], [[0], [-5], [-5]])
        told = ask(SYMBOLS + [rule(0, 1, 1, [0, 65, 81]), rule(0, 1, 1, [0, 65, 81])])
        self.assertEqual(told[-2:], [[0], [-5]])

    def test_other_twos_are_free(self):
        two = [(1, 2), (1, 1), (2, 2), (1, 3), (2, 3), (0, 1), (0, 2), (0, 0), (3, 3), (0, 3)]
        rows = {(1, 1): [0, 65, 81], (2, 2): [0, 65, 81, 66, 82], (0, 0): [0], (3, 3): [0, 65, 81, 66, 82, 67, 83]}
        calls = []
        for s, t in two:
            places = len(needed_places([s, t]))
            calls.append(rule(0, s, t, rows.get((s, t), plain_row(s, t, [0] * (places % 2)))))
        self.assertEqual(ask(SYMBOLS + calls)[5:], [[0]] * 10)
        self.assertEqual(ask(SYMBOLS + calls + calls)[15:], [[-5]] * 10)

    def test_taken_comes_before_a_bad_row(self):
        line = SYMBOLS + [rule(0, 1, 2, GOOD_1_2), rule(0, 1, 1, [0, 65, 81])]
        for row in ([], [7], [0, 65], [0, 65, 65], [HIGHEST]):
            for s, t in ((1, 2), (2, 1), (1, 1)):
                self.assertEqual(last(line + [rule(0, s, t, row)]), [-5])
        self.assertEqual(last(line + [rule(0, 1, 1, [1, 1, 0, 65, 1, 81])]), [-5])

    def test_a_bad_row_comes_before_uneven(self):
        self.assertEqual(answer(1, 1, [1, 1, 0, 65, 1, 81]), [-7])
        for row in ([1, 1, 0, 65, 1, 81, 81], [1, 1, 0, 65, 1], [1, 4, 0, 65, 1, 81], [1, 1, 0, 65, 2, 81],
                    [1, 1, 0, 65, 65, 81], [1, 0, 0, 65, 1, 81], [1, 2, 0, 65, 1, 81]):
            self.assertEqual(answer(1, 1, row), [-6])

    def test_a_refused_rule_leaves_none_behind(self):
        line = SYMBOLS + [agent(0, 1), agent(0, 2), agent(0, 1), agent(0, 1), join(0, 0, 4), join(0, 8, 12)]
        for s, t, row, refusal in ((1, 2, [], -6), (2, 1, [0, 65], -6), (1, 1, [1, 1, 0, 65, 1, 81], -7),
                                   (1, 1, [0], -6), (1, 4, [0], -4), (4, 2, [0], -4)):
            told = ask(line + [rule(0, s, t, row), pairs(0), rule(0, 2, 1, plain_row(2, 1, [0])),
                               rule(0, 1, 1, [0, 65, 81]), pairs(0)])
            self.assertEqual(told[-5:], [[refusal], [0], [0], [0], [0, 0, 2]])

    def test_a_refused_rule_leaves_the_one_that_is_there(self):
        line = SYMBOLS + [agent(0, 1), agent(0, 2), join(0, 0, 4), rule(0, 1, 2, GOOD_1_2)]
        told = ask(line + [rule(0, 2, 1, plain_row(2, 1, [0])), pairs(0), rule(0, 1, 2, GOOD_1_2)])
        self.assertEqual(told[-3:], [[-5], [0, 0], [-5]])


class BadRows(unittest.TestCase):
    def assert_bad(self, s, t, row):
        self.assertEqual(answer(s, t, row), [-6], (s, t, row))

    def test_nothing(self):
        for s in range(4):
            for t in range(4):
                self.assert_bad(s, t, [])

    def test_too_many_new_agents(self):
        line = [make(0), symbol(0, 0), symbol(0, 1)]
        for k in (7, 8, 9, 16, 64):
            places = [4 * i for i in range(k)]
            row = [k] + [0] * k + places + [65] * (k % 2)
            self.assertEqual(last(line + [rule(0, 0, 0, row)]), [-6])
            self.assertEqual(last(line + [rule(0, k % 2, 0, row)]), [-6])
        for row in ([7], [HIGHEST], [HIGHEST, 0, 0], [255] + [0] * 255):
            self.assertEqual(last(line + [rule(0, 0, 0, row)]), [-6])

    def test_six_are_not_too_many(self):
        self.assertEqual(last([make(0), symbol(0, 0), rule(0, 0, 0, [6] + [0] * 6 + [0, 4, 8, 12, 16, 20])]), [0])

    def test_numbers_that_are_missing(self):
        for s, t, symbols in ((1, 2, [0]), (2, 3, [3, 0, 2, 1, 2]), (1, 3, [1, 2, 2, 3, 3, 1]), (0, 0, [0, 0])):
            row = plain_row(s, t, symbols)
            self.assertEqual(answer(s, t, row), [0])
            for size in range(len(row)):
                self.assert_bad(s, t, row[:size])

    def test_only_new_agents_symbols(self):
        for k in range(1, 7):
            for there in range(k + 1):
                self.assert_bad(0, 0, [k] + [0] * there)
                self.assert_bad(1, 1, [k] + [3] * there)

    def test_a_number_is_left_out(self):
        for left_out in range(len(GOOD_1_2)):
            self.assert_bad(1, 2, GOOD_1_2[:left_out] + GOOD_1_2[left_out + 1:])

    def test_half_a_wire(self):
        self.assert_bad(1, 0, [0, 65])
        self.assert_bad(0, 1, [0, 81])
        self.assert_bad(1, 2, [0, 65, 81, 82])
        self.assert_bad(0, 0, [1, 0, 0])
        self.assert_bad(1, 1, [1, 0, 0, 65, 81])

    def test_numbers_left_over(self):
        for more in ([0], [1], [65], [81], [82], [83], [64], [80], [64, 80], [0, 0], [4, 8], [65, 81], [999], [HIGHEST],
                     [HIGHEST, HIGHEST], [24, 25], [66, 67], [0] * 100, [1, 2, 3]):
            self.assert_bad(1, 2, GOOD_1_2 + more)
            self.assert_bad(0, 0, [0] + more)

    def test_an_unknown_symbol(self):
        for bad in (4, 5, 15, 16, 255, HIGHEST):
            self.assert_bad(1, 2, [1, bad, 0, 65, 81, 82])
            self.assert_bad(1, 0, [2, bad, 0, 0, 4, 65, 5])
            self.assert_bad(0, 0, [2, 0, bad, 0, 4])
            self.assert_bad(1, 2, [2, 2, bad, 0, 65, 1, 81, 2, 82])

    def test_a_symbol_that_comes_later(self):
        line = [make(0), symbol(0, 0), rule(0, 0, 0, [2, 1, 1, 0, 4]), symbol(0, 0), rule(0, 0, 0, [2, 1, 1, 0, 4])]
        self.assertEqual(ask(line)[1:], [[0, 0], [-6], [0, 1], [0]])

    def test_a_wire_that_is_missing(self):
        row = plain_row(3, 2, [3, 0])
        self.assertEqual(answer(3, 2, row), [0])
        for start in range(3, len(row), 2):
            self.assert_bad(3, 2, row[:start] + row[start + 2:])

    def test_a_wire_twice(self):
        row = plain_row(3, 2, [3, 0])
        for start in range(3, len(row), 2):
            self.assert_bad(3, 2, row + row[start:start + 2])
            self.assert_bad(3, 2, row + row[start:start + 2][::-1])

    def test_a_place_in_the_place_of_another(self):
        row = plain_row(3, 2, [3, 0])
        numbers = list(range(30)) + list(range(60, 90)) + [255, 256, 272, 999, HIGHEST]
        for spot in range(3, len(row)):
            for number in numbers:
                if number != row[spot]:
                    self.assert_bad(3, 2, row[:spot] + [number] + row[spot + 1:])

    def test_64_and_80(self):
        self.assert_bad(0, 0, [0, 64, 80])
        self.assert_bad(1, 1, [0, 64, 80, 65, 81])
        self.assert_bad(1, 1, [0, 64, 80])
        self.assert_bad(1, 2, [1, 0, 64, 65, 81, 82])
        self.assert_bad(1, 2, [1, 0, 0, 65, 80, 82])
        self.assert_bad(1, 0, [0, 65, 64])
        self.assert_bad(0, 1, [0, 81, 80])

    def test_a_port_that_the_new_agent_doesnt_have(self):
        for n in range(3):
            for j in range(n + 1, 4):
                places = list(range(n)) + [j]
                self.assert_bad(n + 1, 0, [1, n] + [p for i in range(n + 1) for p in (places[i], 65 + i)])
        self.assert_bad(1, 0, [1, 0, 1, 65])
        self.assert_bad(1, 0, [1, 0, 4, 65])
        self.assert_bad(1, 0, [1, 0, 24, 65])

    def test_a_port_that_the_old_agent_doesnt_have(self):
        self.assert_bad(1, 1, [0, 65, 82])
        self.assert_bad(1, 1, [0, 66, 81])
        self.assert_bad(1, 2, [1, 0, 0, 66, 81, 82])
        self.assert_bad(1, 2, [1, 0, 0, 65, 81, 83])
        self.assert_bad(3, 3, [0, 65, 81, 66, 82, 68, 84])
        self.assert_bad(3, 1, [0, 65, 66, 68, 81])

    def test_the_two_old_agents_exchanged(self):
        self.assertEqual(answer(1, 2, [1, 0, 0, 65, 81, 82]), [0])
        self.assert_bad(2, 1, [1, 0, 0, 65, 81, 82])
        self.assertEqual(answer(2, 1, [1, 0, 0, 81, 65, 66]), [0])
        self.assert_bad(1, 2, [1, 0, 0, 81, 65, 66])

    def test_a_wire_from_a_place_to_the_same_place(self):
        self.assert_bad(1, 1, [0, 65, 65, 81, 81])
        self.assert_bad(1, 1, [0, 65, 65])
        self.assert_bad(0, 0, [1, 0, 0, 0])
        self.assert_bad(1, 0, [1, 0, 0, 0, 65, 65])
        self.assert_bad(1, 2, [1, 2, 0, 65, 1, 1, 81, 82])

    def test_a_long_row(self):
        for row in ([0] * 3000, [0] + [65, 81] * 2000, [6] + [0] * 20000, list(range(25000)), [HIGHEST] * 29000):
            told = ask(SYMBOLS + [rule(0, 1, 1, row), rule(0, 1, 1, [0, 65, 81]), symbol(0, 0)])
            self.assertEqual(told[-3:], [[-6], [0], [0, 4]])


if __name__ == "__main__":
    unittest.main()
