import unittest

from tests.helper import (HIGHEST, agent, ask, count, four_symbols, join, last, look, make, name, net, pairs, part,
                          port, read, rule, run, step, symbol)

# Two of symbol 1 come again and again.
ENDLESS = four_symbols(0) + [rule(0, 1, 1, [2, 1, 1, 0, 4, 1, 65, 5, 81])]
ENDLESS += net(0, (1, 1), [(0, 4), (1, name(0)), (5, name(1))])
# Symbols without more ports: two of symbol 0 go, two of symbol 1 become two of symbol 0.
DYING = [make(0), symbol(0, 0), symbol(0, 0), rule(0, 0, 0, [0]), rule(0, 1, 1, [2, 0, 0, 0, 4])]


class HowMany(unittest.TestCase):
    def test_none_asked_for(self):
        self.assertEqual(last(ENDLESS + [run(0, 0)]), [0, 0])
        self.assertEqual(look(ENDLESS + [run(0, 0)]), look(ENDLESS))
        line = DYING + net(0, (0, 0), [(0, 4)])
        self.assertEqual(ask(line + [run(0, 0), count(0), pairs(0)])[-3:], [[0, 0], [0, 2], [0, 0]])

    def test_one(self):
        line = DYING + net(0, (1, 1), [(0, 4)])
        self.assertEqual(ask(line + [run(0, 1), read(0, 0), run(0, 1), count(0)])[-4:],
                         [[0, 1], [0, 0, 4, 999, 999, 999], [0, 1], [0, 0]])

    def test_as_many_as_asked_for(self):
        for n in (1, 2, 3, 17, 199, 200):
            self.assertEqual(last(ENDLESS + [run(0, n)]), [0, n])

    def test_too_many(self):
        for n in (201, 202, 1000, HIGHEST):
            self.assertEqual(last(ENDLESS + [run(0, n)]), [-1])
            self.assertEqual(last([make(0), run(0, n)]), [-1])
            self.assertEqual(look(DYING + net(0, (0, 0), [(0, 4)]) + [run(0, n)]), ({0: 0, 1: 0}, [(0, 4)]))

    def test_no_pair_left(self):
        line = DYING + net(0, (1, 1, 0, 0), [(0, 4), (8, 12)])
        for n, taken in ((0, 0), (1, 1), (2, 2), (3, 3), (4, 3), (200, 3)):
            told = ask(line + [run(0, n), run(0, 200), run(0, 200), count(0)])
            self.assertEqual(told[-4:], [[0, taken], [0, 3 - taken], [0, 0], [0, 0]])

    def test_no_pair_at_all(self):
        for n in (0, 1, 200):
            self.assertEqual(last(DYING + net(0, (0, 1), [(0, 4)]) + [run(0, n)]), [0, 0])
            self.assertEqual(last(DYING + net(0, (0, 0), [(0, name(0)), (4, name(4))]) + [run(0, n)]), [0, 0])

    def test_an_empty_net(self):
        for n in (0, 1, 200):
            self.assertEqual(last([make(0), run(0, n)]), [0, 0])
            self.assertEqual(last(DYING + [join(0, name(0), name(4)), run(0, n)]), [0, 0])

    def test_again_and_again(self):
        self.assertEqual(ask(ENDLESS + [run(0, 200)] * 20)[-20:], [[0, 200]] * 20)


class TheLowestPairEachTime(unittest.TestCase):
    def test_of_several(self):
        line = DYING + net(0, (0, 0, 0, 0, 0, 0), [(0, 20), (12, 4), (8, 16)])
        expected = [[0, 0, 1, 2], [0, 1, 2], [0, 2], [0]]
        for n in range(4):
            self.assertEqual(ask(line + [run(0, n), pairs(0)])[-2:], [[0, n], expected[n]])

    def test_what_comes_may_be_lower(self):
        # The step at 0 brings agents 0 and 3; they come before 1 and 2, which were there all the time.
        line = DYING + net(0, (1, 0, 0, 1), [(0, 12), (4, 8)])
        self.assertEqual(ask(line + [run(0, 1), pairs(0)])[-1], [0, 0, 1])
        self.assertEqual(ask(line + [run(0, 2), pairs(0)])[-1], [0, 1])

    def test_what_comes_may_be_higher(self):
        # Symbol 2: six new agents, in pairs; they get the numbers 0, 3, and then from 4 on.
        line = DYING + [symbol(0, 0), rule(0, 2, 2, [6] + [0] * 6 + [0, 4, 8, 12, 16, 20])]
        line += net(0, (2, 0, 0, 2), [(0, 12), (4, 8)])
        for n, expected in enumerate(([0, 0, 1], [0, 0, 1, 4, 6], [0, 1, 4, 6], [0, 4, 6], [0, 6], [0])):
            self.assertEqual(ask(line + [run(0, n), pairs(0)])[-2:], [[0, n], expected])

    def test_as_steps_by_hand(self):
        line = DYING + [symbol(0, 0), rule(0, 2, 2, [6] + [1] * 6 + [0, 20, 8, 12, 16, 4])]
        line += net(0, (1, 2, 0, 2, 1, 0), [(0, 16), (4, 12), (8, 20)])
        by_hand = list(line)
        taken = 0
        while last(by_hand + [pairs(0)]) != [0]:
            by_hand.append(step(0, last(by_hand + [pairs(0)])[1]))
            taken += 1
            self.assertEqual(last(line + [run(0, taken)]), [0, taken])
            self.assertEqual(look(line + [run(0, taken)]), look(by_hand))
        self.assertEqual(taken, 10)
        self.assertEqual(last(line + [run(0, 200)]), [0, 10])


class NoRoom(unittest.TestCase):
    def crowd(self, agents, symbols):
        """Pairs of one symbol each; two of symbol 2 become four, two of symbol 0 go."""
        line = DYING + [symbol(0, 0), rule(0, 2, 2, [4, 2, 2, 2, 2, 0, 8, 4, 12])]
        chosen = [s for s in symbols for side in range(2)]
        chosen += [1] * (agents - len(chosen))
        line += net(0, chosen, [(port(a, 0), port(a + 1, 0)) for a in range(0, agents, 2)])
        return line

    def test_at_the_lowest(self):
        self.assertEqual(ask(self.crowd(64, [2]) + [run(0, 200), count(0)])[-2:], [[0, 0], [0, 64]])
        self.assertEqual(ask(self.crowd(62, [2]) + [run(0, 200), count(0)])[-2:], [[0, 1], [0, 64]])
        self.assertEqual(ask(self.crowd(60, [2]) + [run(0, 200), count(0)])[-2:], [[0, 2], [0, 64]])

    def test_even_if_there_is_room_at_another(self):
        for n in (1, 2, 200):
            line = self.crowd(64, [2, 0, 1]) + [run(0, n)]
            self.assertEqual(last(line), [0, 0])
            self.assertEqual(look(line), look(self.crowd(64, [2, 0, 1])))
            self.assertEqual(ask(line + [step(0, 2), run(0, 200)])[-2:], [[0], [0, 1]])

    def test_at_the_lowest_after_a_while(self):
        told = ask(self.crowd(64, [0, 2, 2, 0]) + [run(0, 200), count(0), pairs(0)])
        # Agents 0 and 1 went; 2 and 3 became 0, 1, 2 and 3, with 0 facing 2 and 1 facing 3.
        self.assertEqual(told[-3:-1], [[0, 2], [0, 64]])
        self.assertEqual(told[-1], [0, 0, 1] + list(range(4, 64, 2)))

    def test_it_is_not_refused(self):
        line = self.crowd(64, [2])
        self.assertEqual(ask(line + [step(0, 0), run(0, 5)])[-2:], [[-3], [0, 0]])


class NotWhole(unittest.TestCase):
    def test_with_pairs(self):
        for n in (0, 1, 200):
            for parted in (0, 1, 4, 5):
                line = ENDLESS + [part(0, parted), run(0, n)]
                self.assertEqual(last(line), [-9])
                self.assertEqual(look(line), look(line[:-1]))

    def test_without_a_pair(self):
        for n in (0, 1, 200):
            self.assertEqual(last(four_symbols(0) + [agent(0, 0), run(0, n)]), [-9])
            self.assertEqual(last(four_symbols(0) + net(0, (2,), [(0, 2)]) + [run(0, n)]), [-9])

    def test_too_many_comes_before(self):
        for n in (201, HIGHEST):
            self.assertEqual(last(ENDLESS + [part(0, 1), run(0, n)]), [-1])
            self.assertEqual(last(four_symbols(0) + [agent(0, 3), run(0, n)]), [-1])

    def test_no_room_is_no_refusal_beside_it(self):
        line = NoRoom().crowd(64, [2]) + [part(0, 252)]
        self.assertEqual(ask(line + [run(0, 5), join(0, 252, 248), run(0, 5)])[-3:], [[-9], [0], [0, 0]])

    def test_only_the_record_that_is_named(self):
        line = ENDLESS + four_symbols(1) + [agent(1, 0)]
        self.assertEqual(ask(line + [run(0, 3), run(1, 3)])[-2:], [[0, 3], [-9]])
        line = DYING + net(0, (0, 0), [(0, 4)]) + [make(1), run(1, 9), count(0), run(0, 9), count(0)]
        self.assertEqual(ask(line)[-4:], [[0, 0], [0, 2], [0, 1], [0, 0]])


if __name__ == "__main__":
    unittest.main()
