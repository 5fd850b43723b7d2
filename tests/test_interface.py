import copy
import inspect
import unittest

import pairnets.nets
from pairnets.nets import answers
from tests.helper import (HIGHEST, LONGEST, NOTHING, agent, ask, count, four_symbols, join, look, make, name, net,
                          one_behind_another, pairs, part, plain_row, port, read, read_name, rule, run, same, step,
                          symbol)


class Watched(list):
    """A list that can't be changed, not for a while either."""

    def refuse(self, *args, **kwargs):
        raise AssertionError("what was handed in is changed")

    append = extend = insert = pop = remove = clear = reverse = sort = refuse
    __setitem__ = __delitem__ = __iadd__ = __imul__ = refuse


EVERY_CALL = four_symbols(0) + four_symbols(1) + [
    rule(0, 1, 2, plain_row(1, 2, [0])), rule(0, 1, 1, [2, 0, 0, 0, 65, 4, 81]), rule(0, 1, 1, [0, 65, 81]),
    rule(1, 2, 2, [0, 65, 82, 66, 81]), rule(1, 1, 1, []), rule(1, 1, 1, [1, 1, 0, 65, 1, 81]),
    agent(0, 1), agent(0, 2), agent(0, 1), agent(0, 1), agent(1, 2), agent(1, 2), agent(1, 9),
    join(0, 0, 4), join(0, 8, 12), join(0, 1, name(0)), join(1, 0, 4), join(1, 0, 5), join(1, 0, 0),
    pairs(0), pairs(1), part(0, name(0)), part(0, name(0)), part(0, 99), make(2), pairs(2),
    step(0, 0), step(0, 3), join(0, 1, name(0)), join(0, 5, 6), join(0, 9, name(1)), join(0, 13, name(2)),
    read(0, 0), read_name(0, 0), count(0), same(), step(0, 0), step(0, 2), run(1, 0), run(1, 201),
    join(1, 1, 5), join(1, 2, 6), run(1, 200), run(0, 200), count(0), count(1), read(0, 0), read(0, 64),
    read_name(0, 2), read_name(0, 16), same(), run(2, 0), step(2, 0)]


class Interface(unittest.TestCase):
    def test_the_name_and_its_argument(self):
        self.assertEqual(list(inspect.signature(pairnets.nets.answers).parameters), ["calls"])

    def test_how_many_numbers_and_then_these(self):
        self.assertEqual(answers([1, 0]), [1, 0])
        self.assertEqual(answers([1, 2]), [1, -1])
        self.assertEqual(answers([7, 0]), [1, -10])
        self.assertEqual(answers([1, 1, 2, 1, 3]), [1, 0, 2, 0, 0])

    def test_call_by_call(self):
        line = [1, 0, 2, 0, 1, 2, 0, 0, 2, 0, 4, 3, 0, 0, 0, 3, 0, 65, 81, 3, 0, 1, 1, 0, 3, 0, 1, 1, 1, 0]
        line += [4, 0, 0, 4, 0, 0, 4, 0, 1, 4, 0, 1, 4, 0, 2, 5, 0, 0, 4, 5, 0, 8, 12, 5, 0, 5, 271]
        line += [7, 0, 6, 0, 271, 6, 0, 5]
        told = [1, 0, 2, 0, 0, 2, 0, 1, 1, -1, 1, 0, 1, -6, 1, 0]
        told += [2, 0, 0, 2, 0, 1, 2, 0, 2, 2, 0, 3, 1, -4, 1, 0, 1, 0, 1, 0, 3, 0, 0, 2, 2, 0, 5, 1, -5]
        self.assertEqual(answers(line), told)

    def test_call_by_call_with_steps(self):
        line = [13, 1, 0, 2, 0, 1, 3, 0, 0, 0, 3, 0, 65, 81, 4, 0, 0, 4, 0, 0, 5, 0, 0, 4, 8, 0, 0]
        line += [5, 0, 1, 256, 5, 0, 5, 257, 10, 0, 0, 10, 0, 2, 11, 0, 0, 11, 0, 2, 11, 0, 16, 12, 0]
        line += [8, 0, 1, 9, 0, 201, 9, 0, 0, 8, 0, 0, 9, 0, 9]
        line += [12, 0, 11, 0, 1, 13, 1, 1, 13, 5, 1, 257, 256, 13, 9, 1, 3, 10, 0, 0]
        told = [1, -10, 1, 0, 2, 0, 0, 1, 0, 2, 0, 0, 2, 0, 1, 1, 0, 1, -9, 1, 0, 1, 0]
        told += [6, 0, 0, 4, 256, 999, 999, 1, -4, 2, 0, 1, 2, 0, 999, 1, -1, 2, 0, 2]
        told += [1, -4, 1, -1, 2, 0, 0, 1, 0, 2, 0, 0]
        told += [2, 0, 0, 2, 0, 256, 1, -10, 1, 0, 2, 0, 0, 1, 0, 2, 0, 1, 2, 0, 0, 1, -4]
        self.assertEqual(answers(line), told)

    def test_pairs_have_no_count_of_their_own(self):
        line = [make(0), symbol(0, 0), rule(0, 0, 0, [0])] + [agent(0, 0)] * 6
        line += [join(0, 0, 20), join(0, 4, 16), join(0, 8, 12), pairs(0)]
        self.assertEqual(answers(one_behind_another(line))[-5:], [4, 0, 0, 1, 2])

    def test_one_call(self):
        self.assertEqual(answers([1, 1]), [1, 0])
        self.assertEqual(answers([3, 0, 0, 0, 0]), [1, -10])

    def test_two_hundred_calls(self):
        self.assertEqual(answers([1, 0] * 200), [1, 0] * 200)
        line = [make(0), symbol(0, 3)] + [agent(0, 0)] * 64 + [join(0, x, 255 - x) for x in range(128)]
        line += [part(0, 200), symbol(0, 0), agent(0, 0), make(1), pairs(0), agent(1, 0)]
        told = ask(line)
        self.assertEqual(len(told), 200)
        self.assertEqual(told[:2], [[0], [0, 0]])
        self.assertEqual(told[2:66], [[0, a] for a in range(64)])
        self.assertEqual(told[66:194], [[0]] * 128)
        self.assertEqual(told[194:], [[0, 55], [0, 1], [-2], [0], [0], [-4]])

    def test_two_hundred_calls_of_every_sort(self):
        line = []
        for o in (0, 1):
            line += [make(o), symbol(o, 0), symbol(o, 2), rule(o, 0, 0, [0]), rule(o, 0, 1, [2, 0, 0, 0, 81, 4, 82])]
            line += [agent(o, 0), agent(o, 1), agent(o, 1), agent(o, 0), agent(o, 0)]
            line += [join(o, 0, 4), join(o, 5, 8), join(o, 6, 12), join(o, 9, 16), join(o, 10, name(0))]
        told = [[0], [0, 0], [0, 1], [0], [0], [0, 0], [0, 1], [0, 2], [0, 3], [0, 4]] + [[0]] * 5
        told += told
        turn = [pairs(0), step(0, 0), pairs(0), same(), read(0, 0), step(1, 0), same(), run(0, 200), count(0),
                read_name(0, 0), run(1, 1), same(), run(1, 200), same(), part(1, name(0)), same(), join(1, 8, name(0)),
                agent(0, 0), agent(1, 0)]
        self.assertEqual(len(line) + len(turn), 49)
        # Agent 2 is all that's left, at name 0.
        told += [[0, 0], [0], [0, 0, 1], [0, 0], [0, 0, 8, NOTHING, NOTHING, NOTHING], [0], [0, 1], [0, 3], [0, 1],
                 [0, 8], [0, 1], [0, 0], [0, 2], [0, 1], [0, 8], [0, 0], [0], [0, 0], [0, 0]]
        # Once more from the beginning, till the line is full.
        whole = ((line + turn) * 5)[:LONGEST]
        self.assertEqual(len(whole), 200)
        self.assertEqual({call[0] for call in whole}, set(range(1, 14)))
        self.assertEqual(ask(whole), (told * 5)[:LONGEST])

    def test_as_much_work_as_a_line_can_hold(self):
        row = [2, 0, 0, 0, 4, 1, 65, 2, 66, 3, 67, 5, 81, 6, 82, 7, 83]
        line = [make(0), symbol(0, 3), rule(0, 0, 0, row)] + net(0, [0, 0], [(0, 4), (1, 5), (2, 6), (3, 7)])
        line += [run(0, 200)] * (LONGEST - len(line))
        self.assertEqual(ask(line)[9:], [[0, 200]] * 191)
        self.assertEqual(look(line[:50]), ({0: 0, 1: 0}, [(0, 4), (1, 5), (2, 6), (3, 7)]))

    def test_a_rule_with_a_long_row(self):
        line = four_symbols(0)
        for size in (1, 2, 1000, 10000, 29900):
            for number in (0, 1, 7, HIGHEST):
                told = answers(one_behind_another(line + [rule(0, 1, 1, [number] * size), symbol(0, 0), make(1)]))
                self.assertEqual(told[-7:], [1, -6, 2, 0, 4, 1, 0])

    def test_a_long_row_on_no_record(self):
        told = ask([rule(0, 1, 1, [1, 0] * 14000), make(0), rule(1, 0, 0, [7] * 1000), pairs(0)])
        self.assertEqual(told, [[-10], [0], [-10], [0]])

    def test_a_row_of_numbers_like_calls(self):
        told = answers([1, 0, 3, 0, 0, 0, 4, 1, 1, 1, 1, 7, 1, 2, 0, 0])
        self.assertEqual(told, [1, 0, 1, -4, 1, -10, 2, 0, 0])

    def test_the_list_is_the_same_afterwards(self):
        line = one_behind_another(EVERY_CALL)
        before = copy.copy(line)
        answers(line)
        self.assertEqual(line, before)
        for number, old in zip(line, before):
            self.assertIs(type(number), type(old))

    def test_the_list_is_not_changed_for_a_while(self):
        line = one_behind_another(EVERY_CALL)
        self.assertEqual(answers(Watched(line)), answers(line))

    def test_what_comes_back_is_new(self):
        line = [1, 0]
        told = answers(line)
        self.assertIsNot(told, line)
        told.append(5)
        self.assertEqual(answers(line), [1, 0])

    def test_the_same_list_twice(self):
        line = one_behind_another(EVERY_CALL)
        first = answers(line)
        self.assertEqual(answers(line), first)
        self.assertEqual(answers(line + line)[:len(first)], first)

    def test_nothing_is_kept(self):
        answers(one_behind_another(EVERY_CALL))
        for o in (0, 1):
            self.assertEqual(answers(pairs(o)), [1, -10])
            self.assertEqual(ask([make(o), symbol(o, 0), agent(o, 0), pairs(o)]), [[0], [0, 0], [0, 0], [0]])
            self.assertEqual(answers(same()), [1, -10])
            self.assertEqual(look([make(o)], o), ({}, []))

    def test_whole_numbers_and_a_list(self):
        told = answers(one_behind_another(EVERY_CALL))
        self.assertIs(type(told), list)
        for number in told:
            self.assertIs(type(number), int)


class RefusedCallsChangeNothing(unittest.TestCase):
    BEFORE = four_symbols(0) + [
        rule(0, 1, 2, plain_row(1, 2, [0])), agent(0, 1), agent(0, 2), agent(0, 1), agent(0, 1), join(0, 0, 4),
        join(0, 8, 12), join(0, 1, name(0)), join(0, name(1), name(15))]
    LOOKS = [[pairs(0)], [pairs(1)], [agent(0, 3)], [symbol(0, 0)], [rule(0, 1, 1, [0, 65, 81]), pairs(0)],
             [rule(0, 1, 2, plain_row(1, 2, [0]))], [rule(0, 3, 3, [0, 65, 81, 66, 82, 67, 83])],
             [rule(0, 0, 0, [0])], [make(1), pairs(1), symbol(1, 0)], [step(0, 0)], [run(0, 0)], [count(0)], [count(1)],
             [same()], [make(1), same()]]
    LOOKS += [[read(0, a)] for a in range(5)] + [[read_name(0, n)] for n in range(16)]
    # Joined till the net is whole, a step can be taken.
    LOOKS += [[join(0, port(a, j), name(n)) for a, j, n in ((1, 1, 2), (1, 2, 3), (2, 1, 4), (3, 1, 5))] +
              [step(0, 0), read(0, 0), read_name(0, 0), run(0, 5), count(0)]]
    LOOKS += [[part(0, x)] for x in [0, 1, 4, 5, 6, 8, 9, 12, 13] + [name(n) for n in range(16)]]
    REFUSED = [
        (make(2), -1), (make(HIGHEST), -1), (symbol(1, 0), -10), (agent(2, 0), -10), (join(1, 258, 259), -10),
        (part(1, 0), -10), (pairs(1), -10), (rule(1, 1, 1, [0, 65, 81]), -10), (symbol(0, 4), -1),
        (symbol(0, HIGHEST), -1), (rule(0, 4, 1, [0]), -4), (rule(0, 1, 4, [0]), -4),
        (rule(0, 2, 1, plain_row(2, 1, [0])), -5), (rule(0, 1, 1, []), -6), (rule(0, 1, 1, [0, 65]), -6),
        (rule(0, 3, 3, [0, 65, 81]), -6), (rule(0, 0, 0, [0, 64, 80]), -6), (rule(0, 1, 1, [1, 1, 0, 65, 1, 81]), -7),
        (rule(0, 3, 3, [0, 65, 66, 67, 81, 82, 83]), -7), (agent(0, 4), -4), (join(0, 5, 5), -4),
        (join(0, 5, 7), -4), (join(0, 272, 5), -4), (join(0, 5, 0), -5), (join(0, 4, 5), -5), (join(0, 0, 8), -5),
        (join(0, name(2), name(1)), -5), (join(0, name(0), name(2)), -5), (part(0, 7), -4), (part(0, 272), -4),
        (part(0, 5), -5), (part(0, name(3)), -5), (step(1, 0), -10), (step(0, 1), -4), (step(0, 2), -4),
        (step(0, 4), -4), (step(0, 64), -4), (step(0, HIGHEST), -4), (step(0, 0), -9), (run(1, 0), -10),
        (run(0, 201), -1), (run(0, HIGHEST), -1), (run(0, 0), -9), (run(0, 200), -9), (read(1, 0), -10),
        (read(0, 4), -4), (read(0, 64), -4), (read_name(2, 0), -10), (read_name(0, 16), -1),
        (read_name(0, HIGHEST), -1), (count(1), -10), (same(), -10)]

    def test_each_of_them(self):
        for look in self.LOOKS:
            expected = ask(self.BEFORE + look)[len(self.BEFORE):]
            for call, refusal in self.REFUSED:
                told = ask(self.BEFORE + [call] + look)[len(self.BEFORE):]
                self.assertEqual(told, [[refusal]] + expected, (call, look))

    def test_when_there_is_no_room(self):
        line = [make(0)] + [symbol(0, 0)] * 16 + [agent(0, 15)] * 64
        told = ask(line + [symbol(0, 0), agent(0, 0), agent(0, 16), symbol(0, 0), agent(0, 0)])
        self.assertEqual(told[-5:], [[-2], [-2], [-4], [-2], [-2]])


if __name__ == "__main__":
    unittest.main()
