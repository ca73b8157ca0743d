import unittest

from tests.helper import GREATEST, add, ask, begin, last, make, send, undo


class Begin(unittest.TestCase):
    def test_one_to_six_desks(self):
        for desks in range(1, 7):
            self.assertEqual(ask(begin(desks)), [[0]])

    def test_not_one_to_six(self):
        for desks in (0, 7, 8, 2 ** 63, GREATEST):
            self.assertEqual(ask(begin(desks)), [[-1]])

    def test_desks_are_numbered_from_0(self):
        for desks in range(1, 7):
            told = ask(begin(desks), *[add(desk, 0, 1) for desk in range(desks + 1)])
            self.assertEqual(told, [[0]] + [[deed] for deed in range(desks)] + [[-2]])

    def test_without_begin_there_is_one_desk(self):
        self.assertEqual(ask(make(0, 0, 0), make(1, 0, 0)), [[0, 2], [-2]])

    def test_a_second_begin_starts_all_anew(self):
        told = ask(begin(3), make(0, 0, 0), make(2, 0, 0), send(0, 1),
                   begin(2), undo(0), add(0, 2, 1), make(0, 0, 1), send(2, 1), send(0, 1), make(0, 0, 0))
        self.assertEqual(told[4:], [[0], [-3], [-3], [-1], [-2], [0, 0], [0, 2]])

    def test_a_second_begin_may_have_the_same_number(self):
        self.assertEqual(ask(begin(1), make(0, 0, 0), begin(1), make(0, 0, 0))[-1], [0, 2])

    def test_a_refused_begin_leaves_all(self):
        told = ask(begin(2), make(0, 0, 0), send(0, 1), begin(0), begin(7), make(1, 0, 0), make(0, 0, 1), send(0, 1))
        self.assertEqual(told[3:], [[-1], [-1], [1, 3], [2, 4], [1, 2]])

    def test_counts_start_anew(self):
        told = last(begin(1), *[add(0, 0, 1)] * 21, begin(1), make(0, 0, 0), undo(0))
        self.assertEqual(told, [0])

    def test_a_full_house_can_begin_again(self):
        told = ask(*[add(0, 0, 1)] * 101, begin(1), add(0, 0, 1))
        self.assertEqual(told[99:], [[99], [-5], [0], [0]])

    def test_letters_start_anew(self):
        told = ask(begin(2), *[send(0, 1)] * 201, begin(2), send(0, 1))
        self.assertEqual(told[200:], [[199, 0], [-5], [0], [0, 0]])
