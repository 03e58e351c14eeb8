"""The function answers: how calls stand in the list and what comes back."""

import unittest

from movingmembers.cluster import UnknownOperation, answers
from play import (
    Play,
    answered,
    begin,
    change_member,
    deliver,
    deliver_copy,
    entry_rows,
    heartbeat,
    node_row,
    numbers,
    one_list,
    propose,
    start_election,
)

EXAMPLE = [
    (begin(0, 1, 2), 0),
    (start_election(0), 1),
    (deliver(0), 1),
    (deliver(1), 3),
    (deliver(1), 1),
    (deliver(2), 4),
    (propose(0, 9), 2),
    (change_member(0, 3), 15),
    (change_member(0, 4), -6),
    (heartbeat(0), 3),
    (deliver(4), 1),
    (deliver(2), 1),
    (deliver(3), 2),
    (deliver(3), 4),
]


class Examples(unittest.TestCase):
    def test_answers(self):
        calls = one_list([call for call, result in EXAMPLE])
        self.assertEqual(answers(calls), one_list([[1, result] for call, result in EXAMPLE]))

    def test_what_is_kept_along_the_way(self):
        play = Play(0, 1, 2)
        play.do(start_election(0))
        self.assertEqual(play.message_rows(), [[0, 1, 0, 1, 0, 0], [0, 2, 0, 1, 0, 0]])
        for call, result in EXAMPLE[2:9]:
            self.assertEqual(play.do(call), result)
        self.assertEqual(
            node_row(play.node(0)),
            [1, 1, 0, 2, 1, 15, 3, 1, 2, 0, 1, 0, 9, 1, 1, 15, 0, 5, 1, 2, 1, 1, 1, 0, 1, 0, 0, 0],
        )
        for call, result in EXAMPLE[9:]:
            self.assertEqual(play.do(call), result)
        self.assertEqual(entry_rows(play.state.committed), [3, 1, 2, 0, 1, 0, 9, 1, 1, 15])
        self.assertEqual(play.state.leaders, [(1, 0)])


class Form(unittest.TestCase):
    def test_list_handed_in_is_unchanged(self):
        calls = one_list([call for call, result in EXAMPLE])
        before = list(calls)
        answers(calls)
        self.assertEqual(calls, before)

    def test_twice_the_same(self):
        calls = one_list([call for call, result in EXAMPLE])
        self.assertEqual(answers(calls), answers(calls))

    def test_nothing_is_kept(self):
        self.assertEqual(numbers(begin(0), start_election(0)), [0, 1])
        self.assertEqual(numbers(start_election(0)), [-9])
        self.assertEqual(numbers(begin(0), start_election(0)), [0, 1])

    def test_whole_numbers_alone(self):
        for number in answers(one_list([call for call, result in EXAMPLE])):
            self.assertIs(int, number.__class__)

    def test_one_call(self):
        self.assertEqual(answers([0, 1, 4]), [1, 0])
        self.assertEqual(answers([0, 0]), [1, -1])
        self.assertEqual(answers([1, 0]), [1, -9])

    def test_begin_takes_as_many_numbers_as_it_tells(self):
        self.assertEqual(answers([0, 2, 1, 2, 1, 1, 0, 1, 3, 1, 3]), [1, 0, 1, 1, 1, 0, 1, 1])
        self.assertEqual(answers([0, 10, 0, 1, 2, 3, 4, 5, 6, 7, 8, 9, 0, 1, 0, 1, 0]), [1, -1, 1, 0, 1, 1])

    def test_a_hundred_calls(self):
        calls = [begin(1)] + [start_election(1)] + [propose(1, k) for k in range(98)]
        self.assertEqual(numbers(*calls), [0, 1] + list(range(2, 100)))

    def test_play_and_answers_agree(self):
        play = Play(0, 1, 2)
        for call, result in EXAMPLE[1:]:
            play.do(call)
        self.assertEqual(numbers(*play.calls), play.results)

    def test_a_number_that_is_no_operation_built_so_far(self):
        with self.assertRaises(UnknownOperation):
            answers([0, 1, 0, 10])


class NoNodes(unittest.TestCase):
    CALLS = [
        start_election(0), start_election(9), propose(0, 0), propose(9, 200), change_member(0, 0),
        change_member(9, 9), heartbeat(0), heartbeat(9), deliver(0), deliver(200), deliver_copy(0),
        deliver_copy(200), [7, 0], [7, 200], [8, 0], [8, 9], [9, 0], [9, 9], [10], [11, 0], [11, 9],
        [12], [13],
    ]

    def test_every_operation_but_begin(self):
        for call in self.CALLS:
            self.assertEqual(answered(call), [[-9]])

    def test_one_behind_another(self):
        self.assertEqual(numbers(*self.CALLS), [-9] * len(self.CALLS))
        self.assertEqual(numbers(*reversed(self.CALLS)), [-9] * len(self.CALLS))

    def test_after_a_begin_that_fails(self):
        for members in ([], [1, 1], [5]):
            for call in self.CALLS:
                self.assertEqual(numbers(begin(*members), call), [-1, -9])

    def test_begin_ends_it(self):
        calls = [heartbeat(0), begin(), heartbeat(0), begin(0), heartbeat(0), heartbeat(5)]
        self.assertEqual(numbers(*calls), [-9, -1, -9, 0, -2, -1])


if __name__ == "__main__":
    unittest.main()
