"""The function answers: how calls stand in the list and what comes back."""

import unittest

from movingmembers.cluster import answers
from play import (
    Play,
    answered,
    begin,
    change_member,
    committed,
    deliver,
    deliver_copy,
    drop,
    heartbeat,
    leaders,
    messages,
    node,
    numbers,
    one_list,
    propose,
    restart,
    start_election,
    stop,
)

EXAMPLE = [
    (begin(0, 1, 2), [0]),
    (start_election(0), [1]),
    (messages(), [2, 0, 1, 0, 1, 0, 0, 0, 2, 0, 1, 0, 0]),
    (deliver(0), [1]),
    (deliver(1), [3]),
    (deliver(1), [1]),
    (deliver(2), [4]),
    (propose(0, 9), [2]),
    (change_member(0, 3), [15]),
    (change_member(0, 4), [-6]),
    (node(0), [1, 1, 0, 2, 1, 15, 3, 1, 2, 0, 1, 0, 9, 1, 1, 15, 0, 5, 1, 2, 1, 1, 1, 0, 1, 0, 0, 0]),
    (heartbeat(0), [3]),
    (deliver(4), [1]),
    (deliver(2), [1]),
    (deliver(3), [2]),
    (deliver(3), [4]),
    (committed(), [3, 1, 2, 0, 1, 0, 9, 1, 1, 15]),
    (leaders(), [1, 1, 0]),
]

EXAMPLE_CALLS = one_list([call for call, result in EXAMPLE])

# Every operation, some of them with an error, and every kind of message shown.
EVERY_OPERATION = one_list([
    begin(0, 1), start_election(0), deliver_copy(0), messages(), deliver(1), deliver_copy(1), messages(), drop(0),
    drop(200), stop(1), restart(1), propose(0, 1), heartbeat(0), change_member(0, 2), node(0), node(1), node(7),
    committed(), leaders(),
])


class Examples(unittest.TestCase):
    def test_every_row(self):
        self.assertEqual(answered(*[call for call, result in EXAMPLE]), [result for call, result in EXAMPLE])

    def test_number_by_number(self):
        self.assertEqual(answers(EXAMPLE_CALLS), one_list([[len(result)] + result for call, result in EXAMPLE]))


class Form(unittest.TestCase):
    LISTS = (EXAMPLE_CALLS, EVERY_OPERATION)

    def test_list_handed_in_is_unchanged(self):
        for calls in self.LISTS:
            before = list(calls)
            answers(calls)
            self.assertEqual(calls, before)

    def test_twice_the_same(self):
        for calls in self.LISTS:
            self.assertEqual(answers(calls), answers(calls))

    def test_what_is_answered_is_a_new_list(self):
        first = answers(EVERY_OPERATION)
        kept = list(first)
        first.clear()
        self.assertEqual(answers(EVERY_OPERATION), kept)

    def test_nothing_is_kept(self):
        self.assertEqual(numbers(begin(0), start_election(0)), [0, 1])
        self.assertEqual(numbers(start_election(0)), [-9])
        self.assertEqual(numbers(leaders()), [-9])
        self.assertEqual(numbers(begin(0), start_election(0)), [0, 1])

    def test_whole_numbers_alone(self):
        for calls in self.LISTS:
            given = answers(calls)
            self.assertIs(list, given.__class__)
            for number in given:
                self.assertIs(int, number.__class__)

    def test_one_call(self):
        self.assertEqual(answers([0, 1, 4]), [1, 0])
        self.assertEqual(answers([0, 0]), [1, -1])
        self.assertEqual(answers([1, 0]), [1, -9])
        self.assertEqual(answers([13]), [1, -9])

    def test_begin_takes_as_many_numbers_as_it_tells(self):
        self.assertEqual(answers([0, 2, 1, 2, 1, 1, 0, 1, 3, 1, 3]), [1, 0, 1, 1, 1, 0, 1, 1])
        self.assertEqual(answers([0, 10, 0, 1, 2, 3, 4, 5, 6, 7, 8, 9, 0, 1, 0, 1, 0]), [1, -1, 1, 0, 1, 1])

    def test_calls_without_arguments_take_no_number(self):
        # Each is followed by a number that would be an argument otherwise.
        self.assertEqual(answers([0, 1, 3, 10, 12, 13, 8, 3]), [1, 0, 1, 0, 1, 0, 1, 0, 1, 0])

    def test_an_error_is_its_code_alone(self):
        calls = [begin(0), node(5), drop(0), stop(5), restart(0), heartbeat(0), messages()]
        self.assertEqual(answers(one_list(calls)), [1, 0, 1, -1, 1, -1, 1, -1, 1, -2, 1, -2, 1, 0])

    def test_a_hundred_calls(self):
        calls = [begin(1)] + [start_election(1)] + [propose(1, k) for k in range(98)]
        self.assertEqual(numbers(*calls), [0, 1] + list(range(2, 100)))

    def test_a_hundred_calls_that_show_much(self):
        calls = [begin(0, 1, 2, 3, 4), start_election(0), deliver(0), deliver(0), deliver(2), deliver(2)]
        calls += [propose(0, k) for k in range(60)] + [heartbeat(0)] * 20 + [messages()] * 14
        given = answered(*calls)
        self.assertEqual(len(given), 100)
        # Beside the appends there are two vote requests.
        self.assertEqual(len(given[-1]), 1 + 2 * 6 + 4 * (8 + 3) + 80 * (8 + 3 * 61))

    def test_play_and_answers_agree(self):
        play = Play(0, 1, 2)
        for call, result in EXAMPLE[1:]:
            if len(result) == 1:
                self.assertEqual([play.do(call)], result)
        self.assertEqual(numbers(*play.calls), play.results)


class NoNodes(unittest.TestCase):
    CALLS = [
        start_election(0), start_election(9), propose(0, 0), propose(9, 200), change_member(0, 0),
        change_member(9, 9), heartbeat(0), heartbeat(9), deliver(0), deliver(200), deliver_copy(0),
        deliver_copy(200), drop(0), drop(200), stop(0), stop(9), restart(0), restart(9), messages(),
        node(0), node(9), committed(), leaders(),
    ]

    def test_every_operation_but_begin(self):
        for call in self.CALLS:
            self.assertEqual(answered(call), [[-9]])

    def test_one_behind_another(self):
        self.assertEqual(numbers(*self.CALLS), [-9] * len(self.CALLS))
        self.assertEqual(numbers(*reversed(self.CALLS)), [-9] * len(self.CALLS))

    def test_after_a_begin_that_fails(self):
        for members in ([], [1, 1], [5]):
            for call in self.CALLS:
                self.assertEqual(numbers(begin(*members), call), [-1, -9])

    def test_begin_ends_it(self):
        calls = [heartbeat(0), begin(), heartbeat(0), begin(0), heartbeat(0), heartbeat(5)]
        self.assertEqual(numbers(*calls), [-9, -1, -9, 0, -2, -1])
        self.assertEqual(answered(leaders(), begin(0), leaders()), [[-9], [0], [0]])


if __name__ == "__main__":
    unittest.main()
