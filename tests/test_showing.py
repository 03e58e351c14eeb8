"""The operations messages, node, committed and leaders, by the numbers that they answer."""

import unittest

from play import (
    answered,
    begin,
    change_member,
    committed,
    deliver,
    deliver_copy,
    drop,
    heartbeat,
    leaders,
    messages,
    node,
    propose,
    restart,
    start_election,
    stop,
)

# Node 0 leads nodes 1 and 2 in term 1; message 0 is a vote request, 1 and 2 are appends.
LED = [begin(0, 1, 2), start_election(0), deliver(0), deliver(1)]
APPENDS = [2, 1, 0, 1, 0, 0, 1, 1, 2, 0, 0, 2, 2, 0, 1, 0, 0, 1, 1, 2, 0, 0]


def last(*calls):
    """What the last of these calls answers."""
    return answered(*calls)[-1]


class Messages(unittest.TestCase):
    def test_none(self):
        self.assertEqual(last(begin(0, 1, 2), messages()), [0])
        self.assertEqual(last(begin(0, 1), start_election(0), drop(0), messages()), [0])

    def test_vote_requests(self):
        calls = [begin(1, 4, 0), start_election(1)]
        self.assertEqual(last(*calls, messages()), [2, 0, 0, 1, 1, 0, 0, 0, 4, 1, 1, 0, 0])

    def test_vote_request_with_a_log(self):
        calls = [begin(3), start_election(3), propose(3, 7), change_member(3, 1), stop(3), restart(3)]
        self.assertEqual(last(*calls, start_election(3), messages()), [1, 0, 1, 3, 2, 3, 1])

    def test_vote_reply_granted(self):
        calls = [begin(0, 1), start_election(0), deliver(0), messages()]
        self.assertEqual(last(*calls), [1, 1, 0, 1, 1, 1])

    def test_vote_reply_not_granted(self):
        calls = [begin(0, 1), start_election(0), start_election(1), deliver(0), messages()]
        self.assertEqual(last(*calls), [2, 0, 0, 1, 1, 0, 0, 1, 0, 1, 1, 0])

    def test_append_with_one_entry(self):
        self.assertEqual(last(*LED, messages()), [3, 0, 2, 0, 1, 0, 0] + APPENDS)

    def test_append_with_no_entries(self):
        calls = LED + [deliver(1), deliver(2), drop(0), drop(0), heartbeat(0), messages()]
        # Node 1 has everything; node 2 is sent everything from its next index, 1, on.
        self.assertEqual(last(*calls), [2, 2, 1, 0, 1, 1, 1, 0, 1, 2, 2, 0, 1, 0, 0, 1, 1, 2, 0, 1])

    def test_append_with_several_entries(self):
        calls = LED + [deliver(1), deliver(2), propose(0, 99), change_member(0, 4), drop(0), drop(0)]
        self.assertEqual(
            last(*calls, heartbeat(0), messages()),
            [3]
            + [2, 1, 0, 1, 1, 1, 2, 1, 0, 99, 1, 1, 23, 1]
            + [2, 2, 0, 1, 0, 0, 3, 1, 2, 0, 1, 0, 99, 1, 1, 23, 1]
            + [2, 4, 0, 1, 0, 0, 3, 1, 2, 0, 1, 0, 99, 1, 1, 23, 1],
        )

    def test_append_behind_entries_of_an_earlier_term(self):
        calls = LED + [deliver(1), deliver(2), propose(0, 5), drop(0), drop(0), heartbeat(0), drop(1)]
        calls += [deliver(0), deliver(0), propose(0, 6), heartbeat(0), drop(1), messages()]
        self.assertEqual(last(*calls), [1, 2, 1, 0, 1, 2, 1, 1, 1, 0, 6, 2])
        calls += [stop(0), restart(0), start_election(0), drop(0), drop(1), deliver(0), deliver(0), drop(1)]
        self.assertEqual(last(*calls, messages()), [1, 2, 1, 0, 2, 3, 1, 1, 2, 2, 0, 0])

    def test_append_reply_with_success(self):
        self.assertEqual(last(*LED, drop(0), deliver(1), messages()), [2] + APPENDS[:11] + [3, 0, 2, 1, 1, 1])

    def test_append_reply_with_success_to_no_entries(self):
        calls = LED + [drop(0), deliver(0), drop(0), deliver(0), heartbeat(0), drop(1), deliver(0), messages()]
        self.assertEqual(last(*calls), [1, 3, 0, 1, 1, 1, 1])

    def test_append_reply_without_success_for_the_term(self):
        calls = LED + [start_election(2), start_election(2), deliver(2)] + [drop(0)] * 6
        self.assertEqual(last(*calls, messages()), [1, 3, 0, 2, 2, 0, 0])

    def test_append_reply_without_success_for_the_log(self):
        calls = LED + [deliver(1), deliver(2), drop(0), drop(0), stop(0), restart(0), start_election(0)]
        calls += [deliver(0), deliver(1), drop(0), deliver(0), deliver(1), drop(0), change_member(0, 4)]
        calls += [heartbeat(0), drop(0), drop(0), messages(), deliver(0), messages()]
        given = answered(*calls)
        self.assertEqual(given[17], [23])
        # The new member has an empty log, but what it is sent comes behind a first entry.
        self.assertEqual(given[21], [1, 2, 4, 0, 2, 1, 1, 2, 2, 2, 0, 2, 1, 23, 2])
        self.assertEqual(given[23], [1, 3, 0, 4, 2, 0, 0])

    def test_each_kind_in_one_answer(self):
        calls = LED + [propose(0, 3), deliver_copy(1), start_election(3), deliver(5)]
        self.assertEqual(
            last(*calls, messages()),
            [7, 0, 2, 0, 1, 0, 0]
            + APPENDS
            + [3, 0, 1, 1, 1, 1]
            + [0, 0, 3, 1, 0, 0, 0, 2, 3, 1, 0, 0]
            + [1, 3, 1, 1, 0],
        )

    def test_in_the_order_in_which_they_were_sent(self):
        calls = [begin(0, 1, 2, 3), start_election(0), deliver(1), drop(0), messages()]
        self.assertEqual(last(*calls), [2, 0, 3, 0, 1, 0, 0, 1, 0, 2, 1, 1])

    def test_a_hundred_at_most(self):
        calls = [begin(0, 1, 2, 3, 4)] + [start_election(0)] * 26
        given = last(*calls, messages())
        self.assertEqual((given[0], len(given)), (100, 1 + 600))
        self.assertEqual(given[-6:], [0, 4, 0, 25, 0, 0])
        given = last(*calls, drop(0), start_election(0), messages())
        self.assertEqual((given[0], given[-6:]), (100, [0, 1, 0, 27, 0, 0]))

    def test_changes_nothing(self):
        self.assertEqual(answered(*LED, messages(), messages())[-2:], [[3, 0, 2, 0, 1, 0, 0] + APPENDS] * 2)


class Node(unittest.TestCase):
    def test_as_at_first(self):
        for number in range(5):
            self.assertEqual(last(begin(1, 3), node(number)), [1, 0, -1, 0, 0, 10, 0, 0, 0])

    def test_candidate_with_votes_in_the_order_received(self):
        calls = [begin(0, 1, 2, 3, 4), start_election(2), deliver(3), deliver(3), node(2)]
        self.assertEqual(last(*calls), [1, 1, 2, 1, 0, 31, 0, 2, 2, 4, 0])
        # Its own vote does not count where it is no member, so two more are not enough.
        calls = [begin(0, 1, 3, 4), start_election(2), deliver(2), deliver(0), deliver(2), deliver(2), node(2)]
        self.assertEqual(last(*calls), [1, 1, 2, 1, 0, 27, 0, 3, 2, 3, 0, 0])

    def test_leader_with_its_indexes(self):
        self.assertEqual(
            last(*LED, propose(0, 4), deliver(2), deliver(2), node(0)),
            [1, 1, 0, 2, 1, 7, 2, 1, 2, 0, 1, 0, 4, 0, 5, 1, 1, 2, 1, 1, 0, 0, 1, 0, 0],
        )

    def test_leader_as_it_becomes_one(self):
        self.assertEqual(
            last(*LED, node(0)), [1, 1, 0, 2, 0, 7, 1, 1, 2, 0, 0, 5, 1, 1, 1, 1, 1, 0, 0, 0, 0, 0]
        )

    def test_follower_that_has_voted(self):
        self.assertEqual(last(*LED, node(1)), [1, 1, 0, 0, 0, 7, 0, 0, 0])
        self.assertEqual(last(*LED, deliver(1), node(1)), [1, 1, 0, 0, 0, 7, 1, 1, 2, 0, 0, 0])

    def test_voted_for_none_in_a_later_term(self):
        # Node 1, two terms on, refuses node 0 and tells it of its term.
        calls = [begin(0, 1, 2), start_election(0), start_election(1), start_election(1), node(0)]
        self.assertEqual(last(*calls), [1, 1, 0, 1, 0, 7, 0, 1, 0, 0])
        self.assertEqual(last(*calls, deliver(0), deliver(5), node(0)), [1, 2, -1, 0, 0, 7, 0, 0, 0])

    def test_members_of_the_last_configuration(self):
        calls = [begin(0), start_election(0), change_member(0, 3), node(0), node(3)]
        given = answered(*calls)
        self.assertEqual(given[3][5], 9)
        self.assertEqual(given[3][6:13], [2, 1, 2, 0, 1, 1, 9])
        self.assertEqual(given[4][5], 1)

    def test_stopped(self):
        self.assertEqual(last(begin(0), stop(3), node(3)), [0, 0, -1, 0, 0, 1, 0, 0, 0])

    def test_node_4_and_node_5(self):
        calls = [begin(0), node(4), node(5), node(9)]
        self.assertEqual(answered(*calls), [[0], [1, 0, -1, 0, 0, 1, 0, 0, 0], [-1], [-1]])

    def test_changes_nothing(self):
        given = answered(*LED, node(0), node(0), node(0))
        self.assertEqual(given[-3], given[-2])
        self.assertEqual(given[-2], given[-1])


class Committed(unittest.TestCase):
    def test_none(self):
        self.assertEqual(last(begin(0), committed()), [0])
        self.assertEqual(last(*LED, propose(0, 1), committed()), [0])

    def test_every_kind_of_entry(self):
        calls = [begin(1), start_election(1), propose(1, 42), change_member(1, 0), change_member(1, 1), committed()]
        self.assertEqual(answered(*calls)[3:], [[3], [-6], [2, 1, 2, 0, 1, 0, 42]])
        calls = [begin(1, 0), start_election(1), deliver(0), deliver(0), deliver(0), deliver(0), propose(1, 42)]
        calls += [change_member(1, 0), committed()]
        self.assertEqual(last(*calls), [3, 1, 2, 0, 1, 0, 42, 1, 1, 2])

    def test_stopping_takes_nothing_away(self):
        calls = [begin(1), start_election(1), propose(1, 42), stop(1), committed(), restart(1), committed()]
        given = answered(*calls)
        self.assertEqual((given[4], given[6]), ([2, 1, 2, 0, 1, 0, 42],) * 2)


class Leaders(unittest.TestCase):
    def test_none(self):
        self.assertEqual(last(begin(0), leaders()), [0])
        self.assertEqual(last(begin(0, 1), start_election(0), leaders()), [0])

    def test_in_order(self):
        calls = LED + [start_election(1), deliver(4), deliver(4), stop(1), leaders()]
        self.assertEqual(last(*calls), [2, 1, 0, 2, 1])

    def test_same_node_again(self):
        calls = [begin(2), start_election(2), stop(2), restart(2), start_election(2), leaders()]
        self.assertEqual(last(*calls), [2, 1, 2, 2, 2])


class BeginAgain(unittest.TestCase):
    def test_nothing_of_before_is_left(self):
        calls = LED + [deliver(2), deliver(2), propose(0, 9), stop(1), start_election(2), begin(0, 4)]
        shows = [messages(), committed(), leaders()] + [node(number) for number in range(5)]
        given = answered(*calls, *shows)
        self.assertEqual(given[-8:-5], [[0], [0], [0]])
        self.assertEqual(given[-5:], [[1, 0, -1, 0, 0, 17, 0, 0, 0]] * 5)

    def test_something_was_there_before(self):
        calls = LED + [deliver(2), deliver(2), propose(0, 9), stop(1), start_election(2), begin(5)]
        given = answered(*calls, committed(), leaders(), node(1))
        self.assertEqual(given[-4:], [[-1], [1, 1, 2, 0], [1, 1, 0], [0, 1, 0, 0, 0, 7, 0, 0, 0]])


if __name__ == "__main__":
    unittest.main()
