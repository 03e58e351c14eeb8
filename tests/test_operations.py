"""The operations 0 to 7: ordinary inputs, the errors in their order, and the edges."""

import unittest

from movingmembers.messages import APPEND, APPEND_REPLY, VOTE_REPLY, VOTE_REQUEST
from play import (
    BECAME_LEADER,
    CANDIDATE,
    COMMITTED,
    COUNTED,
    FOLLOWER,
    IGNORED,
    LEADER,
    REPLIED,
    Play,
    PlayTest,
    begin,
    change_member,
    deliver,
    deliver_copy,
    drop,
    heartbeat,
    numbers,
    propose,
    settled,
    start_election,
    stop,
)

AS_AT_FIRST = [1, 0, -1, 0, 0]


class Begin(PlayTest):
    def test_ordinary(self):
        for members, mask in (([0], 1), ([4], 16), ([2, 0], 5), ([4, 3, 2, 1, 0], 31)):
            play = Play(*members)
            self.assertEqual(play.results, [0])
            for number in range(5):
                self.assertEqual(play.row(number), AS_AT_FIRST + [mask, 0, 0, 0])
            self.assertEqual(play.snapshot()[1:], ([], [], []))

    def test_errors(self):
        self.assertEqual(numbers(begin()), [-1])
        self.assertEqual(numbers(begin(1, 1)), [-1])
        self.assertEqual(numbers(begin(0, 1, 2, 0)), [-1])
        self.assertEqual(numbers(begin(5)), [-1])
        self.assertEqual(numbers(begin(0, 1, 9)), [-1])
        self.assertEqual(numbers(begin(0, 1, 2, 3, 4, 5)), [-1])
        self.assertEqual(numbers(begin(7, 7)), [-1])
        self.assertEqual(numbers(begin(*([0] * 10))), [-1])

    def test_error_in_the_middle_leaves_everything(self):
        play = settled(0, 1, 2)
        play.do(heartbeat(0))
        for members in ([], [3, 3], [0, 5]):
            self.refused(play, begin(*members), -1)
        self.assertEqual(play.do(propose(0, 7)), 2)

    def test_again_in_the_middle(self):
        play = settled(0, 1, 2)
        play.do(heartbeat(0))
        self.assertEqual(play.do(begin(3, 4)), 0)
        self.assertEqual(play.snapshot(), Play(3, 4).snapshot())
        self.refused(play, deliver(0), -1)
        self.refused(play, propose(0, 1), -2)
        self.assertEqual(play.do(start_election(0)), 1)

    def test_again_by_the_numbers(self):
        calls = [begin(0), start_election(0), propose(0, 1), begin(0), propose(0, 1), start_election(0)]
        self.assertEqual(numbers(*calls), [0, 1, 2, 0, -2, 1])


class StartElection(PlayTest):
    def test_requests_in_ascending_order(self):
        play = Play(4, 2, 0, 1)
        self.assertEqual(play.do(start_election(2)), 1)
        self.assertEqual(play.message_rows(), [[0, 0, 2, 1, 0, 0], [0, 1, 2, 1, 0, 0], [0, 4, 2, 1, 0, 0]])
        self.assertEqual(play.row(2), [1, 1, 2, CANDIDATE, 0, 23, 0, 1, 2, 0])
        self.assertEqual(play.leaders(), [])

    def test_request_tells_the_log(self):
        play = settled(0, 1, 2)
        play.do(propose(0, 5))
        play.do(heartbeat(0))
        play.drain()
        play.do(start_election(1))
        self.assertEqual(play.message_rows(), [[0, 0, 1, 2, 2, 1], [0, 2, 1, 2, 2, 1]])

    def test_candidate_again(self):
        play = Play(0, 1, 2, 3, 4)
        play.elect(0, [1])
        self.assertEqual(play.node(0).votes, [0, 1])
        self.assertEqual(play.do(start_election(0)), 2)
        self.assertEqual(play.node(0).votes, [0])
        self.assertEqual(play.do(start_election(0)), 3)

    def test_one_member_alone(self):
        play = Play(2)
        self.assertEqual(play.do(start_election(2)), 1)
        self.assertEqual(
            play.row(2), [1, 1, 2, LEADER, 1, 4, 1, 1, 2, 0, 0, 5, 1, 1, 1, 1, 1, 0, 0, 0, 0, 0]
        )
        self.assertEqual(play.snapshot()[1:], ([], [(1, 2, 0)], [(1, 2)]))
        self.refused(play, start_election(2), -2)
        self.assertEqual(play.do(heartbeat(2)), 0)
        self.assertEqual(play.do(propose(2, 0)), 2)
        self.assertEqual(play.committed(), [(1, 2, 0), (1, 0, 0)])

    def test_no_member(self):
        play = Play(2)
        self.assertEqual(play.do(start_election(0)), 1)
        self.assertEqual(play.message_rows(), [[0, 2, 0, 1, 0, 0]])
        self.assertEqual(play.node(0).role, CANDIDATE)

    def test_two_members_need_both(self):
        play = Play(0, 1)
        play.do(start_election(0))
        self.assertEqual(play.node(0).role, CANDIDATE)
        play.deliver(VOTE_REQUEST, 1, 0)
        self.assertEqual(play.deliver(VOTE_REPLY, 0, 1), BECAME_LEADER)

    def test_node_4_and_node_5(self):
        self.assertEqual(numbers(begin(0), start_election(4), start_election(5), start_election(9)), [0, 1, -1, -1])

    def test_errors(self):
        play = settled(0, 1, 2)
        self.refused(play, start_election(5), -1)
        self.refused(play, start_election(0), -2)
        self.assertEqual(play.do(start_election(1)), 2)
        play.do(stop(2))
        self.refused(play, start_election(2), -3)
        self.refused(play, start_election(6), -1)

    def test_stopped_leader_is_refused_as_stopped(self):
        play = settled(0, 1, 2)
        play.do(stop(0))
        self.refused(play, start_election(0), -3)


class Propose(PlayTest):
    def test_ordinary(self):
        play = settled(0, 1, 2)
        self.assertEqual(play.do(propose(0, 7)), 2)
        self.assertEqual(play.do(propose(0, 7)), 3)
        self.assertEqual(play.log(0), [(1, 2, 0), (1, 0, 7), (1, 0, 7)])
        self.assertEqual(play.state.messages, [])
        self.assertEqual(play.node(0).commit_index, 1)

    def test_command_99_and_100(self):
        calls = [begin(3), start_election(3), propose(3, 0), propose(3, 99), propose(3, 100), propose(3, 200)]
        self.assertEqual(numbers(*calls), [0, 1, 2, 3, -1, -1])

    def test_node_4_and_node_5(self):
        calls = [begin(4), start_election(4), propose(4, 1), propose(5, 1)]
        self.assertEqual(numbers(*calls), [0, 1, 2, -1])

    def test_errors(self):
        play = settled(0, 1, 2)
        self.refused(play, propose(5, 1), -1)
        self.refused(play, propose(0, 100), -1)
        self.refused(play, propose(1, 1), -2)
        play.do(start_election(2))
        self.refused(play, propose(2, 1), -2)
        play.do(stop(0))
        self.refused(play, propose(0, 1), -3)

    def test_the_earlier_error_is_the_answer(self):
        play = settled(0, 1, 2)
        self.refused(play, propose(1, 100), -1)
        self.refused(play, propose(9, 200), -1)
        play.do(stop(1))
        self.refused(play, propose(1, 100), -1)
        self.refused(play, propose(1, 99), -3)


class ChangeMember(PlayTest):
    def test_add_and_remove(self):
        play = settled(0, 1, 2)
        self.assertEqual(play.do(change_member(0, 4)), 23)
        self.assertEqual(play.log(0)[-1], (1, 1, 23))
        self.assertEqual(play.node(0).members(), 23)
        self.assertEqual(play.node(1).members(), 7)
        play.do(heartbeat(0))
        play.drain()
        self.assertEqual(play.do(change_member(0, 1)), 21)
        self.assertEqual([play.node(k).members() for k in range(5)], [21, 23, 23, 7, 23])

    def test_uses_the_new_members_at_once(self):
        play = settled(0, 1)
        self.assertEqual(play.do(change_member(0, 1)), 1)
        self.assertEqual(play.node(0).commit_index, 2)
        self.assertEqual(play.do(change_member(0, 1)), 3)
        self.assertEqual(play.node(0).commit_index, 2)

    def test_a_follower_uses_an_uncommitted_configuration(self):
        play = settled(0, 1, 2)
        play.do(change_member(0, 3))
        play.do(heartbeat(0))
        play.deliver(APPEND, 1, 0)
        self.assertEqual((play.node(1).commit_index, play.node(1).members()), (1, 15))
        play.drop_all()
        play.do(start_election(1))
        self.assertEqual([row[1] for row in play.message_rows()], [0, 2, 3])

    def test_node_4_and_node_5(self):
        calls = [begin(4), start_election(4), change_member(4, 5), change_member(5, 4), change_member(4, 3)]
        self.assertEqual(numbers(*calls), [0, 1, -1, -1, 24])

    def test_errors(self):
        play = settled(0, 1, 2)
        self.refused(play, change_member(5, 0), -1)
        self.refused(play, change_member(0, 5), -1)
        self.refused(play, change_member(1, 0), -2)
        play.do(stop(0))
        self.refused(play, change_member(0, 3), -3)

    def test_the_earlier_error_is_the_answer(self):
        play = settled(0, 1, 2)
        self.refused(play, change_member(1, 9), -1)
        play.do(stop(1))
        self.refused(play, change_member(1, 9), -1)
        self.refused(play, change_member(1, 0), -3)
        play.do(change_member(0, 3))
        self.refused(play, change_member(0, 5), -1)
        play.do(stop(0))
        self.refused(play, change_member(0, 4), -3)

    def test_not_while_the_last_change_is_not_committed(self):
        play = settled(0, 1, 2)
        self.assertEqual(play.do(change_member(0, 3)), 15)
        self.refused(play, change_member(0, 3), -6)
        self.refused(play, change_member(0, 4), -6)
        play.do(propose(0, 1))
        self.refused(play, change_member(0, 4), -6)
        play.do(heartbeat(0))
        play.drain()
        self.assertEqual(play.do(change_member(0, 4)), 31)

    def test_not_while_an_earlier_change_waits_below_other_entries(self):
        play = settled(0, 1, 2)
        play.do(change_member(0, 3))
        self.assertEqual(play.replicate(0, 1), COUNTED)
        self.refused(play, change_member(0, 4), -6)
        self.assertEqual(play.replicate(0, 2), COMMITTED)
        play.do(propose(0, 1))
        self.assertEqual(play.do(change_member(0, 4)), 31)

    def test_not_at_commit_index_0(self):
        play = Play(0, 1, 2)
        play.elect(0, [1])
        self.refused(play, change_member(0, 3), -6)
        play.drain()
        self.assertEqual(play.do(change_member(0, 3)), 15)

    def test_not_before_an_entry_of_the_own_term_is_committed(self):
        play = settled(0, 1, 2)
        play.do(heartbeat(0))
        play.drain()
        play.elect(1, [2])
        self.assertEqual((play.node(1).role, play.node(1).commit_index), (LEADER, 1))
        self.refused(play, change_member(1, 3), -6)
        play.drain()
        self.assertEqual(play.do(change_member(1, 3)), 15)

    def test_removes_the_leader_itself(self):
        play = settled(0, 1, 2)
        self.assertEqual(play.do(change_member(0, 0)), 6)
        self.assertEqual(play.node(0).role, LEADER)
        self.assertEqual(play.do(propose(0, 3)), 3)
        self.assertEqual(play.do(heartbeat(0)), 2)
        play.deliver(APPEND, 1, 0)
        # The leader does not count itself any more: one of two members is no majority.
        self.assertEqual(play.deliver(APPEND_REPLY, 0, 1), COUNTED)
        play.deliver(APPEND, 2, 0)
        self.assertEqual(play.deliver(APPEND_REPLY, 0, 2), COMMITTED)
        self.assertEqual(play.do(change_member(0, 0)), 7)

    def test_not_without_any_member(self):
        play = settled(3)
        self.refused(play, change_member(3, 3), -7)
        self.assertEqual(play.do(change_member(3, 0)), 9)

    def test_last_member_of_a_leader_that_is_none(self):
        play = settled(0, 1)
        self.assertEqual(play.do(change_member(0, 0)), 2)
        # Both hold here: the change is not committed, and there would be no member.
        self.refused(play, change_member(0, 1), -6)
        play.do(heartbeat(0))
        play.drain()
        self.refused(play, change_member(0, 1), -7)
        self.assertEqual(play.do(change_member(0, 4)), 18)


class Heartbeat(PlayTest):
    def test_ordinary(self):
        play = settled(0, 1, 3)
        play.do(propose(0, 8))
        self.assertEqual(play.do(heartbeat(0)), 2)
        self.assertEqual(
            play.message_rows(), [[2, 1, 0, 1, 1, 1, 1, 1, 0, 8, 1], [2, 3, 0, 1, 1, 1, 1, 1, 0, 8, 1]]
        )

    def test_without_entries(self):
        play = settled(0, 1)
        self.assertEqual(play.do(heartbeat(0)), 1)
        self.assertEqual(play.message_rows(), [[2, 1, 0, 1, 1, 1, 0, 1]])

    def test_ascending_order_with_the_new_member(self):
        play = settled(2, 0, 4)
        play.do(change_member(2, 1))
        self.assertEqual(play.do(heartbeat(2)), 3)
        self.assertEqual([row[1] for row in play.message_rows()], [0, 1, 4])

    def test_a_message_keeps_the_entries_of_its_time(self):
        play = settled(0, 1)
        play.do(heartbeat(0))
        play.do(propose(0, 8))
        self.assertEqual(play.message_rows(), [[2, 1, 0, 1, 1, 1, 0, 1]])

    def test_node_4_and_node_5(self):
        self.assertEqual(numbers(begin(4), start_election(4), heartbeat(4), heartbeat(5)), [0, 1, 0, -1])

    def test_errors(self):
        play = settled(0, 1, 2)
        self.refused(play, heartbeat(5), -1)
        self.refused(play, heartbeat(1), -2)
        play.do(start_election(2))
        self.refused(play, heartbeat(2), -2)
        play.do(stop(0))
        self.refused(play, heartbeat(0), -3)
        play.do(stop(1))
        self.refused(play, heartbeat(1), -3)


class Room(PlayTest):
    def full(self):
        """A hundred vote requests: 25 elections with four each."""
        play = Play(0, 1, 2, 3, 4)
        for term in range(1, 26):
            self.assertEqual(play.do(start_election(0)), term)
        self.assertEqual(len(play.state.messages), 100)
        return play

    def test_message_without_room_is_lost(self):
        play = self.full()
        rows = play.message_rows()
        self.assertEqual(play.do(start_election(0)), 26)
        self.assertEqual(play.message_rows(), rows)
        self.refused(play, deliver(100), -1)
        self.refused(play, deliver_copy(100), -1)

    def test_hundredth_message_is_kept(self):
        play = self.full()
        play.do(deliver(99))
        self.assertEqual(play.message_rows()[99], [1, 0, 4, 25, 1])

    def test_reply_takes_the_room_of_the_message(self):
        play = self.full()
        self.assertEqual(play.do(deliver(0)), REPLIED)
        self.assertEqual(len(play.state.messages), 100)
        self.assertEqual(play.message_rows()[99], [1, 0, 1, 1, 1])

    def test_reply_to_a_copy_is_lost(self):
        play = self.full()
        rows = play.message_rows()
        self.assertEqual(play.do(deliver_copy(0)), REPLIED)
        self.assertEqual(play.message_rows(), rows)
        self.assertEqual(play.node(1).voted, 0)

    def test_heartbeat_counts_what_is_lost(self):
        play = settled(0, 1, 2)
        for turn in range(49):
            self.assertEqual(play.do(heartbeat(0)), 2)
        play.do(deliver(0))
        play.do(deliver(96))
        play.do(propose(0, 1))
        self.assertEqual(len(play.state.messages), 98)
        play.do(deliver_copy(0))
        self.assertEqual(len(play.state.messages), 99)
        self.assertEqual(play.do(heartbeat(0)), 2)
        self.assertEqual(play.message_rows()[99][:4], [2, 1, 0, 1])
        rows = play.message_rows()
        self.assertEqual(play.do(heartbeat(0)), 2)
        self.assertEqual(play.message_rows(), rows)


class Deliver(PlayTest):
    def test_numbers_move_up(self):
        play = Play(0, 1, 2, 3)
        play.do(start_election(0))
        self.assertEqual(play.do(deliver(1)), REPLIED)
        self.assertEqual(play.message_rows(), [[0, 1, 0, 1, 0, 0], [0, 3, 0, 1, 0, 0], [1, 0, 2, 1, 1]])

    def test_copy_stays(self):
        play = Play(0, 1, 2)
        play.do(start_election(0))
        rows = play.message_rows()
        self.assertEqual(play.do(deliver_copy(1)), REPLIED)
        self.assertEqual(play.do(deliver_copy(1)), REPLIED)
        self.assertEqual(play.message_rows(), rows + [[1, 0, 2, 1, 1], [1, 0, 2, 1, 1]])
        self.assertEqual(play.do(deliver(1)), REPLIED)
        self.assertEqual(len(play.state.messages), 4)

    def test_copied_append_is_the_same_again(self):
        play = settled(0, 1, 2)
        play.do(propose(0, 4))
        play.do(heartbeat(0))
        self.assertEqual(play.copy(APPEND, 1, 0), REPLIED)
        log = play.log(1)
        row = play.message_rows()[0]
        self.assertEqual(play.copy(APPEND, 1, 0), REPLIED)
        self.assertEqual((play.log(1), play.message_rows()[0]), (log, row))
        self.assertEqual(play.deliver(APPEND_REPLY, 0, 1), COMMITTED)
        self.assertEqual(play.deliver(APPEND_REPLY, 0, 1), COUNTED)

    def test_number_that_is_not_there(self):
        play = Play(0, 1, 2)
        for operation in (deliver, deliver_copy):
            self.refused(play, operation(0), -1)
        play.do(start_election(0))
        for operation in (deliver, deliver_copy):
            self.refused(play, operation(2), -1)
            self.refused(play, operation(200), -1)

    def test_removed_message_is_gone(self):
        play = Play(0, 1)
        play.do(start_election(0))
        play.do(deliver(0))
        self.assertEqual(play.do(deliver(0)), BECAME_LEADER)
        play.do(deliver(0))
        play.do(deliver(0))
        self.refused(play, deliver(0), -1)

    def test_stopped_receiver(self):
        play = Play(0, 1, 2)
        play.do(start_election(0))
        play.do(stop(1))
        before = play.snapshot()
        self.assertEqual(play.do(deliver_copy(0)), IGNORED)
        self.assertEqual(play.snapshot(), before)
        self.assertEqual(play.do(deliver(0)), IGNORED)
        self.assertEqual(play.message_rows(), before[1][1:])
        self.assertEqual(play.node(1).role, FOLLOWER)


class Drop(PlayTest):
    def test_removes_a_message_that_nobody_receives(self):
        play = Play(0, 1, 2, 3)
        play.do(start_election(0))
        nodes = play.snapshot()[0]
        self.assertEqual(play.do(drop(1)), 0)
        self.assertEqual(play.message_rows(), [[0, 1, 0, 1, 0, 0], [0, 3, 0, 1, 0, 0]])
        self.assertEqual(play.snapshot()[0], nodes)
        self.assertEqual(play.do(drop(1)), 0)
        self.assertEqual(play.do(drop(0)), 0)
        self.assertEqual(play.message_rows(), [])

    def test_each_kind(self):
        play = Play(0, 1, 2)
        play.do(start_election(0))
        self.assertEqual(play.drop(VOTE_REQUEST, 2, 0), 0)
        play.copy(VOTE_REQUEST, 1, 0)
        play.deliver(VOTE_REQUEST, 1, 0)
        self.assertEqual(play.drop(VOTE_REPLY, 0, 1), 0)
        self.assertEqual(play.deliver(VOTE_REPLY, 0, 1), BECAME_LEADER)
        self.assertEqual(play.drop(APPEND, 2, 0), 0)
        play.deliver(APPEND, 1, 0)
        self.assertEqual(play.drop(APPEND_REPLY, 0, 1), 0)
        self.assertEqual(play.message_rows(), [])
        self.assertEqual(play.committed(), [])

    def test_makes_room(self):
        play = settled(0, 1, 2)
        for turn in range(50):
            play.do(heartbeat(0))
        self.refused(play, drop(100), -1)
        self.assertEqual(play.do(drop(99)), 0)
        self.refused(play, drop(99), -1)
        play.do(propose(0, 6))
        play.do(heartbeat(0))
        self.assertEqual(play.message_rows()[99], [2, 1, 0, 1, 1, 1, 1, 1, 0, 6, 1])

    def test_message_to_a_stopped_node(self):
        play = Play(0, 1)
        play.do(start_election(0))
        play.do(stop(1))
        self.assertEqual(play.do(drop(0)), 0)
        self.assertEqual(play.message_rows(), [])

    def test_number_that_is_not_there(self):
        play = Play(0, 1, 2)
        self.refused(play, drop(0), -1)
        play.do(start_election(0))
        self.refused(play, drop(2), -1)
        self.refused(play, drop(200), -1)
        self.assertEqual(play.do(drop(1)), 0)
        self.refused(play, drop(1), -1)
        self.assertEqual(numbers(begin(0), drop(0), drop(99), drop(200)), [0, -1, -1, -1])


if __name__ == "__main__":
    unittest.main()
