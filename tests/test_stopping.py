"""Stopping and restarting: the two operations, what a stopped node does, and what a restart leaves."""

import unittest

from movingmembers.messages import APPEND, APPEND_REPLY, VOTE_REPLY, VOTE_REQUEST
from play import (
    ADOPTED,
    BECAME_LEADER,
    COMMITTED,
    IGNORED,
    REPLIED,
    Play,
    PlayTest,
    answered,
    begin,
    change_member,
    deliver,
    deliver_copy,
    drop,
    heartbeat,
    node,
    numbers,
    propose,
    restart,
    settled,
    start_election,
    stop,
)


class Stop(PlayTest):
    def test_node_as_at_first(self):
        play = Play(0, 1, 2)
        self.assertEqual(play.do(stop(4)), 0)
        self.assertEqual(play.row(4), [0, 0, -1, 0, 0, 7, 0, 0, 0])
        self.assertEqual(play.row(3), [1, 0, -1, 0, 0, 7, 0, 0, 0])

    def test_keeps_all_values(self):
        play = settled(0, 1, 2)
        play.do(propose(0, 5))
        play.do(start_election(2))
        for number in range(3):
            row = play.row(number)
            rest = play.message_rows(), play.committed(), play.leaders()
            self.assertEqual(play.do(stop(number)), 0)
            self.assertEqual((row[0], play.row(number)), (1, [0] + row[1:]))
            self.assertEqual((play.message_rows(), play.committed(), play.leaders()), rest)

    def test_stopped_leader_shows_its_values(self):
        calls = [begin(2), start_election(2), propose(2, 9), stop(2), node(2)]
        self.assertEqual(
            answered(*calls)[-1],
            [0, 1, 2, 2, 2, 4, 2, 1, 2, 0, 1, 0, 9, 0, 5, 1, 1, 1, 1, 1, 0, 0, 0, 0, 0],
        )

    def test_stopped_candidate_shows_its_votes(self):
        play = Play(0, 1, 2, 3, 4)
        play.elect(0, [3])
        play.do(stop(0))
        self.assertEqual(play.row(0), [0, 1, 0, 1, 0, 31, 0, 2, 0, 3, 0])

    def test_all_nodes(self):
        calls = [begin(0)] + [stop(k) for k in range(5)] + [start_election(k) for k in range(5)]
        self.assertEqual(numbers(*calls), [0] * 6 + [-3] * 5)

    def test_node_4_and_node_5(self):
        self.assertEqual(numbers(begin(0), stop(4), stop(5), stop(9)), [0, 0, -1, -1])

    def test_stopped_already(self):
        play = settled(0, 1, 2)
        for number in (0, 1, 4):
            play.do(stop(number))
            self.refused(play, stop(number), -2)


class Restart(PlayTest):
    def test_node_as_at_first(self):
        play = Play(0, 1, 2)
        before = play.snapshot()
        play.stop_and_restart(1, 4)
        self.assertEqual(play.snapshot(), before)

    def test_leader(self):
        play = settled(0, 1, 2)
        play.do(propose(0, 5))
        play.do(change_member(0, 3))
        self.assertEqual(play.row(0)[:6], [1, 1, 0, 2, 1, 15])
        log = [3, 1, 2, 0, 1, 0, 5, 1, 1, 15]
        self.assertEqual(play.row(0)[6:16], log)
        rest = play.message_rows(), play.committed(), play.leaders()
        play.do(stop(0))
        self.assertEqual(play.do(restart(0)), 0)
        # Term, vote, log, and so the members, are there; nothing else is.
        self.assertEqual(play.row(0), [1, 1, 0, 0, 0, 15] + log + [0, 0])
        self.assertEqual((play.message_rows(), play.committed(), play.leaders()), rest)
        self.refused(play, propose(0, 1), -2)
        self.refused(play, heartbeat(0), -2)
        self.refused(play, change_member(0, 4), -2)

    def test_candidate(self):
        play = Play(0, 1, 2, 3, 4)
        play.elect(0, [3])
        play.stop_and_restart(0)
        self.assertEqual(play.row(0), [1, 1, 0, 0, 0, 31, 0, 0, 0])
        play.deliver(VOTE_REQUEST, 1, 0)
        self.assertEqual(play.deliver(VOTE_REPLY, 0, 1), IGNORED)

    def test_follower(self):
        play = settled(0, 1, 2)
        play.replicate(0, 1)
        self.assertEqual(play.row(1), [1, 1, 0, 0, 1, 7, 1, 1, 2, 0, 0, 0])
        play.stop_and_restart(1)
        self.assertEqual(play.row(1), [1, 1, 0, 0, 0, 7, 1, 1, 2, 0, 0, 0])
        play.replicate(0, 1)
        self.assertEqual(play.row(1), [1, 1, 0, 0, 1, 7, 1, 1, 2, 0, 0, 0])

    def test_by_the_numbers(self):
        calls = [begin(2), start_election(2), propose(2, 9), stop(2), restart(2), node(2), start_election(2), node(2)]
        self.assertEqual(
            answered(*calls)[3:],
            [
                [0],
                [0],
                [1, 1, 2, 0, 0, 4, 2, 1, 2, 0, 1, 0, 9, 0, 0],
                [2],
                [1, 2, 2, 2, 3, 4, 3, 1, 2, 0, 1, 0, 9, 2, 2, 0, 0, 5, 3, 3, 3, 3, 3, 0, 0, 0, 0, 0],
            ],
        )

    def test_other_nodes_stay_stopped(self):
        play = Play(0, 1, 2)
        play.do(stop(1))
        play.do(stop(2))
        play.do(restart(2))
        self.assertEqual([play.row(number)[0] for number in range(5)], [1, 0, 1, 1, 1])

    def test_again_and_again(self):
        calls = [begin(0), stop(3), restart(3), stop(3), stop(3), restart(3), restart(3)]
        self.assertEqual(numbers(*calls), [0, 0, 0, 0, -2, 0, -2])

    def test_node_4_and_node_5(self):
        calls = [begin(0), stop(4), restart(4), restart(5), restart(9)]
        self.assertEqual(numbers(*calls), [0, 0, 0, -1, -1])

    def test_running(self):
        play = settled(0, 1, 2)
        play.do(start_election(2))
        for number in range(5):
            self.refused(play, restart(number), -2)


class StoppedNodes(PlayTest):
    def test_no_operation(self):
        play = settled(0, 1, 2)
        play.do(stop(0))
        for call in (start_election(0), propose(0, 1), change_member(0, 3), heartbeat(0)):
            self.refused(play, call, -3)

    def test_range_is_asked_first(self):
        play = settled(0, 1, 2)
        play.do(stop(0))
        self.refused(play, propose(0, 100), -1)
        self.refused(play, change_member(0, 5), -1)

    def test_stopped_ahead_of_the_role(self):
        play = settled(0, 1, 2)
        play.do(start_election(2))
        for number in (0, 1, 2):
            play.do(stop(number))
        # A leader is refused an election, a follower and a candidate all else, were they running.
        self.refused(play, start_election(0), -3)
        for number in (1, 2):
            for call in (propose(number, 1), change_member(number, 3), heartbeat(number)):
                self.refused(play, call, -3)

    def test_stopped_ahead_of_the_change(self):
        play = settled(0, 1, 2)
        play.do(change_member(0, 3))
        self.refused(play, change_member(0, 4), -6)
        play.do(stop(0))
        self.refused(play, change_member(0, 4), -3)

    def test_stopped_ahead_of_no_member(self):
        calls = [begin(0), start_election(0), change_member(0, 0), stop(0), change_member(0, 0)]
        self.assertEqual(numbers(*calls), [0, 1, -7, 0, -3])

    def test_each_kind_of_message_is_ignored(self):
        play = Play(0, 1, 2, 3, 4)
        play.do(start_election(0))
        play.copy(VOTE_REQUEST, 3, 0)
        self.ignored(play, VOTE_REQUEST, 3, 0)
        self.ignored(play, VOTE_REPLY, 0, 3)
        play.elect(1, [2, 3, 4])
        play.deliver(APPEND, 2, 1)
        self.ignored(play, APPEND, 4, 1)
        self.ignored(play, APPEND_REPLY, 1, 2)

    def ignored(self, play, kind, receiver, sender):
        """Stopped, the receiver does nothing with this message, whether copied or not."""
        play.do(stop(receiver))
        place = play.place(kind, receiver, sender)
        before = play.snapshot()
        self.assertEqual(play.do(deliver_copy(place)), IGNORED)
        self.assertEqual(play.snapshot(), before)
        self.assertEqual(play.do(deliver(place)), IGNORED)
        rows = before[1]
        self.assertEqual(play.snapshot(), (before[0], rows[:place] + rows[place + 1:]) + before[2:])
        play.do(restart(receiver))

    def test_by_the_numbers(self):
        calls = [begin(0, 1), start_election(0), stop(1), deliver_copy(0), deliver(0), deliver(0), drop(0)]
        self.assertEqual(numbers(*calls), [0, 1, 0, 0, 0, -1, -1])

    def test_messages_wait_for_the_restart(self):
        play = Play(0, 1)
        play.do(start_election(0))
        play.do(stop(1))
        rows = play.message_rows()
        play.do(restart(1))
        self.assertEqual(play.message_rows(), rows)
        self.assertEqual(play.do(deliver(0)), REPLIED)

    def test_messages_of_a_stopped_node_are_received(self):
        play = Play(0, 1, 2)
        play.do(start_election(0))
        play.do(stop(0))
        self.assertEqual(play.deliver(VOTE_REQUEST, 1, 0), REPLIED)
        self.assertEqual(play.message_rows()[-1], [1, 0, 1, 1, 1])
        self.assertEqual(play.deliver(VOTE_REPLY, 0, 1), IGNORED)

    def test_stopped_nodes_are_sent_messages(self):
        play = settled(0, 1, 2)
        play.do(stop(1))
        self.assertEqual(play.do(heartbeat(0)), 2)
        self.assertEqual([row[1] for row in play.message_rows()], [1, 2])
        play.do(start_election(2))
        self.assertEqual([row[:2] for row in play.message_rows()[2:]], [[0, 0], [0, 1]])


class RestartedNodes(PlayTest):
    def test_vote_is_kept(self):
        play = Play(0, 1, 2)
        play.do(start_election(0))
        play.do(start_election(1))
        play.deliver(VOTE_REQUEST, 2, 0)
        play.stop_and_restart(2)
        play.deliver(VOTE_REQUEST, 2, 1)
        self.assertEqual(play.message_rows()[-1], [1, 1, 2, 1, 0])

    def test_vote_for_itself_is_kept(self):
        play = Play(0, 1, 2)
        play.do(start_election(0))
        play.do(start_election(1))
        play.stop_and_restart(1)
        play.deliver(VOTE_REQUEST, 1, 0)
        self.assertEqual(play.message_rows()[-1], [1, 0, 1, 1, 0])

    def test_term_goes_on(self):
        calls = [begin(0, 1), start_election(0), start_election(0), stop(0), restart(0), start_election(0)]
        self.assertEqual(numbers(*calls), [0, 1, 2, 0, 0, 3])

    def test_old_leader_adopts_the_new_term(self):
        play = settled(0, 1, 2)
        play.do(stop(0))
        play.elect(1, [2])
        play.do(restart(0))
        self.assertEqual(play.deliver(APPEND, 0, 1), REPLIED)
        self.assertEqual(play.row(0)[:5], [1, 2, -1, 0, 0])
        self.assertEqual(play.log(0), [(1, 2, 0), (2, 2, 0)])

    def test_reply_to_the_leader_it_was(self):
        play = settled(0, 1, 2)
        play.do(heartbeat(0))
        play.deliver(APPEND, 1, 0)
        play.stop_and_restart(0)
        self.assertEqual(play.deliver(APPEND_REPLY, 0, 1), IGNORED)

    def test_reply_of_a_greater_term(self):
        play = settled(0, 1, 2)
        play.do(heartbeat(0))
        play.do(start_election(1))
        play.deliver(APPEND, 1, 0)
        play.stop_and_restart(0)
        self.assertEqual(play.deliver(APPEND_REPLY, 0, 1), ADOPTED)
        self.assertEqual(play.row(0), [1, 2, -1, 0, 0, 7, 1, 1, 2, 0, 0, 0])

    def test_leads_again_in_a_later_term(self):
        play = settled(0, 1, 2)
        play.stop_and_restart(0)
        self.assertEqual(play.do(start_election(0)), 2)
        play.deliver(VOTE_REQUEST, 2, 0)
        self.assertEqual(play.deliver(VOTE_REPLY, 0, 2), BECAME_LEADER)
        # Its commit index is 0 until an entry of its new term is committed.
        self.assertEqual(play.row(0)[3:6], [2, 0, 7])
        self.refused(play, change_member(0, 3), -6)
        play.deliver(APPEND, 2, 0)
        self.assertEqual(play.deliver(APPEND_REPLY, 0, 2), COMMITTED)
        self.assertEqual(play.row(0)[4], 2)
        self.assertEqual(play.do(change_member(0, 3)), 15)
        self.assertEqual(play.leaders(), [(1, 0), (2, 0)])

    def test_uses_the_uncommitted_configuration_of_its_log(self):
        play = settled(0, 1, 2)
        play.do(change_member(0, 3))
        play.stop_and_restart(0)
        play.do(start_election(0))
        self.assertEqual([row[1] for row in play.message_rows()], [1, 2, 3])

    def test_committed_entries_do_not_shrink(self):
        play = settled(0, 1, 2)
        play.do(propose(0, 8))
        play.replicate(0, 1)
        committed = play.committed()
        play.stop_and_restart(0, 1, 2, 3, 4)
        self.assertEqual([play.row(number)[4] for number in range(5)], [0] * 5)
        self.assertEqual(play.committed(), committed)
        self.assertEqual(committed, [(1, 2, 0), (1, 0, 8)])

    def test_begin_runs_all_nodes(self):
        play = settled(0, 1, 2)
        for number in range(5):
            play.do(stop(number))
        self.assertEqual(play.do(begin(0, 1, 2)), 0)
        self.assertEqual(play.snapshot(), Play(0, 1, 2).snapshot())

    def test_begin_that_fails_runs_none(self):
        play = settled(0, 1, 2)
        play.do(stop(1))
        self.refused(play, begin(1, 1), -1)
        self.refused(play, stop(1), -2)


if __name__ == "__main__":
    unittest.main()
