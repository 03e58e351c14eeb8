"""The points 1 to 8 under "Requirements", each by a course of its own and along many walks."""

import random
import unittest

from movingmembers.messages import APPEND, APPEND_REPLY, VOTE_REPLY, VOTE_REQUEST
from play import (
    BECAME_LEADER,
    CANDIDATE,
    COMMITTED,
    COUNTED,
    FOLLOWER,
    IGNORED,
    LEADER,
    NO_SUCCESS,
    Play,
    answered,
    change_member,
    committed,
    deliver,
    deliver_copy,
    drop,
    heartbeat,
    numbers,
    propose,
    restart,
    settled,
    start_election,
    stop,
)

WALKS = 150
STEPS = 250


def begins_with(longer, shorter):
    return longer[:len(shorter)] == shorter


def masks(play, initial):
    """The initial members and the committed configurations."""
    return [initial] + [value for term, kind, value in play.committed() if kind == 1]


def one_apart(one, other):
    return bin(one ^ other).count("1") == 1


class OneLeaderInATerm(unittest.TestCase):
    """Point 1."""

    def test_two_candidates(self):
        play = Play(0, 1, 2)
        play.do(start_election(0))
        play.do(start_election(1))
        play.deliver(VOTE_REQUEST, 2, 0)
        play.deliver(VOTE_REQUEST, 2, 1)
        self.assertEqual(play.deliver(VOTE_REPLY, 0, 2), BECAME_LEADER)
        self.assertEqual(play.deliver(VOTE_REPLY, 1, 2), IGNORED)
        play.drain()
        self.assertEqual(play.leaders(), [(1, 0)])

    def test_one_vote_counts_once(self):
        play = Play(0, 1, 2, 3, 4)
        play.do(start_election(0))
        play.deliver(VOTE_REQUEST, 1, 0)
        for turn in range(3):
            play.copy(VOTE_REPLY, 0, 1)
        play.elect(2, [3, 4])
        self.assertEqual(play.leaders(), [(1, 2)])

    def test_vote_for_itself_counts_for_members_alone(self):
        play = Play(0, 1, 2)
        play.elect(3, [0])
        play.elect(1, [2])
        self.assertEqual(play.leaders(), [(1, 1)])

    def test_new_term_new_leader(self):
        play = settled(0, 1, 2)
        play.do(start_election(1))
        play.drain()
        self.assertEqual(play.leaders(), [(1, 0), (2, 1)])
        self.assertEqual([node.role for node in play.state.nodes[:3]], [FOLLOWER, LEADER, FOLLOWER])

    def test_restarted_voter_votes_once(self):
        play = Play(0, 1, 2)
        play.do(start_election(0))
        play.do(start_election(1))
        self.assertEqual(play.drop(VOTE_REQUEST, 1, 0), 0)
        play.copy(VOTE_REQUEST, 2, 0)
        play.stop_and_restart(2)
        play.deliver(VOTE_REQUEST, 2, 1)
        self.assertEqual(play.deliver(VOTE_REPLY, 0, 2), BECAME_LEADER)
        self.assertEqual(play.deliver(VOTE_REPLY, 1, 2), IGNORED)
        self.assertEqual(play.leaders(), [(1, 0)])

    def test_restarted_candidate_does_not_count_old_votes(self):
        play = Play(0, 1, 2)
        play.do(start_election(0))
        play.deliver(VOTE_REQUEST, 1, 0)
        play.stop_and_restart(0)
        self.assertEqual(play.copy(VOTE_REPLY, 0, 1), IGNORED)
        play.do(start_election(0))
        self.assertEqual(play.deliver(VOTE_REPLY, 0, 1), IGNORED)
        self.assertEqual(play.leaders(), [])

    def test_restarted_leader_leads_no_second_time_in_its_term(self):
        play = Play(0, 1, 2)
        play.do(start_election(0))
        play.deliver(VOTE_REQUEST, 1, 0)
        play.copy(VOTE_REPLY, 0, 1)
        play.stop_and_restart(0)
        self.assertEqual(play.deliver(VOTE_REPLY, 0, 1), IGNORED)
        play.drain()
        self.assertEqual(play.do(start_election(0)), 2)
        play.drain()
        self.assertEqual(play.leaders(), [(1, 0), (2, 0)])


class BeginningOfTheCommitted(unittest.TestCase):
    """Point 2."""

    def test_follower_with_entries_of_another_leader(self):
        play = settled(0, 1, 2)
        # Node 0 leads on, but only node 1 and 2 hear of what is committed in term 2.
        play.do(propose(0, 11))
        play.do(propose(0, 12))
        play.drop_all()
        play.elect(1, [2])
        play.do(propose(1, 21))
        self.assertEqual(play.replicate(1, 2), COMMITTED)
        play.drop_all()
        play.do(heartbeat(1))
        play.deliver(APPEND, 0, 1)
        commit_index = play.node(0).commit_index
        self.assertEqual(play.log(0)[:commit_index], play.committed()[:commit_index])
        play.drain()
        play.do(heartbeat(1))
        play.drain()
        self.assertEqual(play.node(0).commit_index, 3)
        self.assertEqual(play.committed(), [(1, 2, 0), (2, 2, 0), (2, 0, 21)])
        self.assertEqual(play.log(0), play.committed())

    def test_refused_append_commits_nothing(self):
        play = settled(0, 1, 2)
        play.do(change_member(0, 3))
        play.replicate(0, 1)
        self.assertEqual(play.replicate(0, 2), COMMITTED)
        play.drop_all()
        # Node 3 is behind: the leader sends it nothing but its last entries at first.
        play.node(0).next_indexes[3] = 3
        play.do(heartbeat(0))
        play.deliver(APPEND, 3, 0)
        self.assertEqual(play.node(3).commit_index, 0)
        play.drain()
        while play.node(3).commit_index < 2:
            play.do(heartbeat(0))
            play.drain()
        self.assertEqual(play.log(3), play.committed())

    def test_restarted_node_learns_anew_what_is_committed(self):
        play = settled(0, 1, 2)
        # Entries that only node 0 has.
        play.do(propose(0, 11))
        play.do(propose(0, 12))
        play.do(stop(0))
        play.drop_all()
        play.elect(1, [2])
        play.do(propose(1, 21))
        self.assertEqual(play.replicate(1, 2), COMMITTED)
        play.do(restart(0))
        self.assertEqual(play.row(0)[4], 0)
        play.drop_all()
        play.do(heartbeat(1))
        play.copy(APPEND, 0, 1)
        self.assertEqual(play.row(0)[4], 3)
        play.stop_and_restart(0)
        self.assertEqual(play.row(0)[4], 0)
        play.deliver(APPEND, 0, 1)
        commit_index = play.row(0)[4]
        self.assertEqual(commit_index, 3)
        self.assertEqual(play.log(0)[:commit_index], play.committed())

    def test_restarted_leader_does_not_commit_what_it_alone_has(self):
        play = Play(0, 1, 2)
        play.elect(0, [1])
        play.deliver(APPEND, 1, 0)
        play.deliver(APPEND_REPLY, 0, 1)
        play.do(propose(0, 5))
        play.do(heartbeat(0))
        play.stop_and_restart(0)
        self.assertEqual(play.row(0)[4], 0)
        play.elect(1, [2])
        play.deliver(APPEND, 0, 1)
        # The command is gone, and the new leader does not know yet what is committed.
        self.assertEqual((play.row(0)[4], play.log(0)), (0, [(1, 2, 0), (2, 2, 0)]))
        self.assertEqual(play.committed(), [(1, 2, 0)])


class CommittedStays(unittest.TestCase):
    """Point 3."""

    def test_late_append_cuts_nothing_off(self):
        play = Play(0, 1)
        play.elect(0, [1])
        play.copy(APPEND, 1, 0)
        play.deliver(APPEND_REPLY, 0, 1)
        play.do(propose(0, 5))
        play.do(heartbeat(0))
        play.do(deliver(1))
        self.assertEqual(play.deliver(APPEND_REPLY, 0, 1), COMMITTED)
        committed = play.committed()
        self.assertEqual(play.deliver(APPEND, 1, 0), 1)
        self.assertEqual(play.log(1), committed)
        self.assertEqual(committed, [(1, 2, 0), (1, 0, 5)])

    def test_deposed_leader_replaces_nothing(self):
        play = settled(0, 1, 2)
        play.do(propose(0, 11))
        play.drop_all()
        play.do(heartbeat(0))
        play.elect(1, [2])
        self.assertEqual(play.deliver(APPEND, 2, 1), 1)
        self.assertEqual(play.deliver(APPEND_REPLY, 1, 2), COMMITTED)
        committed = play.committed()
        # What the old leader sent before comes only now.
        self.assertEqual(play.deliver(APPEND, 2, 0), 1)
        self.assertEqual(play.deliver(APPEND_REPLY, 0, 2), 5)
        self.assertEqual(play.log(2), committed)
        self.assertEqual(play.committed(), committed)

    def test_new_leader_keeps_and_lengthens(self):
        play = settled(0, 1, 2)
        for command in (1, 2, 3):
            play.do(propose(0, command))
            play.replicate(0, 1)
        committed = play.committed()
        play.elect(1, [2])
        play.drain()
        self.assertEqual(len(committed), 4)
        self.assertEqual(play.committed(), committed + [(2, 2, 0)])

    def test_all_nodes_restarted(self):
        play = settled(0, 1, 2)
        play.do(propose(0, 5))
        self.assertEqual(play.replicate(0, 1), COMMITTED)
        committed = play.committed()
        play.do(heartbeat(0))
        play.stop_and_restart(0, 1, 2, 3, 4)
        self.assertEqual(play.drop(APPEND, 2, 0), 0)
        # Node 2 lacks the command; had the others lost theirs, it would now be elected.
        play.elect(2, [0, 1])
        self.assertEqual(play.row(2)[3], CANDIDATE)
        play.elect(1, [2])
        play.drain()
        self.assertEqual(play.committed(), committed + [(3, 2, 0)])

    def test_old_append_to_a_restarted_node(self):
        play = settled(0, 1, 2)
        play.do(propose(0, 5))
        play.do(heartbeat(0))
        play.copy(APPEND, 1, 0)
        self.assertEqual(play.deliver(APPEND_REPLY, 0, 1), COMMITTED)
        play.do(propose(0, 6))
        play.do(heartbeat(0))
        play.do(deliver(play.place(APPEND, 1, 0) + 2))
        self.assertEqual(play.deliver(APPEND_REPLY, 0, 1), COMMITTED)
        committed = play.committed()
        play.stop_and_restart(1)
        play.deliver(APPEND, 1, 0)
        self.assertEqual(play.log(1), committed)
        self.assertEqual(play.committed(), committed)
        self.assertEqual(committed, [(1, 2, 0), (1, 0, 5), (1, 0, 6)])


class LeaderHasTheCommitted(unittest.TestCase):
    """Point 4."""

    def test_candidate_that_lacks_committed_entries(self):
        play = settled(0, 1, 2)
        play.do(propose(0, 5))
        self.assertEqual(play.replicate(0, 1), COMMITTED)
        play.drop_all()
        play.elect(2, [0, 1])
        self.assertEqual(play.node(2).role, CANDIDATE)
        self.assertEqual(play.leaders(), [(1, 0)])
        play.elect(1, [2])
        self.assertEqual(play.leaders(), [(1, 0), (3, 1)])
        self.assertTrue(begins_with(play.log(1), play.committed()))

    def test_longer_log_of_an_earlier_term(self):
        play = settled(0, 1, 2)
        for command in range(5):
            play.do(propose(0, command))
        play.drop_all()
        play.elect(1, [2])
        play.deliver(APPEND, 2, 1)
        self.assertEqual(play.deliver(APPEND_REPLY, 1, 2), COMMITTED)
        play.drop_all()
        # Node 0 has six entries, but its last term is 1; the committed two end in term 2.
        play.node(0).adopt(2)
        play.elect(0, [1, 2])
        self.assertEqual(play.leaders(), [(1, 0), (2, 1)])

    def test_restarted_voter_knows_its_log(self):
        play = settled(0, 1, 2, 3, 4)
        play.do(propose(0, 5))
        play.replicate(0, 1)
        self.assertEqual(play.replicate(0, 2), COMMITTED)
        play.do(stop(0))
        play.stop_and_restart(1, 2)
        play.drop_all()
        play.elect(3, [4, 1, 2])
        self.assertEqual(play.row(3)[3], CANDIDATE)
        play.elect(2, [3, 4])
        self.assertEqual(play.leaders(), [(1, 0), (3, 2)])
        self.assertTrue(begins_with(play.log(2), play.committed()))

    def test_stopped_leader_of_an_earlier_term(self):
        play = settled(0, 1, 2)
        play.do(stop(0))
        play.elect(1, [2])
        play.deliver(APPEND, 2, 1)
        self.assertEqual(play.deliver(APPEND_REPLY, 1, 2), COMMITTED)
        # Its log is that of an earlier term, and does not have to have what is committed.
        self.assertEqual(play.row(0)[:5], [0, 1, 0, LEADER, 1])
        play.do(restart(0))
        play.drain()
        self.assertEqual(play.log(0), play.log(1))


class FurtherEntriesCanBeCommitted(unittest.TestCase):
    """Point 5."""

    def test_log_that_went_astray_is_brought_back(self):
        play = settled(0, 1, 2)
        for command in range(6):
            play.do(propose(0, command))
        play.elect(1, [2])
        play.drain()
        self.assertEqual(play.node(0).role, FOLLOWER)
        for turn in range(6):
            play.do(heartbeat(1))
            play.drain()
        self.assertEqual(play.log(0), [(1, 2, 0), (2, 2, 0)])
        self.assertEqual(play.log(0), play.log(1))

    def test_new_member_with_an_empty_log(self):
        play = settled(0, 1)
        for command in range(4):
            play.do(propose(0, command))
            play.replicate(0, 1)
        play.do(change_member(0, 4))
        for turn in range(8):
            play.do(heartbeat(0))
            play.drain()
        self.assertEqual(play.log(4), play.log(0))
        self.assertEqual(len(play.log(4)), 6)

    def test_by_the_numbers_alone(self):
        calls = [[0, 2, 0, 1], start_election(0), deliver(0), deliver(0), deliver(0), deliver(0)]
        calls += [propose(0, 77), heartbeat(0), deliver(0), deliver(0)]
        self.assertEqual(numbers(*calls), [0, 1, 1, 3, 1, 4, 2, 1, 1, 4])

    def test_minority_stopped(self):
        play = settled(0, 1, 2, 3, 4)
        play.do(propose(0, 1))
        play.do(stop(0))
        play.do(stop(3))
        play.drop_all()
        play.do(start_election(4))
        play.drain()
        self.assertEqual(play.do(propose(4, 66)), 3)
        play.do(heartbeat(4))
        play.drain()
        self.assertEqual(play.committed()[1:], [(2, 2, 0), (2, 0, 66)])

    def test_members_that_are_left(self):
        play = settled(0, 1, 2)
        play.do(stop(2))
        self.assertEqual(play.do(change_member(0, 2)), 3)
        play.do(heartbeat(0))
        play.drain()
        self.assertEqual(play.do(change_member(0, 1)), 1)
        play.stop_and_restart(0)
        play.do(stop(1))
        # Node 0 is a majority of its members by itself.
        self.assertEqual(play.do(start_election(0)), 2)
        self.assertEqual(play.do(propose(0, 88)), 5)
        self.assertEqual(play.committed()[-1], (2, 0, 88))

    def test_all_restarted_by_the_numbers(self):
        calls = [[0, 2, 0, 1], start_election(0), deliver(0), deliver(0), drop(0)]
        calls += [stop(0), stop(1), restart(1), restart(0)]
        calls += [start_election(0), deliver(0), deliver(0), deliver(0), deliver(0)]
        calls += [propose(0, 77), heartbeat(0), deliver(0), deliver(0), committed()]
        self.assertEqual(answered(*calls)[9:14], [[2], [1], [3], [1], [6]])
        self.assertEqual(answered(*calls)[14:], [[3], [1], [1], [4], [3, 1, 2, 0, 2, 2, 0, 2, 0, 77]])


class ChangesOfMembers(unittest.TestCase):
    """Point 6."""

    def test_one_by_one(self):
        play = settled(0, 1, 2)
        for member in (3, 4, 1, 2, 0, 0, 3):
            play.do(change_member(0, member))
            for turn in range(8):
                play.do(heartbeat(0))
                play.drain()
        self.assertEqual(masks(play, 7), [7, 15, 31, 29, 25, 24, 25, 17])

    def test_two_leaders_change_from_the_same_members(self):
        play = settled(0, 1, 2, 3)
        self.assertEqual(play.do(change_member(0, 4)), 31)
        # The change of term 1 is at node 0 alone when node 1 begins to lead.
        play.elect(1, [2, 3])
        self.assertEqual(play.do(change_member(1, 4)), -6)
        self.assertEqual(play.do(change_member(1, 0)), -6)
        play.deliver(APPEND, 2, 1)
        self.assertEqual(play.deliver(APPEND_REPLY, 1, 2), COUNTED)
        play.deliver(APPEND, 3, 1)
        self.assertEqual(play.deliver(APPEND_REPLY, 1, 3), COMMITTED)
        self.assertEqual(play.do(change_member(1, 0)), 14)
        self.assertEqual(play.replicate(1, 2), COMMITTED)
        self.assertEqual(masks(play, 15), [15, 14])

    def test_never_none(self):
        play = settled(1, 2)
        self.assertEqual(play.do(change_member(1, 2)), 2)
        self.assertEqual(play.do(change_member(1, 1)), -7)
        self.assertEqual(masks(play, 6), [6, 2])

    def test_restarted_nodes_keep_their_members(self):
        play = settled(0, 1, 2)
        self.assertEqual(play.do(change_member(0, 3)), 15)
        self.assertEqual(play.replicate(0, 3), COUNTED)
        play.stop_and_restart(0, 3)
        self.assertEqual([play.row(number)[5] for number in range(5)], [15, 7, 7, 15, 7])
        play.do(start_election(0))
        self.assertEqual(play.do(change_member(0, 4)), -2)
        play.deliver(VOTE_REQUEST, 3, 0)
        # Two of four: with the members of before, one vote more would do.
        self.assertEqual(play.deliver(VOTE_REPLY, 0, 3), COUNTED)
        play.deliver(VOTE_REQUEST, 1, 0)
        self.assertEqual(play.deliver(VOTE_REPLY, 0, 1), BECAME_LEADER)
        self.assertEqual(play.do(change_member(0, 4)), -6)
        play.drain()
        for turn in range(3):
            play.do(heartbeat(0))
            play.drain()
        self.assertEqual(play.do(change_member(0, 4)), 31)
        play.do(heartbeat(0))
        play.drain()
        self.assertEqual(masks(play, 7), [7, 15, 31])

    def test_restarted_leader_waits_for_an_entry_of_its_term(self):
        play = settled(0, 1, 2, 3)
        self.assertEqual(play.do(change_member(0, 4)), 31)
        play.do(stop(0))
        play.drop_all()
        play.elect(1, [2, 3])
        play.deliver(APPEND, 2, 1)
        play.deliver(APPEND_REPLY, 1, 2)
        play.deliver(APPEND, 3, 1)
        self.assertEqual(play.deliver(APPEND_REPLY, 1, 3), COMMITTED)
        self.assertEqual(play.do(change_member(1, 0)), 14)
        self.assertEqual(play.replicate(1, 2), COMMITTED)
        # Node 0 still has its own change; nobody may let it be committed behind the other one.
        play.do(restart(0))
        self.assertEqual(play.row(0)[5], 31)
        play.drop_all()
        play.elect(0, [1, 2, 3])
        play.elect(0, [1, 2, 3])
        self.assertEqual(play.row(0)[3], CANDIDATE)
        self.assertEqual(play.do(change_member(0, 4)), -2)
        self.assertEqual(masks(play, 15), [15, 14])

    def test_single_member_restarted(self):
        play = settled(3)
        play.stop_and_restart(3)
        self.assertEqual(play.do(change_member(3, 3)), -2)
        play.do(start_election(3))
        self.assertEqual(play.do(change_member(3, 3)), -7)
        self.assertEqual(play.do(change_member(3, 1)), 10)
        self.assertEqual(play.do(change_member(3, 3)), -6)
        self.assertEqual(play.replicate(3, 1), NO_SUCCESS)


class SameTermSameLog(unittest.TestCase):
    """Point 7."""

    def test_gap_is_not_filled(self):
        play = settled(0, 1, 2)
        play.drop_all()
        play.do(propose(0, 1))
        play.node(0).next_indexes[1] = 3
        play.do(propose(0, 2))
        play.do(heartbeat(0))
        play.deliver(APPEND, 1, 0)
        self.assertEqual(play.log(1), [(1, 2, 0)])

    def test_differing_rest_is_replaced(self):
        play = settled(0, 1, 2)
        play.do(propose(0, 1))
        play.do(propose(0, 2))
        play.do(propose(0, 3))
        play.elect(1, [2])
        play.do(propose(1, 9))
        play.drop_all()
        play.do(heartbeat(1))
        play.deliver(APPEND, 0, 1)
        self.assertEqual(play.log(0), [(1, 2, 0), (2, 2, 0), (2, 0, 9)])
        self.assertEqual(play.log(0), play.log(1))

    def test_entries_behind_another_one_are_refused(self):
        play = settled(0, 1, 2)
        play.do(propose(0, 1))
        play.elect(1, [2])
        play.deliver(APPEND, 2, 1)
        play.deliver(APPEND_REPLY, 1, 2)
        play.do(propose(1, 9))
        play.drop_all()
        # From position 3 on: the entry ahead of it is another one at node 0.
        play.node(1).next_indexes[0] = 3
        play.do(heartbeat(1))
        play.deliver(APPEND, 0, 1)
        self.assertEqual(play.log(0), [(1, 2, 0), (1, 0, 1)])

    def test_stopped_node_misses_entries(self):
        play = settled(0, 1, 2)
        play.do(stop(2))
        play.do(propose(0, 1))
        play.do(heartbeat(0))
        self.assertEqual(play.deliver(APPEND, 2, 0), IGNORED)
        play.drain()
        play.do(propose(0, 2))
        play.do(restart(2))
        play.node(0).next_indexes[2] = 3
        play.do(heartbeat(0))
        play.copy(APPEND, 2, 0)
        self.assertEqual(play.log(2), [(1, 2, 0)])
        play.drain()
        for turn in range(3):
            play.do(heartbeat(0))
            play.drain()
        self.assertEqual(play.log(2), [(1, 2, 0), (1, 0, 1), (1, 0, 2)])

    def test_restarted_leader_adds_nothing_in_its_old_term(self):
        play = settled(0, 1, 2)
        play.do(propose(0, 1))
        self.assertEqual(play.replicate(0, 1), COMMITTED)
        play.stop_and_restart(0)
        self.assertEqual(play.do(propose(0, 2)), -2)
        play.do(start_election(0))
        play.drain()
        self.assertEqual(play.do(propose(0, 2)), 4)
        self.assertEqual(play.log(0), [(1, 2, 0), (1, 0, 1), (2, 2, 0), (2, 0, 2)])
        self.assertEqual(play.log(1), play.log(0)[:3])


class TermsAndVotes(unittest.TestCase):
    """Point 8."""

    def test_message_of_an_earlier_term_lowers_no_term(self):
        play = settled(0, 1, 2)
        play.do(heartbeat(0))
        play.do(start_election(1))
        play.do(start_election(1))
        self.assertEqual(play.node(1).term, 3)
        play.deliver(APPEND, 1, 0)
        self.assertEqual(play.node(1).term, 3)
        play.deliver(VOTE_REQUEST, 2, 1)
        play.deliver(VOTE_REQUEST, 2, 1)
        self.assertEqual(play.node(2).term, 3)
        play.deliver(APPEND, 2, 0)
        self.assertEqual(play.node(2).term, 3)

    def test_vote_request_of_an_earlier_term_lowers_no_term(self):
        play = Play(0, 1, 2)
        play.do(start_election(0))
        play.do(start_election(1))
        play.do(start_election(1))
        self.assertEqual(play.deliver(VOTE_REQUEST, 1, 0), 1)
        self.assertEqual((play.node(1).term, play.node(1).voted), (2, 1))

    def test_vote_does_not_change_in_a_term(self):
        play = Play(0, 1, 2)
        play.do(start_election(0))
        play.do(start_election(1))
        play.copy(VOTE_REQUEST, 2, 0)
        play.copy(VOTE_REQUEST, 2, 1)
        play.copy(VOTE_REQUEST, 2, 0)
        self.assertEqual((play.node(2).term, play.node(2).voted), (1, 0))
        play.deliver(VOTE_REPLY, 0, 2)
        play.deliver(APPEND, 2, 0)
        play.copy(VOTE_REQUEST, 2, 1)
        self.assertEqual((play.node(2).term, play.node(2).voted), (1, 0))

    def test_new_term_frees_the_vote(self):
        play = Play(0, 1, 2)
        play.do(start_election(0))
        play.deliver(VOTE_REQUEST, 2, 0)
        play.do(start_election(1))
        play.do(start_election(1))
        play.do(deliver(play.place(VOTE_REQUEST, 2, 1)))
        play.do(deliver(play.place(VOTE_REQUEST, 2, 1)))
        self.assertEqual((play.node(2).term, play.node(2).voted), (2, 1))

    def test_restart_lowers_no_term_and_frees_no_vote(self):
        play = Play(0, 1, 2)
        play.do(start_election(0))
        play.do(start_election(0))
        play.do(start_election(1))
        self.assertEqual(play.drop(VOTE_REQUEST, 2, 0), 0)
        play.copy(VOTE_REQUEST, 2, 0)
        for number, voted in ((0, 0), (1, 1), (2, 0)):
            row = play.row(number)
            play.stop_and_restart(number)
            self.assertEqual(play.row(number)[1:3], row[1:3])
            self.assertEqual(row[2], voted)
        self.assertEqual([play.row(number)[1] for number in range(3)], [2, 1, 2])
        play.do(start_election(1))
        play.do(deliver(len(play.state.messages) - 1))
        self.assertEqual(play.message_rows()[-1], [1, 1, 2, 2, 0])
        self.assertEqual(play.row(2)[1:3], [2, 0])

    def test_vote_request_that_comes_again_after_the_restart(self):
        play = Play(0, 1, 2)
        play.do(start_election(0))
        play.copy(VOTE_REQUEST, 1, 0)
        play.stop_and_restart(1)
        play.deliver(VOTE_REQUEST, 1, 0)
        # The same candidate is granted the same vote, and it counts once.
        self.assertEqual(play.message_rows()[1:], [[1, 0, 1, 1, 1], [1, 0, 1, 1, 1]])
        self.assertEqual(play.row(1)[1:3], [1, 0])


class Walk:
    """A walk over the calls from a seed, with the points watched at every step."""

    def __init__(self, test, seed, stopping):
        self.test = test
        self.random = random.Random(seed)
        self.stopping = stopping
        self.members = sorted(self.random.sample(range(5), self.random.randrange(1, 6)))
        self.play = Play(*self.members)
        self.initial = self.play.node(0).members()
        self.stops = 0

    def step(self):
        before_nodes = [(node.term, node.voted) for node in self.play.state.nodes]
        before_committed = self.play.committed()
        self.play.do(self.some_call())
        self.watch_leaders()
        self.watch_logs()
        self.watch_committed(before_committed)
        self.watch_terms(before_nodes)

    def some_call(self):
        node = self.random.randrange(5)
        if self.stopping and self.random.random() < 0.06:
            if not self.play.node(node).running:
                return restart(node)
            # Less often than restarts, so that mostly a majority runs.
            if self.random.random() < 0.4:
                self.stops += 1
                return stop(node)
        pick = self.random.random()
        sent = len(self.play.state.messages)
        leaders = [n.number for n in self.play.state.nodes if n.role == LEADER and n.running]
        if pick > 0.98 or not leaders and not sent:
            return start_election(node)
        if sent and (pick < 0.66 or not leaders):
            return self.some_message(pick, sent)
        leader = self.random.choice(leaders + [node] * (pick > 0.96))
        if pick < 0.78:
            return propose(leader, self.random.randrange(100))
        if pick < 0.86:
            return change_member(leader, self.random.randrange(5))
        return heartbeat(leader)

    def some_message(self, pick, sent):
        message = self.random.randrange(sent)
        if pick < 0.06:
            return deliver_copy(message)
        if pick < 0.12:
            return drop(message)
        return deliver(message)

    def watch_leaders(self):
        led = self.play.leaders()
        terms = [term for term, node in led]
        self.test.assertEqual(len(set(terms)), len(terms), "point 1")
        for node in self.play.state.nodes:
            if node.role == LEADER:
                self.test.assertIn((node.term, node.number), led, "point 1")
            if node.role == LEADER and node.term >= max(terms):
                log = self.play.log(node.number)
                self.test.assertTrue(begins_with(log, self.play.committed()), "point 4")

    def watch_logs(self):
        committed = self.play.committed()
        logs = [self.play.log(number) for number in range(5)]
        for node in self.play.state.nodes:
            self.test.assertLessEqual(node.commit_index, len(logs[node.number]), "point 2")
            self.test.assertTrue(begins_with(committed, logs[node.number][:node.commit_index]), "point 2")
        for one in range(5):
            for other in range(one):
                same = [k for k, (a, b) in enumerate(zip(logs[one], logs[other])) if a[0] == b[0]]
                if same:
                    end = same[-1] + 1
                    self.test.assertEqual(logs[one][:end], logs[other][:end], "point 7")

    def watch_committed(self, before):
        committed = self.play.committed()
        self.test.assertTrue(begins_with(committed, before), "point 3")
        sets = masks(self.play, self.initial)
        self.test.assertTrue(all(sets), "point 6")
        for one, other in zip(sets, sets[1:]):
            self.test.assertTrue(one_apart(one, other), "point 6")

    def watch_terms(self, before):
        for node, (term, voted) in zip(self.play.state.nodes, before):
            self.test.assertGreaterEqual(node.term, term, "point 8")
            if node.term == term and voted is not None:
                self.test.assertEqual(node.voted, voted, "point 8")

    def running(self):
        return [node for node in self.play.state.nodes if node.running]

    def restart_enough(self):
        """Restart nodes until every running one has a running majority. Returns how many stay stopped."""
        stopped = [node.number for node in self.play.state.nodes if not node.running]
        while not self.running() or not all(self.majority_runs(node) for node in self.running()):
            self.play.do(restart(stopped.pop(self.random.randrange(len(stopped)))))
        return len(stopped)

    def majority_runs(self, node):
        return node.is_majority([other.number for other in self.running()])

    def watch_progress(self, command):
        """Point 5: from here on, these operations alone commit this command last."""
        start = len(self.play.calls)
        before = len(self.play.committed())
        self.commit_last(command)
        self.test.assertGreater(len(self.play.committed()), before, "point 5")
        self.test.assertEqual(self.play.committed()[-1][1:], (0, command), "point 5")
        # start_election, propose, heartbeat, deliver and drop.
        self.test.assertLessEqual({call[0] for call in self.play.calls[start:]}, {1, 2, 4, 5, 7})

    def commit_last(self, command):
        self.play.drop_all()
        best = max(self.running(), key=lambda node: (node.last_term(), len(node.log)))
        position = None
        # Greater terms may have to be learnt of, and logs sent from further and further ahead.
        for turn in range(2 * STEPS):
            if best.role != LEADER:
                self.play.do(start_election(best.number))
                position = None
            elif position is None:
                position = self.play.do(propose(best.number, command))
            elif best.commit_index < position:
                self.play.do(heartbeat(best.number))
            else:
                return
            self.play.drain()
        self.test.fail("point 5")


class Walks(unittest.TestCase):
    """All points together, where the course is left to a seed."""

    def walk(self, stopping):
        """Walks from seeds; how much was committed, changed, led, stopped, and stopped to the end."""
        done = [0] * 5
        for seed in range(WALKS):
            walk = Walk(self, seed, stopping)
            for number in range(STEPS):
                walk.step()
            done[0] += len(walk.play.committed())
            done[1] += len(masks(walk.play, walk.initial)) - 1
            done[2] += len(walk.play.leaders())
            done[3] += walk.stops
            done[4] += walk.restart_enough()
            walk.watch_progress(seed % 100)
            walk.watch_logs()
            walk.watch_leaders()
        return done

    # Walks in which little happens would watch over nothing, so both count what happens.

    def test_every_point_at_every_step(self):
        committed, changed, led, stops, stopped = self.walk(False)
        self.assertGreater(committed, 20 * WALKS)
        self.assertGreater(changed, 2 * WALKS)
        self.assertGreater(led, 2 * WALKS)
        self.assertEqual(stops, 0)

    def test_every_point_with_stops_and_restarts(self):
        committed, changed, led, stops, stopped = self.walk(True)
        self.assertGreater(committed, 20 * WALKS)
        self.assertGreater(changed, WALKS)
        self.assertGreater(led, 2 * WALKS)
        self.assertGreater(stops, 4 * WALKS)
        self.assertGreater(stopped, WALKS // 2)

    def test_walk_by_the_numbers(self):
        for seed in range(40):
            walk = Walk(self, seed, seed % 2 == 0)
            for number in range(99):
                walk.step()
            self.assertEqual(numbers(*walk.play.calls), walk.play.results)


if __name__ == "__main__":
    unittest.main()
