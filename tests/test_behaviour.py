"""The behaviour of the nodes: leading, and receiving each of the four kinds of messages."""

import unittest

from movingmembers.leading import advance_commit_index
from movingmembers.messages import APPEND, APPEND_REPLY, VOTE_REPLY, VOTE_REQUEST, Append, AppendReply
from movingmembers.node import Entry
from play import (
    ADOPTED,
    BECAME_LEADER,
    CANDIDATE,
    COMMITTED,
    COUNTED,
    FOLLOWER,
    IGNORED,
    LEADER,
    NO_SUCCESS,
    REPLIED,
    Play,
    begin,
    change_member,
    deliver,
    deliver_copy,
    heartbeat,
    propose,
    settled,
    start_election,
)


def entries_of(*terms):
    return [Entry(term, 0, place) for place, term in enumerate(terms)]


class BecomingLeader(unittest.TestCase):
    def test_first_leader(self):
        play = Play(0, 1, 2)
        play.elect(0, [1])
        self.assertEqual(
            play.row(0), [1, 1, 0, LEADER, 0, 7, 1, 1, 2, 0, 0, 5, 1, 1, 1, 1, 1, 0, 0, 0, 0, 0]
        )
        self.assertEqual(
            play.message_rows(),
            [[0, 2, 0, 1, 0, 0], [2, 1, 0, 1, 0, 0, 1, 1, 2, 0, 0], [2, 2, 0, 1, 0, 0, 1, 1, 2, 0, 0]],
        )

    def test_next_indexes_start_behind_the_log_as_it_was(self):
        play = settled(0, 1, 2)
        play.drop_all()
        play.elect(1, [2])
        self.assertEqual(play.node(1).next_indexes, [2] * 5)
        self.assertEqual(play.node(1).match_indexes, [0] * 5)
        self.assertEqual(play.message_rows()[1:], [[2, 0, 1, 2, 1, 1, 1, 2, 2, 0, 0], [2, 2, 1, 2, 1, 1, 1, 2, 2, 0, 0]])
        self.assertEqual(play.leaders(), [(1, 0), (2, 1)])

    def test_node_that_is_no_member(self):
        play = Play(0, 1, 2)
        self.assertEqual(play.do(start_election(3)), 1)
        self.assertEqual([row[1] for row in play.message_rows()], [0, 1, 2])
        play.deliver(VOTE_REQUEST, 0, 3)
        # Its own vote does not count: one of three members.
        self.assertEqual(play.deliver(VOTE_REPLY, 3, 0), COUNTED)
        play.deliver(VOTE_REQUEST, 1, 3)
        self.assertEqual(play.deliver(VOTE_REPLY, 3, 1), BECAME_LEADER)
        play.deliver(APPEND, 0, 3)
        self.assertEqual(play.deliver(APPEND_REPLY, 3, 0), COUNTED)
        play.deliver(APPEND, 1, 3)
        self.assertEqual(play.deliver(APPEND_REPLY, 3, 1), COMMITTED)
        self.assertEqual(play.do(heartbeat(3)), 3)

    def test_half_of_four_is_no_majority(self):
        play = Play(0, 1, 2, 3)
        play.elect(0, [1])
        self.assertEqual(play.node(0).role, CANDIDATE)
        play.deliver(VOTE_REQUEST, 2, 0)
        self.assertEqual(play.deliver(VOTE_REPLY, 0, 2), BECAME_LEADER)
        play.deliver(APPEND, 1, 0)
        self.assertEqual(play.deliver(APPEND_REPLY, 0, 1), COUNTED)
        play.deliver(APPEND, 2, 0)
        self.assertEqual(play.deliver(APPEND_REPLY, 0, 2), COMMITTED)


class AdvancingCommit(unittest.TestCase):
    def leader(self, terms, match_indexes):
        play = Play(0, 1, 2)
        play.elect(0, [1])
        node = play.node(0)
        node.term = 3
        node.log = entries_of(*terms)
        node.match_indexes = match_indexes
        return play

    def test_greatest_position_that_a_majority_has(self):
        play = self.leader([3, 3, 3, 3], [0, 2, 3, 4, 4])
        advance_commit_index(play.state, play.node(0))
        self.assertEqual(play.node(0).commit_index, 3)

    def test_entry_of_an_earlier_term_is_not_counted(self):
        play = self.leader([1, 2, 3], [0, 2, 2, 0, 0])
        advance_commit_index(play.state, play.node(0))
        self.assertEqual(play.node(0).commit_index, 0)
        self.assertEqual(play.committed(), [])

    def test_earlier_entries_come_along(self):
        play = self.leader([1, 2, 3], [0, 3, 0, 0, 0])
        advance_commit_index(play.state, play.node(0))
        self.assertEqual(play.node(0).commit_index, 3)
        self.assertEqual(len(play.committed()), 3)

    def test_never_back(self):
        play = self.leader([3, 3, 3], [0, 1, 1, 0, 0])
        play.node(0).commit_index = 2
        advance_commit_index(play.state, play.node(0))
        self.assertEqual(play.node(0).commit_index, 2)


class VoteRequests(unittest.TestCase):
    def test_granted(self):
        play = Play(0, 1, 2)
        play.do(start_election(0))
        self.assertEqual(play.do(deliver(0)), REPLIED)
        self.assertEqual(play.message_rows()[-1], [1, 0, 1, 1, 1])
        self.assertEqual(play.row(1), [1, 1, 0, FOLLOWER, 0, 7, 0, 0, 0])

    def test_vote_is_given_away(self):
        play = Play(0, 1, 2)
        play.do(start_election(0))
        play.do(start_election(1))
        self.assertEqual(play.deliver(VOTE_REQUEST, 2, 0), REPLIED)
        self.assertEqual(play.deliver(VOTE_REQUEST, 2, 1), REPLIED)
        self.assertEqual(play.message_rows()[-2:], [[1, 0, 2, 1, 1], [1, 1, 2, 1, 0]])
        self.assertEqual(play.node(2).voted, 0)

    def test_same_candidate_again(self):
        play = Play(0, 1, 2)
        play.do(start_election(0))
        play.do(deliver_copy(0))
        play.do(deliver_copy(0))
        self.assertEqual(play.message_rows()[-2:], [[1, 0, 1, 1, 1], [1, 0, 1, 1, 1]])

    def test_candidate_keeps_its_vote_for_itself(self):
        play = Play(0, 1, 2)
        play.do(start_election(0))
        play.do(start_election(1))
        self.assertEqual(play.deliver(VOTE_REQUEST, 1, 0), REPLIED)
        self.assertEqual(play.message_rows()[-1], [1, 0, 1, 1, 0])
        self.assertEqual(play.row(1), [1, 1, 1, CANDIDATE, 0, 7, 0, 1, 1, 0])

    def test_request_of_an_earlier_term(self):
        play = Play(0, 1, 2)
        play.do(start_election(0))
        play.do(start_election(1))
        play.do(start_election(1))
        play.deliver(VOTE_REQUEST, 2, 1)
        play.deliver(VOTE_REQUEST, 2, 1)
        before = play.row(2)
        self.assertEqual(play.deliver(VOTE_REQUEST, 2, 0), REPLIED)
        self.assertEqual(play.message_rows()[-1], [1, 0, 2, 2, 0])
        self.assertEqual(play.row(2), before)

    def test_free_vote_is_not_for_an_earlier_term(self):
        play = settled(0, 1, 2)
        play.do(start_election(1))
        play.node(2).adopt(5)
        play.deliver(VOTE_REQUEST, 2, 1)
        self.assertEqual(play.message_rows()[-1], [1, 1, 2, 5, 0])
        self.assertIsNone(play.node(2).voted)

    def ask(self, own, other):
        """Whether node 1 with a log of these terms grants the vote to node 0 with those."""
        play = Play(0, 1)
        play.node(1).log = entries_of(*own)
        play.node(0).log = entries_of(*other)
        play.node(0).term = 8
        play.do(start_election(0))
        play.do(deliver(0))
        self.assertEqual(play.message_rows()[0][:4], [1, 0, 1, 9])
        self.assertEqual(play.node(1).term, 9)
        granted = play.message_rows()[0][4]
        self.assertEqual(play.node(1).voted, 0 if granted else None)
        return granted

    def test_logs_are_compared(self):
        self.assertEqual(self.ask([], []), 1)
        self.assertEqual(self.ask([], [1]), 1)
        self.assertEqual(self.ask([1], []), 0)
        self.assertEqual(self.ask([1, 1], [1, 1]), 1)
        self.assertEqual(self.ask([1, 1], [1, 1, 1]), 1)
        self.assertEqual(self.ask([1, 1, 1], [1, 1]), 0)
        self.assertEqual(self.ask([1, 1, 1], [2]), 1)
        self.assertEqual(self.ask([2], [1, 1, 1]), 0)
        self.assertEqual(self.ask([1, 2], [2, 2]), 1)

    def test_leader_gives_way_to_a_greater_term(self):
        play = settled(0, 1, 2)
        play.do(start_election(1))
        self.assertEqual(play.deliver(VOTE_REQUEST, 0, 1), REPLIED)
        self.assertEqual(play.row(0), [1, 2, 1, FOLLOWER, 1, 7, 1, 1, 2, 0, 0, 0])

    def test_candidate_gives_way_without_a_vote(self):
        play = settled(0, 1, 2)
        play.do(propose(0, 1))
        play.replicate(0, 2)
        play.do(start_election(2))
        play.do(start_election(1))
        play.do(start_election(1))
        self.assertEqual(play.node(1).term, 3)
        play.do(deliver(len(play.state.messages) - 1))
        # Node 2 adopts the term, but its log goes further.
        self.assertEqual(play.row(2)[:5], [1, 3, -1, FOLLOWER, 1])
        self.assertEqual(play.node(2).votes, [])


class VoteReplies(unittest.TestCase):
    def test_counted_then_leader(self):
        play = Play(0, 1, 2, 3, 4)
        play.do(start_election(0))
        for voter in (3, 1, 4):
            play.deliver(VOTE_REQUEST, voter, 0)
        self.assertEqual(play.deliver(VOTE_REPLY, 0, 3), COUNTED)
        self.assertEqual(play.node(0).votes, [0, 3])
        self.assertEqual(play.deliver(VOTE_REPLY, 0, 1), BECAME_LEADER)
        self.assertEqual(play.deliver(VOTE_REPLY, 0, 4), IGNORED)
        self.assertEqual(play.leaders(), [(1, 0)])

    def test_same_vote_twice(self):
        play = Play(0, 1, 2, 3, 4)
        play.do(start_election(0))
        play.deliver(VOTE_REQUEST, 1, 0)
        self.assertEqual(play.copy(VOTE_REPLY, 0, 1), COUNTED)
        self.assertEqual(play.copy(VOTE_REPLY, 0, 1), IGNORED)
        self.assertEqual(play.node(0).votes, [0, 1])

    def test_not_granted(self):
        play = Play(0, 1, 2)
        play.do(start_election(0))
        play.do(start_election(1))
        play.deliver(VOTE_REQUEST, 1, 0)
        self.assertEqual(play.deliver(VOTE_REPLY, 0, 1), IGNORED)
        self.assertEqual(play.node(0).votes, [0])

    def test_vote_of_an_earlier_term(self):
        play = Play(0, 1, 2)
        play.do(start_election(0))
        play.deliver(VOTE_REQUEST, 1, 0)
        play.do(start_election(0))
        self.assertEqual(play.deliver(VOTE_REPLY, 0, 1), IGNORED)
        self.assertEqual(play.row(0), [1, 2, 0, CANDIDATE, 0, 7, 0, 1, 0, 0])

    def test_greater_term(self):
        play = Play(0, 1, 2)
        play.do(start_election(0))
        play.do(start_election(1))
        play.do(start_election(1))
        play.deliver(VOTE_REQUEST, 1, 0)
        self.assertEqual(play.deliver(VOTE_REPLY, 0, 1), ADOPTED)
        self.assertEqual(play.row(0), [1, 2, -1, FOLLOWER, 0, 7, 0, 0, 0])

    def test_follower_counts_no_vote(self):
        play = Play(0, 1, 2)
        play.do(start_election(0))
        play.elect(1, [2])
        play.deliver(APPEND, 0, 1)
        self.assertEqual(play.row(0), [1, 1, 0, FOLLOWER, 0, 7, 1, 1, 2, 0, 0, 0])
        play.deliver(VOTE_REQUEST, 2, 0)
        reply = play.state.messages[play.place(VOTE_REPLY, 0, 2)]
        reply.granted = True
        self.assertEqual(play.deliver(VOTE_REPLY, 0, 2), IGNORED)
        self.assertEqual(play.node(0).role, FOLLOWER)


class Appends(unittest.TestCase):
    def follower(self, terms, term=5):
        play = Play(0, 1, 2)
        play.node(1).log = entries_of(*terms)
        play.node(1).term = term
        return play

    def append(self, play, term, preceding, entries, commit_index):
        play.state.messages = [Append(1, 0, term, preceding[0], preceding[1], entries, commit_index)]
        self.assertEqual(play.do(deliver(0)), REPLIED)
        return play.message_rows()

    def terms(self, play):
        return [entry.term for entry in play.node(1).log]

    def test_earlier_term_is_refused(self):
        play = self.follower([1, 2], 5)
        self.assertEqual(self.append(play, 4, (2, 2), entries_of(4), 2), [[3, 0, 1, 5, 0, 0]])
        self.assertEqual(play.row(1)[:5], [1, 5, -1, 0, 0])
        self.assertEqual(self.terms(play), [1, 2])

    def test_candidate_is_not_moved_by_an_earlier_term(self):
        play = self.follower([], 5)
        play.do(start_election(1))
        self.append(play, 5, (0, 0), entries_of(5), 0)
        self.assertEqual((play.node(1).role, play.node(1).votes), (CANDIDATE, [1]))

    def test_log_too_short(self):
        play = self.follower([1, 2])
        self.assertEqual(self.append(play, 6, (3, 2), entries_of(6), 4), [[3, 0, 1, 6, 0, 0]])
        self.assertEqual((self.terms(play), play.node(1).commit_index), ([1, 2], 0))
        self.assertEqual((play.node(1).term, play.node(1).voted), (6, None))

    def test_other_term_ahead_of_the_entries(self):
        play = self.follower([1, 2, 2])
        self.assertEqual(self.append(play, 6, (2, 1), entries_of(6), 3), [[3, 0, 1, 6, 0, 0]])
        self.assertEqual((self.terms(play), play.node(1).commit_index), ([1, 2, 2], 0))

    def test_entries_are_added(self):
        play = self.follower([1, 2])
        self.assertEqual(self.append(play, 6, (2, 2), entries_of(3, 6), 3), [[3, 0, 1, 6, 1, 4]])
        self.assertEqual((self.terms(play), play.node(1).commit_index), ([1, 2, 3, 6], 3))
        self.assertEqual(len(play.committed()), 3)

    def test_rest_is_replaced_from_the_first_difference(self):
        play = self.follower([1, 2, 2, 2, 2])
        kept = play.node(1).log[1]
        self.assertEqual(self.append(play, 5, (1, 1), entries_of(2, 3), 0), [[3, 0, 1, 5, 1, 3]])
        self.assertEqual(self.terms(play), [1, 2, 3])
        self.assertIs(play.node(1).log[1], kept)

    def test_all_kept(self):
        play = self.follower([1, 2, 2, 2])
        self.assertEqual(self.append(play, 5, (1, 1), entries_of(2), 0), [[3, 0, 1, 5, 1, 2]])
        self.assertEqual(self.terms(play), [1, 2, 2, 2])

    def test_without_entries_all_is_kept(self):
        play = self.follower([1, 2, 2])
        self.assertEqual(self.append(play, 5, (0, 0), [], 0), [[3, 0, 1, 5, 1, 0]])
        self.assertEqual(self.append(play, 5, (3, 2), [], 3), [[3, 0, 1, 5, 1, 3]])
        self.assertEqual((self.terms(play), play.node(1).commit_index), ([1, 2, 2], 3))

    def test_commits_no_further_than_the_contained_entries(self):
        play = self.follower([1, 2, 2, 2])
        self.append(play, 5, (1, 1), entries_of(2), 4)
        self.assertEqual(play.node(1).commit_index, 2)
        self.assertEqual(len(play.committed()), 2)

    def test_commit_index_never_goes_back(self):
        play = self.follower([1, 2, 2, 2])
        self.append(play, 5, (4, 2), [], 3)
        self.append(play, 5, (4, 2), [], 1)
        self.assertEqual(play.node(1).commit_index, 3)
        self.append(play, 5, (1, 1), [], 4)
        self.assertEqual(play.node(1).commit_index, 3)

    def test_refused_append_does_not_commit(self):
        play = self.follower([1, 2])
        self.append(play, 5, (2, 1), [], 2)
        self.assertEqual(play.node(1).commit_index, 0)

    def test_candidate_of_the_same_term_follows_and_keeps_its_vote(self):
        play = self.follower([], 4)
        play.do(start_election(1))
        self.append(play, 5, (2, 2), [], 0)
        self.assertEqual(play.row(1), [1, 5, 1, FOLLOWER, 0, 7, 0, 0, 0])

    def test_leader_follows_a_greater_term(self):
        play = settled(1, 0, 2)
        self.append(play, 2, (1, 1), entries_of(2), 0)
        self.assertEqual(play.row(1), [1, 2, -1, FOLLOWER, 1, 7, 2, 1, 2, 0, 2, 0, 0, 0, 0])


class AppendReplies(unittest.TestCase):
    def reply(self, play, term, success, count):
        play.state.messages = [AppendReply(0, 1, term, success, count)]
        return play.do(deliver(0))

    def leader(self):
        """Node 0 leads in term 1 with four entries, and knows of none at the others."""
        play = Play(0, 1, 2, 3, 4)
        play.elect(0, [1, 2])
        for command in range(3):
            play.do(propose(0, command))
        return play

    def test_success(self):
        play = self.leader()
        self.assertEqual(self.reply(play, 1, True, 3), COUNTED)
        self.assertEqual(play.node(0).match_indexes, [0, 3, 0, 0, 0])
        self.assertEqual(play.node(0).next_indexes, [1, 4, 1, 1, 1])

    def test_success_that_commits(self):
        play = self.leader()
        self.reply(play, 1, True, 3)
        play.state.messages = [AppendReply(0, 4, 1, True, 2)]
        self.assertEqual(play.do(deliver(0)), COMMITTED)
        self.assertEqual(play.node(0).commit_index, 2)
        self.assertEqual(play.committed(), [(1, 2, 0), (1, 0, 0)])
        self.assertEqual(self.reply(play, 1, True, 4), COUNTED)

    def test_late_success_does_not_lower_the_match(self):
        play = self.leader()
        self.reply(play, 1, True, 3)
        self.assertEqual(self.reply(play, 1, True, 1), COUNTED)
        self.assertEqual((play.node(0).match_indexes[1], play.node(0).next_indexes[1]), (3, 4))

    def test_no_success(self):
        play = self.leader()
        self.reply(play, 1, True, 2)
        self.assertEqual(self.reply(play, 1, False, 0), NO_SUCCESS)
        self.assertEqual((play.node(0).match_indexes[1], play.node(0).next_indexes[1]), (2, 2))
        self.assertEqual(self.reply(play, 1, False, 0), NO_SUCCESS)
        self.assertEqual(self.reply(play, 1, False, 0), NO_SUCCESS)
        self.assertEqual(play.node(0).next_indexes, [1, 1, 1, 1, 1])
        self.assertEqual(self.reply(play, 1, True, 1), COUNTED)
        self.assertEqual(play.node(0).next_indexes[1], 3)

    def test_greater_term(self):
        play = self.leader()
        for success in (False, True):
            play = self.leader()
            self.assertEqual(self.reply(play, 2, success, 4), ADOPTED)
            self.assertEqual(play.row(0)[:5], [1, 2, -1, FOLLOWER, 0])
            self.assertEqual((play.node(0).next_indexes, play.node(0).match_indexes), ([], []))

    def test_earlier_term(self):
        play = settled(0, 1, 2)
        play.do(start_election(1))
        play.drop_all()
        play.node(0).adopt(2)
        play.elect(0, [2])
        for success in (False, True):
            before = play.row(0)
            self.assertEqual(self.reply(play, 1, success, 1), IGNORED)
            self.assertEqual(play.row(0), before)

    def test_not_the_leader(self):
        play = Play(0, 1, 2)
        play.do(start_election(0))
        for success in (False, True):
            self.assertEqual(self.reply(play, 1, success, 0), IGNORED)
        play.node(0).become_follower()
        self.assertEqual(self.reply(play, 1, True, 0), IGNORED)

    def test_old_leader_learns_of_the_new_one(self):
        play = settled(0, 1, 2)
        play.elect(1, [2])
        play.drop_all()
        play.do(heartbeat(0))
        self.assertEqual(play.deliver(APPEND, 2, 0), REPLIED)
        self.assertEqual(play.message_rows()[-1], [3, 0, 2, 2, 0, 0])
        self.assertEqual(play.deliver(APPEND_REPLY, 0, 2), ADOPTED)
        self.assertEqual(play.do(propose(0, 1)), -2)


class CommittedEntries(unittest.TestCase):
    def test_grow_with_the_commit_index_that_is_furthest(self):
        play = settled(0, 1, 2)
        self.assertEqual(play.committed(), [(1, 2, 0)])
        play.do(propose(0, 6))
        self.assertEqual(play.committed(), [(1, 2, 0)])
        self.assertEqual(play.replicate(0, 2), COMMITTED)
        self.assertEqual(play.committed(), [(1, 2, 0), (1, 0, 6)])
        play.do(propose(0, 7))
        play.replicate(0, 1)
        self.assertEqual(play.node(1).commit_index, 2)
        self.assertEqual(play.committed(), [(1, 2, 0), (1, 0, 6), (1, 0, 7)])

    def test_new_log_entries_do_not_come_in_by_themselves(self):
        play = settled(0, 1, 2)
        play.do(propose(0, 6))
        play.do(change_member(0, 3))
        self.assertEqual(play.committed(), [(1, 2, 0)])

    def test_gone_with_begin(self):
        play = settled(0, 1, 2)
        play.do(begin(0, 1, 2))
        self.assertEqual(play.committed(), [])


if __name__ == "__main__":
    unittest.main()
