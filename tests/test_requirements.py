"""The points 1 to 8 under "Requirements", each by a course of its own and along many walks."""

import random
import unittest

from movingmembers.messages import APPEND, APPEND_REPLY, VOTE_REPLY, VOTE_REQUEST
from play import (
    BECAME_LEADER,
    CANDIDATE,
    COMMITTED,
    COUNTED,
    FOLLOWER,
    IGNORED,
    LEADER,
    Play,
    change_member,
    deliver,
    deliver_copy,
    heartbeat,
    numbers,
    propose,
    settled,
    start_election,
)

WALKS = 150
STEPS = 250


def begins_with(longer, shorter):
    return longer[:len(shorter)] == shorter


def masks(play, initial):
    """The initial members and the committed configurations."""
    return [initial] + [value for term, kind, value in play.committed() if kind == 1]


def one_apart(one, other):
    return bin(one ^ other).count("1") == 1


class OneLeaderInATerm(unittest.TestCase):
    """Point 1."""

    def test_two_candidates(self):
        play = Play(0, 1, 2)
        play.do(start_election(0))
        play.do(start_election(1))
        play.deliver(VOTE_REQUEST, 2, 0)
        play.deliver(VOTE_REQUEST, 2, 1)
        self.assertEqual(play.deliver(VOTE_REPLY, 0, 2), BECAME_LEADER)
        self.assertEqual(play.deliver(VOTE_REPLY, 1, 2), IGNORED)
        play.drain()
        self.assertEqual(play.state.leaders, [(1, 0)])

    def test_one_vote_counts_once(self):
        play = Play(0, 1, 2, 3, 4)
        play.do(start_election(0))
        play.deliver(VOTE_REQUEST, 1, 0)
        for turn in range(3):
            play.copy(VOTE_REPLY, 0, 1)
        play.elect(2, [3, 4])
        self.assertEqual(play.state.leaders, [(1, 2)])

    def test_vote_for_itself_counts_for_members_alone(self):
        play = Play(0, 1, 2)
        play.elect(3, [0])
        play.elect(1, [2])
        self.assertEqual(play.state.leaders, [(1, 1)])

    def test_new_term_new_leader(self):
        play = settled(0, 1, 2)
        play.do(start_election(1))
        play.drain()
        self.assertEqual(play.state.leaders, [(1, 0), (2, 1)])
        self.assertEqual([node.role for node in play.state.nodes[:3]], [FOLLOWER, LEADER, FOLLOWER])


class BeginningOfTheCommitted(unittest.TestCase):
    """Point 2."""

    def test_follower_with_entries_of_another_leader(self):
        play = settled(0, 1, 2)
        # Node 0 leads on, but only node 1 and 2 hear of what is committed in term 2.
        play.do(propose(0, 11))
        play.do(propose(0, 12))
        play.forget_messages()
        play.elect(1, [2])
        play.do(propose(1, 21))
        self.assertEqual(play.replicate(1, 2), COMMITTED)
        play.forget_messages()
        play.do(heartbeat(1))
        play.deliver(APPEND, 0, 1)
        commit_index = play.node(0).commit_index
        self.assertEqual(play.log(0)[:commit_index], play.committed()[:commit_index])
        play.drain()
        play.do(heartbeat(1))
        play.drain()
        self.assertEqual(play.node(0).commit_index, 3)
        self.assertEqual(play.committed(), [(1, 2, 0), (2, 2, 0), (2, 0, 21)])
        self.assertEqual(play.log(0), play.committed())

    def test_refused_append_commits_nothing(self):
        play = settled(0, 1, 2)
        play.do(change_member(0, 3))
        play.replicate(0, 1)
        self.assertEqual(play.replicate(0, 2), COMMITTED)
        play.forget_messages()
        # Node 3 is behind: the leader sends it nothing but its last entries at first.
        play.node(0).next_indexes[3] = 3
        play.do(heartbeat(0))
        play.deliver(APPEND, 3, 0)
        self.assertEqual(play.node(3).commit_index, 0)
        play.drain()
        while play.node(3).commit_index < 2:
            play.do(heartbeat(0))
            play.drain()
        self.assertEqual(play.log(3), play.committed())


class CommittedStays(unittest.TestCase):
    """Point 3."""

    def test_late_append_cuts_nothing_off(self):
        play = Play(0, 1)
        play.elect(0, [1])
        play.copy(APPEND, 1, 0)
        play.deliver(APPEND_REPLY, 0, 1)
        play.do(propose(0, 5))
        play.do(heartbeat(0))
        play.do(deliver(1))
        self.assertEqual(play.deliver(APPEND_REPLY, 0, 1), COMMITTED)
        committed = play.committed()
        self.assertEqual(play.deliver(APPEND, 1, 0), 1)
        self.assertEqual(play.log(1), committed)
        self.assertEqual(committed, [(1, 2, 0), (1, 0, 5)])

    def test_deposed_leader_replaces_nothing(self):
        play = settled(0, 1, 2)
        play.do(propose(0, 11))
        play.forget_messages()
        play.do(heartbeat(0))
        play.elect(1, [2])
        self.assertEqual(play.deliver(APPEND, 2, 1), 1)
        self.assertEqual(play.deliver(APPEND_REPLY, 1, 2), COMMITTED)
        committed = play.committed()
        # What the old leader sent before comes only now.
        self.assertEqual(play.deliver(APPEND, 2, 0), 1)
        self.assertEqual(play.deliver(APPEND_REPLY, 0, 2), 5)
        self.assertEqual(play.log(2), committed)
        self.assertEqual(play.committed(), committed)

    def test_new_leader_keeps_and_lengthens(self):
        play = settled(0, 1, 2)
        for command in (1, 2, 3):
            play.do(propose(0, command))
            play.replicate(0, 1)
        committed = play.committed()
        play.elect(1, [2])
        play.drain()
        self.assertEqual(len(committed), 4)
        self.assertEqual(play.committed(), committed + [(2, 2, 0)])


class LeaderHasTheCommitted(unittest.TestCase):
    """Point 4."""

    def test_candidate_that_lacks_committed_entries(self):
        play = settled(0, 1, 2)
        play.do(propose(0, 5))
        self.assertEqual(play.replicate(0, 1), COMMITTED)
        play.forget_messages()
        play.elect(2, [0, 1])
        self.assertEqual(play.node(2).role, CANDIDATE)
        self.assertEqual(play.state.leaders, [(1, 0)])
        play.elect(1, [2])
        self.assertEqual(play.state.leaders, [(1, 0), (3, 1)])
        self.assertTrue(begins_with(play.log(1), play.committed()))

    def test_longer_log_of_an_earlier_term(self):
        play = settled(0, 1, 2)
        for command in range(5):
            play.do(propose(0, command))
        play.forget_messages()
        play.elect(1, [2])
        play.deliver(APPEND, 2, 1)
        self.assertEqual(play.deliver(APPEND_REPLY, 1, 2), COMMITTED)
        play.forget_messages()
        # Node 0 has six entries, but its last term is 1; the committed two end in term 2.
        play.node(0).adopt(2)
        play.elect(0, [1, 2])
        self.assertEqual(play.state.leaders, [(1, 0), (2, 1)])


class FurtherEntriesCanBeCommitted(unittest.TestCase):
    """Point 5."""

    def test_log_that_went_astray_is_brought_back(self):
        play = settled(0, 1, 2)
        for command in range(6):
            play.do(propose(0, command))
        play.elect(1, [2])
        play.drain()
        self.assertEqual(play.node(0).role, FOLLOWER)
        for turn in range(6):
            play.do(heartbeat(1))
            play.drain()
        self.assertEqual(play.log(0), [(1, 2, 0), (2, 2, 0)])
        self.assertEqual(play.log(0), play.log(1))

    def test_new_member_with_an_empty_log(self):
        play = settled(0, 1)
        for command in range(4):
            play.do(propose(0, command))
            play.replicate(0, 1)
        play.do(change_member(0, 4))
        for turn in range(8):
            play.do(heartbeat(0))
            play.drain()
        self.assertEqual(play.log(4), play.log(0))
        self.assertEqual(len(play.log(4)), 6)

    def test_by_the_numbers_alone(self):
        calls = [[0, 2, 0, 1], start_election(0), deliver(0), deliver(0), deliver(0), deliver(0)]
        calls += [propose(0, 77), heartbeat(0), deliver(0), deliver(0)]
        self.assertEqual(numbers(*calls), [0, 1, 1, 3, 1, 4, 2, 1, 1, 4])


class ChangesOfMembers(unittest.TestCase):
    """Point 6."""

    def test_one_by_one(self):
        play = settled(0, 1, 2)
        for member in (3, 4, 1, 2, 0, 0, 3):
            play.do(change_member(0, member))
            for turn in range(8):
                play.do(heartbeat(0))
                play.drain()
        self.assertEqual(masks(play, 7), [7, 15, 31, 29, 25, 24, 25, 17])

    def test_two_leaders_change_from_the_same_members(self):
        play = settled(0, 1, 2, 3)
        self.assertEqual(play.do(change_member(0, 4)), 31)
        # The change of term 1 is at node 0 alone when node 1 begins to lead.
        play.elect(1, [2, 3])
        self.assertEqual(play.do(change_member(1, 4)), -6)
        self.assertEqual(play.do(change_member(1, 0)), -6)
        play.deliver(APPEND, 2, 1)
        self.assertEqual(play.deliver(APPEND_REPLY, 1, 2), COUNTED)
        play.deliver(APPEND, 3, 1)
        self.assertEqual(play.deliver(APPEND_REPLY, 1, 3), COMMITTED)
        self.assertEqual(play.do(change_member(1, 0)), 14)
        self.assertEqual(play.replicate(1, 2), COMMITTED)
        self.assertEqual(masks(play, 15), [15, 14])

    def test_never_none(self):
        play = settled(1, 2)
        self.assertEqual(play.do(change_member(1, 2)), 2)
        self.assertEqual(play.do(change_member(1, 1)), -7)
        self.assertEqual(masks(play, 6), [6, 2])


class SameTermSameLog(unittest.TestCase):
    """Point 7."""

    def test_gap_is_not_filled(self):
        play = settled(0, 1, 2)
        play.forget_messages()
        play.do(propose(0, 1))
        play.node(0).next_indexes[1] = 3
        play.do(propose(0, 2))
        play.do(heartbeat(0))
        play.deliver(APPEND, 1, 0)
        self.assertEqual(play.log(1), [(1, 2, 0)])

    def test_differing_rest_is_replaced(self):
        play = settled(0, 1, 2)
        play.do(propose(0, 1))
        play.do(propose(0, 2))
        play.do(propose(0, 3))
        play.elect(1, [2])
        play.do(propose(1, 9))
        play.forget_messages()
        play.do(heartbeat(1))
        play.deliver(APPEND, 0, 1)
        self.assertEqual(play.log(0), [(1, 2, 0), (2, 2, 0), (2, 0, 9)])
        self.assertEqual(play.log(0), play.log(1))

    def test_entries_behind_another_one_are_refused(self):
        play = settled(0, 1, 2)
        play.do(propose(0, 1))
        play.elect(1, [2])
        play.deliver(APPEND, 2, 1)
        play.deliver(APPEND_REPLY, 1, 2)
        play.do(propose(1, 9))
        play.forget_messages()
        # From position 3 on: the entry ahead of it is another one at node 0.
        play.node(1).next_indexes[0] = 3
        play.do(heartbeat(1))
        play.deliver(APPEND, 0, 1)
        self.assertEqual(play.log(0), [(1, 2, 0), (1, 0, 1)])


class TermsAndVotes(unittest.TestCase):
    """Point 8."""

    def test_message_of_an_earlier_term_lowers_no_term(self):
        play = settled(0, 1, 2)
        play.do(heartbeat(0))
        play.do(start_election(1))
        play.do(start_election(1))
        self.assertEqual(play.node(1).term, 3)
        play.deliver(APPEND, 1, 0)
        self.assertEqual(play.node(1).term, 3)
        play.deliver(VOTE_REQUEST, 2, 1)
        play.deliver(VOTE_REQUEST, 2, 1)
        self.assertEqual(play.node(2).term, 3)
        play.deliver(APPEND, 2, 0)
        self.assertEqual(play.node(2).term, 3)

    def test_vote_request_of_an_earlier_term_lowers_no_term(self):
        play = Play(0, 1, 2)
        play.do(start_election(0))
        play.do(start_election(1))
        play.do(start_election(1))
        self.assertEqual(play.deliver(VOTE_REQUEST, 1, 0), 1)
        self.assertEqual((play.node(1).term, play.node(1).voted), (2, 1))

    def test_vote_does_not_change_in_a_term(self):
        play = Play(0, 1, 2)
        play.do(start_election(0))
        play.do(start_election(1))
        play.copy(VOTE_REQUEST, 2, 0)
        play.copy(VOTE_REQUEST, 2, 1)
        play.copy(VOTE_REQUEST, 2, 0)
        self.assertEqual((play.node(2).term, play.node(2).voted), (1, 0))
        play.deliver(VOTE_REPLY, 0, 2)
        play.deliver(APPEND, 2, 0)
        play.copy(VOTE_REQUEST, 2, 1)
        self.assertEqual((play.node(2).term, play.node(2).voted), (1, 0))

    def test_new_term_frees_the_vote(self):
        play = Play(0, 1, 2)
        play.do(start_election(0))
        play.deliver(VOTE_REQUEST, 2, 0)
        play.do(start_election(1))
        play.do(start_election(1))
        play.do(deliver(play.place(VOTE_REQUEST, 2, 1)))
        play.do(deliver(play.place(VOTE_REQUEST, 2, 1)))
        self.assertEqual((play.node(2).term, play.node(2).voted), (2, 1))


class Walk:
    """A walk over the calls from a seed, with the points watched at every step."""

    def __init__(self, test, seed):
        self.test = test
        self.random = random.Random(seed)
        self.members = sorted(self.random.sample(range(5), self.random.randrange(1, 6)))
        self.play = Play(*self.members)
        self.initial = self.play.node(0).members()

    def step(self):
        before_nodes = [(node.term, node.voted) for node in self.play.state.nodes]
        before_committed = self.play.committed()
        self.play.do(self.some_call())
        self.watch_leaders()
        self.watch_logs()
        self.watch_committed(before_committed)
        self.watch_terms(before_nodes)

    def some_call(self):
        pick = self.random.random()
        node = self.random.randrange(5)
        sent = len(self.play.state.messages)
        leaders = [n.number for n in self.play.state.nodes if n.role == LEADER]
        if pick > 0.98 or not leaders and not sent:
            return start_election(node)
        if sent and (pick < 0.66 or not leaders):
            message = self.random.randrange(sent)
            return deliver_copy(message) if pick < 0.06 else deliver(message)
        leader = self.random.choice(leaders + [node] * (pick > 0.96))
        if pick < 0.78:
            return propose(leader, self.random.randrange(100))
        if pick < 0.86:
            return change_member(leader, self.random.randrange(5))
        return heartbeat(leader)

    def watch_leaders(self):
        terms = [term for term, node in self.play.state.leaders]
        self.test.assertEqual(len(set(terms)), len(terms), "point 1")
        for node in self.play.state.nodes:
            if node.role == LEADER and node.term >= max(terms):
                log = self.play.log(node.number)
                self.test.assertTrue(begins_with(log, self.play.committed()), "point 4")

    def watch_logs(self):
        committed = self.play.committed()
        logs = [self.play.log(number) for number in range(5)]
        for node in self.play.state.nodes:
            self.test.assertLessEqual(node.commit_index, len(logs[node.number]), "point 2")
            self.test.assertTrue(begins_with(committed, logs[node.number][:node.commit_index]), "point 2")
        for one in range(5):
            for other in range(one):
                same = [k for k, (a, b) in enumerate(zip(logs[one], logs[other])) if a[0] == b[0]]
                if same:
                    end = same[-1] + 1
                    self.test.assertEqual(logs[one][:end], logs[other][:end], "point 7")

    def watch_committed(self, before):
        committed = self.play.committed()
        self.test.assertTrue(begins_with(committed, before), "point 3")
        sets = masks(self.play, self.initial)
        self.test.assertTrue(all(sets), "point 6")
        for one, other in zip(sets, sets[1:]):
            self.test.assertTrue(one_apart(one, other), "point 6")

    def watch_terms(self, before):
        for node, (term, voted) in zip(self.play.state.nodes, before):
            self.test.assertGreaterEqual(node.term, term, "point 8")
            if node.term == term and voted is not None:
                self.test.assertEqual(node.voted, voted, "point 8")

    def watch_progress(self, command):
        """Point 5: from here on, some sequence commits this command last."""
        self.play.drain()
        for number in range(5):
            # A candidate may have to learn of greater terms first.
            for attempt in range(4):
                node = self.play.node(number)
                if node.role != LEADER:
                    self.play.do(start_election(number))
                    self.play.drain()
                if node.role == LEADER and self.commit_at(node, command):
                    return
        self.test.fail("point 5")

    def commit_at(self, leader, command):
        position = self.play.do(propose(leader.number, command))
        for turn in range(position + 2):
            self.play.do(heartbeat(leader.number))
            self.play.drain()
            if leader.role != LEADER:
                return False
        committed = self.play.committed()
        return len(committed) == position and committed[-1] == (leader.term, 0, command)


class Walks(unittest.TestCase):
    """All points together, where the course is left to a seed."""

    def test_every_point_at_every_step(self):
        committed = 0
        changed = 0
        led = 0
        for seed in range(WALKS):
            walk = Walk(self, seed)
            for number in range(STEPS):
                walk.step()
            committed += len(walk.play.committed())
            changed += len(masks(walk.play, walk.initial)) - 1
            led += len(walk.play.state.leaders)
            walk.watch_progress(seed % 100)
            walk.watch_logs()
            walk.watch_leaders()
        # Walks in which little happens would watch over nothing.
        self.assertGreater(committed, 20 * WALKS)
        self.assertGreater(changed, 2 * WALKS)
        self.assertGreater(led, 2 * WALKS)

    def test_walk_by_the_numbers(self):
        for seed in range(20):
            walk = Walk(self, seed)
            for number in range(99):
                walk.step()
            self.assertEqual(numbers(*walk.play.calls), walk.play.results)


if __name__ == "__main__":
    unittest.main()
