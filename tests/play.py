"""What the tests share: calls as numbers, and a session that can be looked into."""

import unittest

from movingmembers.cluster import Session, answers
from movingmembers.messages import APPEND, APPEND_REPLY, VOTE_REPLY, VOTE_REQUEST

# The results of deliver.
IGNORED, REPLIED, COUNTED, BECAME_LEADER, COMMITTED, ADOPTED, NO_SUCCESS = range(7)

FOLLOWER, CANDIDATE, LEADER = range(3)


def begin(*members):
    return [0, len(members), *members]


def start_election(node):
    return [1, node]


def propose(node, command):
    return [2, node, command]


def change_member(node, member):
    return [3, node, member]


def heartbeat(node):
    return [4, node]


def deliver(message):
    return [5, message]


def deliver_copy(message):
    return [6, message]


def drop(message):
    return [7, message]


def stop(node):
    return [8, node]


def restart(node):
    return [9, node]


def messages():
    return [10]


def node(number):
    return [11, number]


def committed():
    return [12]


def leaders():
    return [13]


def one_list(calls):
    return [number for call in calls for number in call]


def answered(*calls):
    """What each call answers, taken apart by the counts."""
    given = answers(one_list(calls))
    parts = []
    place = 0
    while place < len(given):
        end = place + 1 + given[place]
        if not place + 1 < end <= len(given):
            raise AssertionError("a wrong count of numbers")
        parts.append(given[place + 1:end])
        place = end
    return parts


def numbers(*calls):
    """The one number that each call answers."""
    return [number for (number,) in answered(*calls)]


def message_rows(shown):
    """What the call messages answers, one list for each message."""
    lengths = {VOTE_REQUEST: 6, VOTE_REPLY: 5, APPEND_REPLY: 6}
    rows = []
    place = 1
    while place < len(shown):
        kind = shown[place]
        end = place + (8 + 3 * shown[place + 6] if kind == APPEND else lengths[kind])
        rows.append(shown[place:end])
        place = end
    if (len(rows), place) != (shown[0], len(shown)):
        raise AssertionError("messages has a wrong number of messages")
    return rows


def in_groups(shown, size):
    """Rows of this size behind their number, as committed and leaders answer them."""
    rows = [tuple(shown[place:place + size]) for place in range(1, len(shown), size)]
    if (len(rows), len(rows) * size) != (shown[0], len(shown) - 1):
        raise AssertionError("a wrong number of rows")
    return rows


class Play:
    """A session begun with these members, driven call by call."""

    def __init__(self, *members):
        self.session = Session()
        self.calls = []
        self.results = []
        self.do(begin(*members))

    @property
    def state(self):
        return self.session.state

    def node(self, number):
        return self.state.nodes[number]

    def do(self, call):
        """Carry out a call that answers one number."""
        (number,) = self.session.perform(call)
        self.calls.append(call)
        self.results.append(number)
        return number

    def place(self, kind, receiver, sender):
        """The number of the earliest such message."""
        for number, message in enumerate(self.state.messages):
            if (message.kind, message.receiver, message.sender) == (kind, receiver, sender):
                return number
        raise AssertionError(f"no message of kind {kind} to {receiver} from {sender}")

    def deliver(self, kind, receiver, sender):
        return self.do(deliver(self.place(kind, receiver, sender)))

    def copy(self, kind, receiver, sender):
        return self.do(deliver_copy(self.place(kind, receiver, sender)))

    def drop(self, kind, receiver, sender):
        return self.do(drop(self.place(kind, receiver, sender)))

    def drain(self):
        """Deliver until there is no message."""
        self.until_none(deliver(0))

    def drop_all(self):
        self.until_none(drop(0))

    def until_none(self, call):
        for turn in range(2000):
            if not self.state.messages:
                return
            self.do(call)
        raise AssertionError("the messages do not come to an end")

    def stop_and_restart(self, *stopping):
        for number in stopping:
            self.do(stop(number))
        for number in stopping:
            self.do(restart(number))

    def elect(self, candidate, voters):
        """An election in which just these nodes receive the request and reply."""
        self.do(start_election(candidate))
        for voter in voters:
            self.deliver(VOTE_REQUEST, voter, candidate)
            self.deliver(VOTE_REPLY, candidate, voter)

    def replicate(self, leader, follower):
        """One heartbeat to this follower alone, and its reply; the result of the reply."""
        self.drop_all()
        self.do(heartbeat(leader))
        self.deliver(APPEND, follower, leader)
        return self.deliver(APPEND_REPLY, leader, follower)

    def row(self, number):
        return self.session.perform(node(number))

    def message_rows(self):
        return message_rows(self.session.perform(messages()))

    def log(self, number):
        return [(entry.term, entry.kind, entry.value) for entry in self.node(number).log]

    def committed(self):
        return in_groups(self.session.perform(committed()), 3)

    def leaders(self):
        return in_groups(self.session.perform(leaders()), 2)

    def snapshot(self):
        """All that the session shows."""
        return ([self.row(number) for number in range(5)], self.message_rows(), self.committed(), self.leaders())


def settled(*members):
    """A play whose first member leads in term 1, with all messages delivered."""
    play = Play(*members)
    play.do(start_election(members[0]))
    play.drain()
    return play


class PlayTest(unittest.TestCase):
    def refused(self, play, call, code):
        """The call answers this error and changes nothing."""
        before = play.snapshot()
        self.assertEqual(play.do(call), code)
        self.assertEqual(play.snapshot(), before)
