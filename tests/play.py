"""What the tests share: calls as numbers, and a session that can be looked into."""

from movingmembers.cluster import Session, answers
from movingmembers.messages import APPEND, APPEND_REPLY, VOTE_REPLY, VOTE_REQUEST

# The results of deliver.
IGNORED, REPLIED, COUNTED, BECAME_LEADER, COMMITTED, ADOPTED, NO_SUCCESS = range(7)

FOLLOWER, CANDIDATE, LEADER = range(3)


def begin(*members):
    return [0, len(members), *members]


def start_election(node):
    return [1, node]


def propose(node, command):
    return [2, node, command]


def change_member(node, member):
    return [3, node, member]


def heartbeat(node):
    return [4, node]


def deliver(message):
    return [5, message]


def deliver_copy(message):
    return [6, message]


def one_list(calls):
    return [number for call in calls for number in call]


def answered(*calls):
    """What each call answers, taken apart by the counts."""
    given = answers(one_list(calls))
    parts = []
    place = 0
    while place < len(given):
        end = place + 1 + given[place]
        parts.append(given[place + 1:end])
        place = end
    return parts


def numbers(*calls):
    """The one number that each call answers."""
    return [number for (number,) in answered(*calls)]


def entry_rows(entries):
    """Entries as the document writes them: their number, and for each term, kind and value."""
    return [len(entries)] + [number for e in entries for number in (e.term, e.kind, e.value)]


def log_rows(entries):
    return [(e.term, e.kind, e.value) for e in entries]


def message_row(message):
    """A message in the form of the document's operation 10."""
    row = [message.kind, message.receiver, message.sender, message.term]
    if message.kind == VOTE_REQUEST:
        return row + [message.log_length, message.log_term]
    if message.kind == VOTE_REPLY:
        return row + [int(message.granted)]
    if message.kind == APPEND:
        before = [message.preceding_count, message.preceding_term]
        return row + before + entry_rows(message.entries) + [message.commit_index]
    return row + [int(message.success), message.entry_count]


def node_row(node):
    """A node in the form of the document's operation 11."""
    voted = -1 if node.voted is None else node.voted
    row = [int(node.running), node.term, voted, node.role, node.commit_index, node.members()]
    row += entry_rows(node.log) + [len(node.votes)] + node.votes + [len(node.next_indexes)]
    return row + node.next_indexes + node.match_indexes


class Play:
    """A session begun with these members, driven call by call."""

    def __init__(self, *members):
        self.session = Session()
        self.calls = []
        self.results = []
        self.do(begin(*members))

    @property
    def state(self):
        return self.session.state

    def node(self, number):
        return self.state.nodes[number]

    def do(self, call):
        self.calls.append(call)
        self.results.append(self.session.perform(call))
        return self.results[-1]

    def place(self, kind, receiver, sender):
        """The number of the earliest such message."""
        for number, message in enumerate(self.state.messages):
            if (message.kind, message.receiver, message.sender) == (kind, receiver, sender):
                return number
        raise AssertionError(f"no message of kind {kind} to {receiver} from {sender}")

    def deliver(self, kind, receiver, sender):
        return self.do(deliver(self.place(kind, receiver, sender)))

    def copy(self, kind, receiver, sender):
        return self.do(deliver_copy(self.place(kind, receiver, sender)))

    def drain(self):
        """Deliver until there is no message."""
        while self.state.messages:
            self.do(deliver(0))

    def forget_messages(self):
        """As if all messages were dropped."""
        while self.state.messages:
            self.state.messages.pop()

    def elect(self, node, voters):
        """An election in which just these nodes receive the request and reply."""
        self.do(start_election(node))
        for voter in voters:
            self.deliver(VOTE_REQUEST, voter, node)
            self.deliver(VOTE_REPLY, node, voter)

    def replicate(self, leader, follower):
        """One heartbeat to this follower alone, and its reply; the result of the reply."""
        self.forget_messages()
        self.do(heartbeat(leader))
        self.deliver(APPEND, follower, leader)
        return self.deliver(APPEND_REPLY, leader, follower)

    def message_rows(self):
        return [message_row(message) for message in self.state.messages]

    def log(self, node):
        return log_rows(self.node(node).log)

    def committed(self):
        return log_rows(self.state.committed)

    def snapshot(self):
        """All that the session holds."""
        return (
            [node_row(node) for node in self.state.nodes],
            self.message_rows(),
            self.committed(),
            list(self.state.leaders),
        )


def settled(*members):
    """A play whose first member leads in term 1, with all messages delivered."""
    play = Play(*members)
    play.do(start_election(members[0]))
    play.drain()
    return play
