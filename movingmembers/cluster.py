"""The entrance: a list of calls goes in, what they answer comes out."""

from movingmembers.members import NODE_COUNT, mask_of
from movingmembers.operations import OUT_OF_RANGE, change_member, heartbeat, propose, start_election
from movingmembers.operations import deliver, deliver_copy, drop, restart, stop
from movingmembers.showing import show_committed, show_leaders, show_messages, show_node
from movingmembers.state import State

NO_NODES = -9

BEGIN = 0
START_ELECTION = 1
PROPOSE = 2
CHANGE_MEMBER = 3
HEARTBEAT = 4
DELIVER = 5
DELIVER_COPY = 6
DROP = 7
STOP = 8
RESTART = 9
MESSAGES = 10
NODE = 11
COMMITTED = 12
LEADERS = 13

# How many arguments stand behind each operation's number; begin tells the length of its list itself.
ARGUMENT_COUNTS = (0, 1, 2, 2, 1, 1, 1, 1, 1, 1, 0, 1, 0, 0)


class Session:
    """Carries out calls one behind another; there are no nodes at its start."""

    def __init__(self):
        self.state = None

    def perform(self, call):
        """Carry out one call, given as its numbers. Returns the numbers that it answers."""
        if call[0] == BEGIN:
            return [self.begin(call[2:])]
        if self.state is None:
            return [NO_NODES]
        # From here on the operations change nothing and may answer many numbers.
        if call[0] >= MESSAGES:
            return show(self.state, call)
        return [act(self.state, call)]

    def begin(self, members):
        """Begin anew with these initial members."""
        if not members or len(set(members)) < len(members) or max(members) >= NODE_COUNT:
            return OUT_OF_RANGE
        self.state = State(mask_of(members))
        return 0


def act(state, call):
    """Carry out a call, other than begin, that answers one number."""
    operation = call[0]
    if operation == START_ELECTION:
        return start_election(state, call[1])
    if operation == PROPOSE:
        return propose(state, call[1], call[2])
    if operation == CHANGE_MEMBER:
        return change_member(state, call[1], call[2])
    if operation == HEARTBEAT:
        return heartbeat(state, call[1])
    if operation == DELIVER:
        return deliver(state, call[1])
    if operation == DELIVER_COPY:
        return deliver_copy(state, call[1])
    if operation == DROP:
        return drop(state, call[1])
    if operation == STOP:
        return stop(state, call[1])
    return restart(state, call[1])


def show(state, call):
    """Carry out a call that shows what is kept."""
    operation = call[0]
    if operation == MESSAGES:
        return show_messages(state)
    if operation == NODE:
        return show_node(state, call[1])
    if operation == COMMITTED:
        return show_committed(state)
    return show_leaders(state)


def call_end(calls, start):
    """The place behind the call that starts at this place."""
    operation = calls[start]
    if operation == BEGIN:
        return start + 2 + calls[start + 1]
    return start + 1 + ARGUMENT_COUNTS[operation]


def answers(calls):
    """What each call answers, with how many numbers it is ahead of them."""
    session = Session()
    given = []
    start = 0
    while start < len(calls):
        end = call_end(calls, start)
        answered = session.perform(calls[start:end])
        given.append(len(answered))
        given.extend(answered)
        start = end
    return given
