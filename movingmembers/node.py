"""One node: its persistent and volatile values, and what follows from these alone."""

from movingmembers.members import nodes_of

FOLLOWER = 0
CANDIDATE = 1
LEADER = 2

COMMAND = 0
CONFIGURATION = 1
EMPTY = 2


class Entry:
    """A log entry. Logs and messages share entries, so an entry is never changed."""

    def __init__(self, term, kind, value):
        self.term = term
        self.kind = kind
        self.value = value


class Node:
    """A node as at first, with the mask of the initial members."""

    def __init__(self, number, initial_members):
        self.number = number
        self.initial_members = initial_members
        self.term = 0
        self.voted = None
        self.log = []
        self.start_up()

    def start_up(self):
        """Run, with the persistent values as they are and the volatile ones as at first."""
        self.running = True
        self.commit_index = 0
        self.become_follower()

    def term_at(self, position):
        """The term of the entry at this position, 0 at position 0."""
        if position == 0:
            return 0
        return self.log[position - 1].term

    def last_term(self):
        """The term of the last entry, 0 without one."""
        return self.term_at(len(self.log))

    def configuration_position(self):
        """The position of the last configuration in the log, 0 without one."""
        for position in range(len(self.log), 0, -1):
            if self.log[position - 1].kind == CONFIGURATION:
                return position
        return 0

    def members(self):
        """The mask of the members according to this node."""
        position = self.configuration_position()
        if position == 0:
            return self.initial_members
        return self.log[position - 1].value

    def other_members(self):
        """The members according to this node, without itself, in ascending order."""
        return [member for member in nodes_of(self.members()) if member != self.number]

    def is_majority(self, nodes):
        """Whether more than half of the members according to this node are among these nodes."""
        members = nodes_of(self.members())
        present = [member for member in members if member in nodes]
        return 2 * len(present) > len(members)

    def become_follower(self):
        """Become a follower and give up what only a candidate or a leader has."""
        self.role = FOLLOWER
        self.votes = []
        self.next_indexes = []
        self.match_indexes = []

    def adopt(self, term):
        """Adopt a term, if it is greater than the node's own."""
        if term > self.term:
            self.term = term
            self.voted = None
            self.become_follower()
