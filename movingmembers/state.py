"""All that stands between two operations, once there are nodes."""

from movingmembers.members import NODE_COUNT
from movingmembers.node import Node

MESSAGE_ROOM = 100


class State:
    """The nodes as at first, without messages, committed entries and leaders."""

    def __init__(self, initial_members):
        self.nodes = [Node(number, initial_members) for number in range(NODE_COUNT)]
        self.messages = []
        self.committed = []
        self.leaders = []

    def send(self, message):
        """Send a message; without room it is lost."""
        if len(self.messages) < MESSAGE_ROOM:
            self.messages.append(message)

    def commit(self, node, position):
        """Set a node's commit index, and lengthen the committed entries if it goes beyond them."""
        node.commit_index = position
        if position > len(self.committed):
            self.committed = node.log[:position]

    def note_leader(self, node):
        """Remember that a node has become the leader of its term."""
        self.leaders.append((node.term, node.number))
