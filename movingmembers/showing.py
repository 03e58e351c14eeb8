"""The operations that show what is kept, each as a list of numbers."""

from movingmembers.members import NODE_COUNT
from movingmembers.messages import APPEND, VOTE_REPLY, VOTE_REQUEST
from movingmembers.operations import OUT_OF_RANGE

VOTED_FOR_NONE = -1


def show_messages(state):
    """The number of messages, then each message."""
    shown = [len(state.messages)]
    for message in state.messages:
        shown.extend([message.kind, message.receiver, message.sender, message.term])
        shown.extend(message_content(message))
    return shown


def message_content(message):
    """What a message of its kind has behind its term."""
    if message.kind == VOTE_REQUEST:
        return [message.log_length, message.log_term]
    if message.kind == VOTE_REPLY:
        return [int(message.granted)]
    if message.kind == APPEND:
        preceding = [message.preceding_count, message.preceding_term]
        return preceding + counted_entries(message.entries) + [message.commit_index]
    return [int(message.success), message.entry_count]


def counted_entries(entries):
    """The number of entries, then the term, the kind and the value of each."""
    shown = [len(entries)]
    for entry in entries:
        shown.extend([entry.term, entry.kind, entry.value])
    return shown


def show_node(state, number):
    """All values of a node, also of a stopped one."""
    if number >= NODE_COUNT:
        return [OUT_OF_RANGE]
    node = state.nodes[number]
    voted = VOTED_FOR_NONE if node.voted is None else node.voted
    shown = [int(node.running), node.term, voted, node.role, node.commit_index, node.members()]
    shown.extend(counted_entries(node.log))
    shown.append(len(node.votes))
    shown.extend(node.votes)
    # Only a leader has indexes; one number counts both lists of them.
    shown.append(len(node.next_indexes))
    shown.extend(node.next_indexes)
    shown.extend(node.match_indexes)
    return shown


def show_committed(state):
    """The number of the committed entries, then each entry."""
    return counted_entries(state.committed)


def show_leaders(state):
    """How many times a node has become the leader, then the term and the node of each time."""
    shown = [len(state.leaders)]
    for term, number in state.leaders:
        shown.extend([term, number])
    return shown
