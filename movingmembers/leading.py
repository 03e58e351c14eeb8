"""What nodes do of themselves: stand for election, become the leader, and lead."""

from movingmembers.members import NODE_COUNT
from movingmembers.messages import Append, VoteRequest
from movingmembers.node import CANDIDATE, EMPTY, LEADER, Entry


def stand_for_election(state, node):
    """A node that does not lead, and so has no next and match indexes, begins an election."""
    node.term += 1
    node.voted = node.number
    node.role = CANDIDATE
    node.votes = [node.number]
    if node.is_majority(node.votes):
        become_leader(state, node)
        return
    for member in node.other_members():
        state.send(VoteRequest(member, node.number, node.term, len(node.log), node.last_term()))


def become_leader(state, node):
    """A candidate becomes the leader of its term."""
    state.note_leader(node)
    node.role = LEADER
    node.votes = []
    # Set ahead of the empty entry, so that the first heartbeats carry it.
    node.next_indexes = [len(node.log) + 1] * NODE_COUNT
    node.match_indexes = [0] * NODE_COUNT
    add_entry(state, node, EMPTY, 0)
    send_heartbeats(state, node)


def add_entry(state, node, kind, value):
    """A leader adds an entry of its term to its log and advances its commit index."""
    node.log.append(Entry(node.term, kind, value))
    advance_commit_index(state, node)


def advance_commit_index(state, node):
    """A leader commits as far as a majority certainly has its log."""
    position = committable_position(node)
    if position > node.commit_index:
        state.commit(node, position)


def committable_position(leader):
    """The greatest position that the leader may commit, its commit index if there is none above."""
    for position in range(len(leader.log), leader.commit_index, -1):
        # Only an entry of the leader's own term is safe to count: an earlier one that
        # a majority has can still be replaced by the leader of a later term.
        if leader.term_at(position) == leader.term and leader.is_majority(holders(leader, position)):
            return position
    return leader.commit_index


def holders(leader, position):
    """The leader, and the nodes that certainly have its log up to this position."""
    matching = [number for number in range(NODE_COUNT) if leader.match_indexes[number] >= position]
    return [leader.number] + matching


def send_heartbeats(state, node):
    """A leader sends each other member what that may lack. Returns how many messages these are."""
    receivers = node.other_members()
    for member in receivers:
        count = node.next_indexes[member] - 1
        entries = node.log[count:]
        state.send(Append(member, node.number, node.term, count, node.term_at(count), entries, node.commit_index))
    return len(receivers)
