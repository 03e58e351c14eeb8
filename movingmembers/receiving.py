"""What a node does with a message that it receives."""

from movingmembers.leading import advance_commit_index, become_leader
from movingmembers.messages import APPEND, VOTE_REPLY, VOTE_REQUEST, AppendReply, VoteReply
from movingmembers.node import CANDIDATE, LEADER

IGNORED = 0
REPLIED = 1
COUNTED = 2
BECAME_LEADER = 3
COMMITTED = 4
ADOPTED = 5
NO_SUCCESS = 6


def receive(state, message):
    """The receiver of a message receives it. Returns the result."""
    node = state.nodes[message.receiver]
    if not node.running:
        return IGNORED
    if message.kind == VOTE_REQUEST:
        return receive_vote_request(state, node, message)
    if message.kind == VOTE_REPLY:
        return receive_vote_reply(state, node, message)
    if message.kind == APPEND:
        return receive_append(state, node, message)
    return receive_append_reply(state, node, message)


def receive_vote_request(state, node, request):
    """Grant the vote or not, and say so."""
    node.adopt(request.term)
    granted = may_vote(node, request) and not is_ahead(node, request)
    if granted:
        node.voted = request.sender
    state.send(VoteReply(request.sender, node.number, node.term, granted))
    return REPLIED


def may_vote(node, request):
    """Whether the node's vote in the term of the request is free or is the sender's already."""
    return node.term == request.term and (node.voted is None or node.voted == request.sender)


def is_ahead(node, request):
    """Whether the node's log goes further than the sender's."""
    if node.last_term() == request.log_term:
        return len(node.log) > request.log_length
    return node.last_term() > request.log_term


def receive_vote_reply(state, node, reply):
    """Count a vote."""
    if node.term < reply.term:
        node.adopt(reply.term)
        return ADOPTED
    if node.role != CANDIDATE or reply.term != node.term or not reply.granted:
        return IGNORED
    if reply.sender in node.votes:
        return IGNORED
    node.votes.append(reply.sender)
    if not node.is_majority(node.votes):
        return COUNTED
    become_leader(state, node)
    return BECAME_LEADER


def receive_append(state, node, message):
    """Take over a leader's entries, if what precedes them is the leader's too, and say so."""
    if node.term > message.term:
        state.send(AppendReply(message.sender, node.number, node.term, False, 0))
        return REPLIED
    node.adopt(message.term)
    node.become_follower()
    if not has_preceding(node, message):
        state.send(AppendReply(message.sender, node.number, node.term, False, 0))
        return REPLIED
    node.log = merged_log(node.log, message.preceding_count, message.entries)
    entry_count = message.preceding_count + len(message.entries)
    # What the log has beyond these entries may not be the leader's.
    position = min(entry_count, message.commit_index)
    if position > node.commit_index:
        state.commit(node, position)
    state.send(AppendReply(message.sender, node.number, node.term, True, entry_count))
    return REPLIED


def has_preceding(node, message):
    """Whether the node's log has the entries that precede those of the message."""
    count = message.preceding_count
    return len(node.log) >= count and node.term_at(count) == message.preceding_term


def merged_log(log, count, entries):
    """The log with these entries behind its first count ones."""
    for offset, entry in enumerate(entries):
        place = count + offset
        if place == len(log) or log[place].term != entry.term:
            return log[:place] + entries[offset:]
    # An append that arrives late must not cut off what came after it.
    return log


def receive_append_reply(state, node, reply):
    """Learn how far another node's log is the leader's."""
    if node.term < reply.term:
        node.adopt(reply.term)
        return ADOPTED
    if node.role != LEADER or reply.term != node.term:
        return IGNORED
    sender = reply.sender
    if not reply.success:
        node.next_indexes[sender] = max(node.next_indexes[sender] - 1, 1)
        return NO_SUCCESS
    node.match_indexes[sender] = max(node.match_indexes[sender], reply.entry_count)
    node.next_indexes[sender] = node.match_indexes[sender] + 1
    commit_index = node.commit_index
    advance_commit_index(state, node)
    if node.commit_index > commit_index:
        return COMMITTED
    return COUNTED
