"""The operations that change what is kept: each checks its errors in order, then does its work."""

from movingmembers.leading import add_entry, send_heartbeats, stand_for_election
from movingmembers.members import NODE_BITS, NODE_COUNT
from movingmembers.node import COMMAND, CONFIGURATION, LEADER
from movingmembers.receiving import receive

OUT_OF_RANGE = -1
WRONG_STATE = -2
STOPPED = -3
NO_CHANGE_NOW = -6
NO_MEMBER_LEFT = -7

GREATEST_COMMAND = 99


def start_election(state, number):
    """A node starts an election. Returns its new term."""
    if number >= NODE_COUNT:
        return OUT_OF_RANGE
    node = state.nodes[number]
    if not node.running:
        return STOPPED
    if node.role == LEADER:
        return WRONG_STATE
    stand_for_election(state, node)
    return node.term


def propose(state, number, command):
    """A leader adds a command. Returns the position of its entry."""
    if number >= NODE_COUNT or command > GREATEST_COMMAND:
        return OUT_OF_RANGE
    node = state.nodes[number]
    refused = leader_refusal(node)
    if refused != 0:
        return refused
    add_entry(state, node, COMMAND, command)
    return len(node.log)


def change_member(state, number, member):
    """A leader adds or removes a member. Returns the mask of the new members."""
    if number >= NODE_COUNT or member >= NODE_COUNT:
        return OUT_OF_RANGE
    node = state.nodes[number]
    refused = leader_refusal(node)
    if refused != 0:
        return refused
    if not may_change_members(node):
        return NO_CHANGE_NOW
    members = node.members() ^ NODE_BITS[member]
    if members == 0:
        return NO_MEMBER_LEFT
    add_entry(state, node, CONFIGURATION, members)
    return members


def heartbeat(state, number):
    """A leader sends heartbeats. Returns how many, those that are lost included."""
    if number >= NODE_COUNT:
        return OUT_OF_RANGE
    node = state.nodes[number]
    refused = leader_refusal(node)
    if refused != 0:
        return refused
    return send_heartbeats(state, node)


def deliver(state, number):
    """Remove a message, then let its receiver receive it. Returns the result."""
    if number >= len(state.messages):
        return OUT_OF_RANGE
    # Removed first, so that a reply has room where the message stood.
    return receive(state, state.messages.pop(number))


def deliver_copy(state, number):
    """Let the receiver of a message receive it, and keep the message. Returns the result."""
    if number >= len(state.messages):
        return OUT_OF_RANGE
    return receive(state, state.messages[number])


def drop(state, number):
    """Remove a message. Returns 0."""
    if number >= len(state.messages):
        return OUT_OF_RANGE
    state.messages.pop(number)
    return 0


def stop(state, number):
    """Stop a node; it keeps all of its values. Returns 0."""
    if number >= NODE_COUNT:
        return OUT_OF_RANGE
    node = state.nodes[number]
    if not node.running:
        return WRONG_STATE
    node.running = False
    return 0


def restart(state, number):
    """Let a stopped node run again. Returns 0."""
    if number >= NODE_COUNT:
        return OUT_OF_RANGE
    node = state.nodes[number]
    if node.running:
        return WRONG_STATE
    node.start_up()
    return 0


def leader_refusal(node):
    """The error of a node that is to act as a running leader, 0 if it is one."""
    if not node.running:
        return STOPPED
    if node.role != LEADER:
        return WRONG_STATE
    return 0


def may_change_members(leader):
    """Whether the last change is committed, and so is an entry of the leader's own term."""
    if leader.configuration_position() > leader.commit_index:
        return False
    # The term at position 0 is no leader's, so this holds for no commit index of 0 either.
    return leader.term_at(leader.commit_index) == leader.term
