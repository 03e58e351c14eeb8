"""The four kinds of messages. A message is never changed: it can be received more than once."""

VOTE_REQUEST = 0
VOTE_REPLY = 1
APPEND = 2
APPEND_REPLY = 3


class Message:
    """What every message has."""

    def __init__(self, kind, receiver, sender, term):
        self.kind = kind
        self.receiver = receiver
        self.sender = sender
        self.term = term


class VoteRequest(Message):
    """A candidate asks for a vote; it tells how far its log goes."""

    def __init__(self, receiver, sender, term, log_length, log_term):
        Message.__init__(self, VOTE_REQUEST, receiver, sender, term)
        self.log_length = log_length
        self.log_term = log_term


class VoteReply(Message):
    """The answer to a vote request."""

    def __init__(self, receiver, sender, term, granted):
        Message.__init__(self, VOTE_REPLY, receiver, sender, term)
        self.granted = granted


class Append(Message):
    """A leader's entries, with the number of those that precede them and the term of the last of these."""

    def __init__(self, receiver, sender, term, preceding_count, preceding_term, entries, commit_index):
        Message.__init__(self, APPEND, receiver, sender, term)
        self.preceding_count = preceding_count
        self.preceding_term = preceding_term
        self.entries = entries
        self.commit_index = commit_index


class AppendReply(Message):
    """The answer to an append; with success, entry_count entries at the beginning are the leader's."""

    def __init__(self, receiver, sender, term, success, entry_count):
        Message.__init__(self, APPEND_REPLY, receiver, sender, term)
        self.success = success
        self.entry_count = entry_count
