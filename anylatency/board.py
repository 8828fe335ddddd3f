"""A Board: ORDERs of one BLOCK by NAMEs, what is known of LATENCIES, frames, and deeds that can be taken back."""

from anylatency.issue import end_of, latencies_of
from anylatency.never import alike, compare, never_later
from anylatency.plain import told_order, tupled
from anylatency.states import added, attempted, forgotten, framed, learned, left_out, lifted, order_in, ordered

EFFECTS = {"alike": "alike", "better": "more", "worse": "less", "apart": "either"}


def board_of(state):
    """Give a Board in this state, with no deed to take back."""
    made = Board()
    made._state = state
    return made


class Board:
    """A BLOCK, ORDERs of it by NAMEs, what is known of LATENCIES, and frames."""

    def __init__(self, block=((), ())):
        # States are tuples, so a deed that is refused half-way has changed nothing.
        self._state = (tupled(block), (), (), ())
        self._past = []

    @property
    def block(self):
        """The BLOCK."""
        return self._state[0]

    @property
    def known(self):
        """The pairs (NAME, number) of the slow ones whose latency is known."""
        return self._state[1]

    @property
    def names(self):
        """The set of the NAMEs of the ORDERs."""
        return tuple([name for name, _ in self._state[2]])

    @property
    def frames(self):
        """The triples (name, low, high) of all frames."""
        return self._state[3]

    def __len__(self):
        return len(self._state[2])

    def __contains__(self, x):
        return x in [name for name, _ in self._state[2]]

    def __getitem__(self, at):
        return order_in(self._state, at)

    def __iter__(self):
        raise TypeError("a Board can not be gone through")

    def __eq__(self, other):
        return isinstance(other, Board) and self._state == other._state

    def end(self, name):
        """Give the END of this ORDER if each slow one takes what is known, or 1."""
        block = self._state[0]
        return end_of(block, order_in(self._state, name), latencies_of(block, self._state[1]))

    def first(self):
        """Give the set of the NAMEs of the ORDERs whose END is the least."""
        ends = {name: self.end(name) for name, _ in self._state[2]}
        least = min([ends[name] for name in ends], default=None)
        return tuple([name for name in ends if ends[name] == least])

    def above(self, name):
        """Give the set of the NAMEs of the other ORDERs that are above this one."""
        block, _, orders, _ = self._state
        mine = order_in(self._state, name)
        return tuple([one for one, order in orders if one != name and never_later(block, order, mine)])

    def doubled(self):
        """Give the set of the NAMEs of the ORDERs that are alike to one with a lesser NAME."""
        block, _, orders, _ = self._state
        return tuple([name for at, (name, order) in enumerate(orders)
                      if any([alike(block, order, lesser) for _, lesser in orders[:at]])])

    def effect(self, name, order):
        """Tell by a word how this order is beside the ORDER of this NAME: alike, more, less or either."""
        mine = order_in(self._state, name)
        block = self._state[0]
        return EFFECTS[compare(block, told_order(block, order), mine)]

    def learn(self, name, number):
        """Let the latency of this slow one be known to be this number."""
        self._go_on(learned(self._state, name, number))

    def _go_on(self, state):
        """Take this state, and keep that ahead of it to be taken back."""
        self._past.append(self._state)
        self._state = state

    def forget(self, name):
        """Let the latency of this slow one be known no more."""
        self._go_on(forgotten(self._state, name))

    def __setitem__(self, at, worth):
        self._go_on(ordered(self._state, at, worth))

    def leave(self, name):
        """Take the ORDER of this NAME away, with its frame."""
        self._go_on(left_out(self._state, name))

    def __iadd__(self, other):
        name, (one, another) = other
        self._go_on(added(self._state, name, one, another))
        return self

    def frame(self, name, low, high):
        """Give the ORDER of this NAME this frame."""
        self._go_on(framed(self._state, name, low, high))

    def lift(self, name):
        """Take away the frame of the ORDER of this NAME."""
        self._go_on(lifted(self._state, name))

    def attempt(self, deeds):
        """Do all of these deeds, or none of them."""
        self._go_on(attempted(self._state, tupled(deeds)))

    def undo(self):
        """Take back the last deed; tell whether there was one."""
        if not self._past:
            return False
        self._state = self._past.pop()
        return True

    def twin(self):
        """Give another Board in the same state, with the same deeds to take back."""
        made = board_of(self._state)
        made._past = list(self._past)
        return made
