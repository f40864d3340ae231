"""What is due at each point of reading: a STATE is a number that stands for a line of symbols.

END is the state behind a whole message, REFUSED that behind a bit that is refused. Any other
one is a symbol with the state behind it, so states that read the same bits have one number
(where no line is folded).
"""

from roomleft.grammars import Grammar, sooner

END = 0
REFUSED = -1
MOST_PAIRS = 50000


class States:
    """The states of a grammar, as far as they were met."""

    def __init__(self, grammar):
        self.grammar = grammar
        self.firsts = [None]
        self.nexts = [END]
        self.lacks = [None]
        self.met = {}
        self.moves = {}

    def start(self, line):
        return self.above(line, END)

    def above(self, line, state):
        """The state of a line with what a state stands for behind it."""
        for symbol in line[::-1]:
            if (symbol, state) not in self.met:
                self.met[(symbol, state)] = self.new_state(symbol, state)
            state = self.met[(symbol, state)]
        return state

    def new_state(self, symbol, state):
        self.firsts.append(symbol)
        self.nexts.append(state)
        later = self.lacks[state]
        if later is not None:
            later += self.grammar.least[symbol]
        self.lacks.append(sooner(self.grammar.refusals[symbol], later))
        return len(self.firsts) - 1

    def move(self, state, bit):
        """The state behind one more bit, 0 or 1; neither END nor REFUSED is asked for."""
        if (state, bit) not in self.moves:
            side = self.grammar.rules[self.firsts[state]][bit]
            self.moves[(state, bit)] = REFUSED if side is None else self.above(side, self.nexts[state])
        return self.moves[(state, bit)]

    def refusal(self, state):
        """The least number of bits of which this state refuses the last one and no other; None if there is none."""
        return self.lacks[state]

    def go_on_alike(self, one, other):
        """Whether two states read the same bits.

        Where lines are folded, unlike states can do so, too: what must be the same behind them
        is then gone through, as long as no more than MOST_PAIRS pairs of states come up.
        """
        if not self.grammar.has_folded:
            return one == other
        leaders = {}
        pairs = [(one, other)]
        while pairs != [] and len(leaders) <= MOST_PAIRS:
            one, other = [leader_of(leaders, state) for state in pairs.pop()]
            if one != other:
                if min(one, other) <= END:
                    return False
                leaders[one] = other
                pairs.extend([(self.move(one, bit), self.move(other, bit)) for bit in (0, 1)])
        return pairs == []


def leader_of(leaders, state):
    """The state that stands for all those that must be the same as this one."""
    while state in leaders:
        state = leaders[state]
    return state


def read_states(edition):
    """The states of all messages that an edition reads."""
    return kept_states(edition.plan, False)


def own_states(edition):
    """The states of an edition's own messages."""
    return kept_states(edition.plan, True)


def kept_states(plan, is_own):
    if is_own not in plan.states:
        plan.states[is_own] = States(Grammar(plan.named, plan.count, is_own))
    return plan.states[is_own]


def start_of(states, name):
    """The state ahead of a message of a named kind."""
    return states.start(states.grammar.line_of_name(name))


def many_standings(states, start, most):
    """The number of the standings of a kind; most + 1 if there are more than most."""
    found = {start: True}
    waiting = [start]
    while waiting != [] and len(found) <= most:
        state = waiting.pop()
        for bit in (0, 1):
            further = states.move(state, bit)
            if further != END and further != REFUSED and further not in found:
                found[further] = True
                waiting.append(further)
    return min(len(found), most + 1)
