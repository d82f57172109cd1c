"""The machine: a pile and the hands that share it, done step by step."""

from stalestack.checks import check_all
from stalestack.errors import NoHand
from stalestack.steps import COUNT, FREE, HANDS, MARK, NEXTS, NUMBER, TOP, VALUES
from stalestack.steps import decides, first_state, step, was_stale


class Machine:
    """A pile shared by hands, each of which does its program by a rule."""

    def __init__(self, values, programs, rule):
        check_all(values, programs, rule)
        self.programs = tuple([tuple(deeds) for deeds in programs])
        self.rule = rule
        self.state = first_state(values, len(programs))
        self.answered = [[] for _ in programs]
        self.decided = []
        self.had_stale = False

    def check_hand(self, hand):
        """Refuse with NoHand a hand that is not there."""
        if not 0 <= hand < len(self.programs):
            raise NoHand(f"no hand {hand}")

    def turn(self, hand):
        """Do the hand's step and tell what it does."""
        self.check_hand(hand)
        number = self.state[HANDS][hand][NUMBER]
        told, state = step(self.state, self.programs, self.rule, hand)
        self.state = state
        if decides(told):
            self.decided.append((hand, number))
        if told[0] == "ends":
            self.answered[hand].append(told[1])
        if was_stale(told, state, hand):
            self.had_stale = True
        return told

    def answers(self, hand):
        """What the hand's deeds have answered so far."""
        self.check_hand(hand)
        return list(self.answered[hand])

    def marked(self, hand):
        """The cell that the hand marks, 0 for none."""
        self.check_hand(hand)
        return self.state[HANDS][hand][MARK]

    def order(self):
        """The deeds (hand, number) that are decided, in the order in which they were."""
        return list(self.decided)

    def top_now(self):
        """The top and the count."""
        return (self.state[TOP], self.state[COUNT])

    def nexts(self):
        """The next of each cell, from cell 1 on."""
        return list(self.state[NEXTS])

    def free(self):
        """The free cells, in the order in which they were let go."""
        return list(self.state[FREE])

    def pile(self):
        """The cells of the pile, the top first, as far as no cell comes again."""
        cells = []
        cell = self.state[TOP]
        # Behind a stale exchange the nexts may lead round and round.
        while cell != 0 and cell not in cells:
            cells.append(cell)
            cell = self.state[NEXTS][cell - 1]
        return cells

    def pile_values(self):
        """The values of the pile, the top's first, as far as no cell comes again."""
        return [self.state[VALUES][cell - 1] for cell in self.pile()]

    def is_stale(self):
        """Whether an exchange was stale."""
        return self.had_stale

    def is_done(self):
        """Whether all hands have done all their deeds."""
        for doing, deeds in zip(self.state[HANDS], self.programs):
            if doing[NUMBER] < len(deeds):
                return False
        return True
