"""What a step of a hand does to a state, and what it tells.

A state is a tuple, so that a search can tell whether it has been there already. Its parts are the
top, the count, the nexts of the cells (that of cell c at c - 1), the free cells, the values of the
cells (likewise), and for each hand a tuple of what it is doing.

The parts of this one are how many deeds the hand has done, in which phase the next deed is, the cell
that a push has, the top and the count that the hand read, the next that a pop followed, and the cell
that the hand marks. There 0 stands for what the hand does not have or does not need any more: so
states from which all goes on alike are equal.
"""

from stalestack.deeds import POP

TOP = 0
COUNT = 1
NEXTS = 2
FREE = 3
VALUES = 4
HANDS = 5

NUMBER = 0
PHASE = 1
CELL = 2
TOP_READ = 3
COUNT_READ = 4
FOLLOWED = 5
MARK = 6

TO_READ = 0
HAS_READ = 1
HAS_LOOKED = 2
TO_EXCHANGE = 3
HAS_EXCHANGED = 4


def ahead_of(number):
    """What a hand is doing that comes to its deed of that number."""
    return (number, TO_READ, 0, 0, 0, 0, 0)


def first_state(values, many):
    """The pile at first, and so many hands that have done nothing yet."""
    size = len(values)
    return (size, 0, tuple(range(size)), (), tuple(values), (ahead_of(0),) * many)


def replaced(items, at, item):
    """The tuple with another item at that place."""
    return items[:at] + (item,) + items[at + 1:]


def with_hand(state, hand, doing):
    """The state in which the hand is doing that."""
    return replaced(state, HANDS, replaced(state[HANDS], hand, doing))


def with_deed_done(state, hand):
    """The state in which the hand's deed has ended; its mark ends with it."""
    number = state[HANDS][hand][NUMBER]
    return with_hand(state, hand, ahead_of(number + 1))


def to_read_anew(doing):
    """What the hand is doing if it has to begin at the reading again."""
    return (doing[NUMBER], TO_READ, doing[CELL], 0, 0, 0, doing[MARK])


def place_to_take(state, rule):
    """Where among the free cells the one stands that a push takes, or None if it takes a new one."""
    if rule[0] == "keeps":
        return None
    # By counts no hand marks any cell, so the first one is taken.
    marks = [doing[MARK] for doing in state[HANDS]]
    for place, cell in enumerate(state[FREE]):
        if cell not in marks:
            return place
    return None


def take(state, rule, hand, value):
    """A push takes a cell and puts its value there."""
    top, count, nexts, free, values, hands = state
    place = place_to_take(state, rule)
    if place is None:
        nexts = nexts + (0,)
        values = values + (value,)
        cell = len(nexts)
    else:
        cell = free[place]
        free = free[:place] + free[place + 1:]
        values = replaced(values, cell - 1, value)
    doing = replaced(hands[hand], CELL, cell)
    return ("takes", cell), (top, count, nexts, free, values, replaced(hands, hand, doing))


def read(state, hand, pushes):
    """The hand reads the top and the count; a pop that meets no cell there ends."""
    top = state[TOP]
    if top == 0 and not pushes:
        return ("ends", None), with_deed_done(state, hand)
    doing = state[HANDS][hand]
    doing = (doing[NUMBER], HAS_READ, doing[CELL], top, state[COUNT], 0, doing[MARK])
    return ("reads", top), with_hand(state, hand, doing)


def link(state, hand):
    """The top that a push read becomes the next of its cell."""
    doing = state[HANDS][hand]
    top = doing[TOP_READ]
    state = replaced(state, NEXTS, replaced(state[NEXTS], doing[CELL] - 1, top))
    return ("links", top), with_hand(state, hand, replaced(doing, PHASE, TO_EXCHANGE))


def mark_or_look(state, hand):
    """A pop marks the cell that it read, or, if it marks that already, looks whether it is the top still."""
    doing = state[HANDS][hand]
    cell = doing[TOP_READ]
    if doing[MARK] != cell:
        return ("marks", cell), with_hand(state, hand, replaced(doing, MARK, cell))
    if state[TOP] != cell:
        return ("looks", False), with_hand(state, hand, to_read_anew(doing))
    return ("looks", True), with_hand(state, hand, replaced(doing, PHASE, HAS_LOOKED))


def follow(state, hand):
    """A pop follows the next of the cell that it read."""
    doing = state[HANDS][hand]
    below = state[NEXTS][doing[TOP_READ] - 1]
    doing = replaced(replaced(doing, PHASE, TO_EXCHANGE), FOLLOWED, below)
    return ("follows", below), with_hand(state, hand, doing)


def with_top(state, rule, top):
    """The state behind an exchange that makes that the top."""
    count = state[COUNT]
    if rule[0] == "counts":
        count = (count + 1) % rule[1]
    return (top, count) + state[NEXTS:]


def exchange(state, rule, hand, pushes):
    """The hand exchanges the top, if that and the count are what it read; else it misses."""
    doing = state[HANDS][hand]
    if state[TOP] != doing[TOP_READ] or state[COUNT] != doing[COUNT_READ]:
        return ("misses",), with_hand(state, hand, to_read_anew(doing))
    if pushes:
        return ("ends", "done"), with_deed_done(with_top(state, rule, doing[CELL]), hand)
    below = doing[FOLLOWED]
    doing = (doing[NUMBER], HAS_EXCHANGED, 0, doing[TOP_READ], 0, 0, doing[MARK])
    return ("exchanges", below), with_hand(with_top(state, rule, below), hand, doing)


def let_go(state, hand):
    """A pop that has exchanged answers the value of its cell and lets that go."""
    cell = state[HANDS][hand][TOP_READ]
    value = state[VALUES][cell - 1]
    state = replaced(state, FREE, state[FREE] + (cell,))
    return ("ends", value), with_deed_done(state, hand)


def step(state, programs, rule, hand):
    """What the hand's step tells, and the state behind it."""
    doing = state[HANDS][hand]
    if doing[NUMBER] == len(programs[hand]):
        return ("rests",), state
    deed = programs[hand][doing[NUMBER]]
    pushes = deed != POP
    if pushes and doing[CELL] == 0:
        return take(state, rule, hand, deed[1])
    if doing[PHASE] == TO_READ:
        return read(state, hand, pushes)
    if doing[PHASE] == TO_EXCHANGE:
        return exchange(state, rule, hand, pushes)
    if pushes:
        return link(state, hand)
    if doing[PHASE] == HAS_EXCHANGED:
        return let_go(state, hand)
    if doing[PHASE] == HAS_READ and rule[0] == "marks" and hand in rule[1]:
        return mark_or_look(state, hand)
    return follow(state, hand)


def decides(told):
    """Whether the step that told this decided the hand's deed."""
    return told[0] == "exchanges" or told == ("ends", "done") or told == ("ends", None)


def was_stale(told, state, hand):
    """Whether the hand's step that told this, and led to this state, was a stale exchange."""
    if told[0] != "exchanges":
        return False
    # An exchange changes no next, and the pop still knows the cell that it read.
    cell = state[HANDS][hand][TOP_READ]
    return state[NEXTS][cell - 1] != told[1]
