"""A second machine for the tests, written from DOC.md on its own: each hand is a generator.

It is slow and can't be copied: who wants to go on from a state plays the weaving to it again.
"""

import itertools

POP = ("pop",)


def push(value):
    return ("push", value)


class Model:
    def __init__(self, values, programs, rule):
        self.rule = rule
        self.programs = [list(program) for program in programs]
        self.top = len(values)
        self.count = 0
        self.value = {k + 1: value for k, value in enumerate(values)}
        self.next = {k + 1: k for k in range(len(values))}
        self.let_go = []
        self.mark = {hand: 0 for hand in range(len(programs))}
        self.told = {hand: [] for hand in range(len(programs))}
        self.done = {hand: 0 for hand in range(len(programs))}
        self.decided = []
        self.had_stale = False
        self.last_was_stale = False
        # The cells of pushes that aren't decided and of pops that have exchanged and not ended.
        self.held = {}
        self.going = [self.hand_goes(hand) for hand in range(len(programs))]

    def turn(self, hand):
        self.last_was_stale = False
        return next(self.going[hand])

    def hand_goes(self, hand):
        for number, deed in enumerate(self.programs[hand]):
            if deed == POP:
                yield from self.pop_goes(hand, number)
            else:
                yield from self.push_goes(hand, number, deed[1])
        while True:
            yield ("rests",)

    def ended(self, hand, answer):
        self.told[hand].append(answer)
        self.mark[hand] = 0
        self.done[hand] += 1
        return ("ends", answer)

    def taken(self):
        usable = list(self.let_go)
        if self.rule[0] == "keeps":
            usable = []
        if self.rule[0] == "marks":
            usable = [cell for cell in usable if cell not in self.mark.values()]
        if usable:
            self.let_go.remove(usable[0])
            return usable[0]
        cell = len(self.next) + 1
        self.next[cell] = 0
        return cell

    def exchange(self, top, count, new):
        if (self.top, self.count) != (top, count):
            return False
        self.top = new
        if self.rule[0] == "counts":
            self.count = 0 if self.count == self.rule[1] - 1 else self.count + 1
        return True

    def push_goes(self, hand, number, value):
        cell = self.taken()
        self.value[cell] = value
        self.held[hand] = cell
        yield ("takes", cell)
        while True:
            top, count = self.top, self.count
            yield ("reads", top)
            self.next[cell] = top
            yield ("links", top)
            if self.exchange(top, count, cell):
                del self.held[hand]
                self.decided.append((hand, number))
                yield self.ended(hand, "done")
                return
            yield ("misses",)

    def pop_goes(self, hand, number):
        while True:
            top, count = self.top, self.count
            if top == 0:
                self.decided.append((hand, number))
                yield self.ended(hand, None)
                return
            yield ("reads", top)
            if self.rule[0] == "marks" and hand in self.rule[1]:
                if self.mark[hand] != top:
                    self.mark[hand] = top
                    yield ("marks", top)
                if self.top != top:
                    yield ("looks", False)
                    continue
                yield ("looks", True)
            below = self.next[top]
            yield ("follows", below)
            if not self.exchange(top, count, below):
                yield ("misses",)
                continue
            if self.next[top] != below:
                self.had_stale = self.last_was_stale = True
            self.decided.append((hand, number))
            self.held[hand] = top
            yield ("exchanges", below)
            del self.held[hand]
            self.let_go.append(top)
            yield self.ended(hand, self.value[top])
            return

    def is_done(self):
        return all(self.done[hand] == len(program) for hand, program in enumerate(self.programs))

    def pile(self):
        cells, cell = [], self.top
        while cell and cell not in cells:
            cells.append(cell)
            cell = self.next[cell]
        return cells

    def observed(self):
        """All that a machine tells when asked."""
        hands = range(len(self.programs))
        pile = self.pile()
        return {
            "answers": [list(self.told[hand]) for hand in hands],
            "marked": [self.mark[hand] for hand in hands],
            "order": list(self.decided),
            "top_now": (self.top, self.count),
            "nexts": [self.next[cell] for cell in sorted(self.next)],
            "free": list(self.let_go),
            "pile": pile,
            "pile_values": [self.value[cell] for cell in pile],
            "is_stale": self.had_stale,
            "is_done": self.is_done(),
        }

    def key(self):
        """Two models of the same programs and rule with the same key go on alike."""
        lines = []
        for hand, going in enumerate(self.going):
            # The generator that goes through a deed is the one that the hand's generator yields from.
            inner = going if going.gi_yieldfrom is None else going.gi_yieldfrom
            names = {name: inner.gi_frame.f_locals.get(name) for name in ("cell", "top", "count", "below")}
            lines.append((self.done[hand], inner.gi_frame.f_lineno, tuple(names.values())))
        nexts = tuple(self.next[cell] for cell in sorted(self.next))
        marks = tuple(self.mark.values())
        return (self.top, self.count, nexts, tuple(self.let_go), marks, tuple(lines))


def observed(machine, many):
    """The same of a machine of stalestack."""
    return {
        "answers": [machine.answers(hand) for hand in range(many)],
        "marked": [machine.marked(hand) for hand in range(many)],
        "order": machine.order(),
        "top_now": machine.top_now(),
        "nexts": machine.nexts(),
        "free": machine.free(),
        "pile": machine.pile(),
        "pile_values": machine.pile_values(),
        "is_stale": machine.is_stale(),
        "is_done": machine.is_done(),
    }


def model_behind(values, programs, rule, weaving):
    model = Model(values, programs, rule)
    for hand in weaving:
        model.turn(hand)
    return model


def all_stale_weavings(values, programs, rule):
    """All weavings, none of whose steps rests, whose last step alone is a stale exchange.

    Nothing is left out here: each weaving is gone through, whether or not another one led to the same.
    """
    found = []
    open_ones = [()]
    while open_ones:
        weaving = open_ones.pop()
        model = model_behind(values, programs, rule, weaving)
        while not model.is_done() and not model.had_stale:
            first, *others = [hand for hand, deeds in enumerate(programs) if model.done[hand] < len(deeds)]
            open_ones += [weaving + (hand,) for hand in others]
            weaving += (first,)
            model.turn(first)
        if model.had_stale:
            found.append(weaving)
    return found


def first_stale_weaving(values, programs, rule):
    """The shortest and least such weaving as a list, or None; weavings to the same state count as one."""
    seen = {Model(values, programs, rule).key()}
    level = [()]
    while level:
        behind = []
        found = []
        for weaving in level:
            for hand in range(len(programs)):
                model = model_behind(values, programs, rule, weaving)
                if model.turn(hand) == ("rests",):
                    continue
                longer = weaving + (hand,)
                if model.last_was_stale:
                    found.append(longer)
                elif model.key() not in seen:
                    seen.add(model.key())
                    behind.append(longer)
        if found:
            return list(min(found))
        level = sorted(behind)
    return None


def programs_of(sizes):
    """All programs in which the hands have so many deeds each; each push has another value."""
    for kinds in itertools.product((True, False), repeat=sum(sizes)):
        deeds = [push(10 + k) if pushes else POP for k, pushes in enumerate(kinds)]
        programs = []
        for size in sizes:
            programs.append(deeds[:size])
            deeds = deeds[size:]
        yield programs


def rules_for(many):
    """Rules of each kind for so many hands."""
    rules = [("keeps",)] + [("counts", m) for m in (1, 2, 3, 15)]
    for size in range(many + 1):
        rules += [("marks", hands) for hands in itertools.combinations(range(many), size)]
    return rules
