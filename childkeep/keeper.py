"""The keeper of children, and the reading of the calls on it."""

CALL_START = 0
CALL_ENDED = 1
CALL_STOP = 2
CALL_TICK = 3

DONE = 0
WRONG = -22
IS_OFF = -2
TOO_LATE = -11

TELL_BEGIN = 0
TELL_HALT = 1
TELL_OVER = 2

KEEPING = 0
BEGINNING_ANEW = 1
ENDING = 2
OVER = 3

WAY_ALL = 1
WAY_BEHIND = 2

HOW_ALWAYS = 0
HOW_UNLESS_WELL = 1

WHY_ASKED_FOR = 0
WHY_TOO_OFTEN = 1

LARGEST_WAY = 2
LARGEST_MOST = 15
LARGEST_WITHIN = 65535
LARGEST_COUNT = 8
LARGEST_HOW = 2
LARGEST_PATIENCE = 65535


class Plan:
    """What a start hands in; the rows hold eight numbers, of which the first count ones matter."""

    def __init__(self, way, most, within, count, how, patience):
        self.way = way
        self.most = most
        self.within = within
        self.count = count
        self.how = how
        self.patience = patience

    def is_right(self):
        if self.way > LARGEST_WAY or self.most > LARGEST_MOST:
            return False
        if self.within < 1 or self.within > LARGEST_WITHIN:
            return False
        if self.count < 1 or self.count > LARGEST_COUNT:
            return False
        return max(self.how[:self.count]) <= LARGEST_HOW and max(self.patience[:self.count]) <= LARGEST_PATIENCE

    def is_begun_anew(self, child, why):
        if self.how[child] == HOW_UNLESS_WELL:
            return why != 0
        return self.how[child] == HOW_ALWAYS

    def beside(self, child):
        """The children that are begun anew with this one, if they are on or being stopped."""
        if self.way == WAY_ALL:
            return list(range(self.count))
        if self.way == WAY_BEHIND:
            return list(range(child + 1, self.count))
        return []


class Keeper:
    """One keeper; what it tells in a call is gathered in told, three numbers for each thing."""

    def __init__(self):
        self.told = []
        self.plan = None
        self.mode = OVER
        self.why = WHY_ASKED_FOR
        self.now = 0
        self.notes = []
        self.on = []
        self.marked = []
        # One child at most is being stopped at a time, so one place and one count of ticks are enough.
        self.stopping = None
        self.left = 0

    def start(self, plan):
        if not plan.is_right():
            return WRONG
        self.plan = plan
        self.mode = KEEPING
        self.now = 0
        self.notes = []
        self.on = [False] * plan.count
        self.stopping = None
        self.unmark()
        for child in range(plan.count):
            self.begin(child)
        return DONE

    def ended(self, child, why):
        if child >= self.plan.count:
            return WRONG
        if child == self.stopping:
            self.stopping = None
            self.on_with_it()
            return DONE
        if not self.on[child]:
            return IS_OFF
        self.on[child] = False
        if self.marked[child] or self.mode == ENDING:
            return DONE
        if self.plan.is_begun_anew(child, why):
            self.begin_anew(child)
        return DONE

    def stop(self):
        if self.mode == ENDING or self.mode == OVER:
            return TOO_LATE
        self.end_for(WHY_ASKED_FOR)
        return DONE

    def tick(self):
        self.now += 1
        # None left means that it's being stopped hard already.
        if self.stopping is not None and self.left > 0:
            self.left -= 1
            if self.left == 0:
                self.tell(TELL_HALT, self.stopping, 1)

    def look(self):
        bits = sum([1 << child for child in range(self.plan.count) if self.on[child]])
        stopping = 0 if self.stopping is None else self.stopping + 1
        return [self.mode, bits, stopping, len(self.notes)]

    def tell(self, thing, about, besides):
        self.told.extend([thing, about, besides])

    def begin(self, child):
        self.on[child] = True
        self.tell(TELL_BEGIN, child, 0)

    def ask(self, child):
        self.on[child] = False
        self.stopping = child
        self.left = self.plan.patience[child]
        self.tell(TELL_HALT, child, 1 if self.left == 0 else 0)

    def unmark(self):
        self.marked = [False] * self.plan.count

    def mark(self, child):
        self.marked[child] = True
        for other in self.plan.beside(child):
            if self.on[other] or other == self.stopping:
                self.marked[other] = True

    def note(self):
        kept = [noted for noted in self.notes if self.now - noted < self.plan.within]
        self.notes = kept + [self.now]

    def begin_anew(self, child):
        self.note()
        if len(self.notes) > self.plan.most:
            self.end_for(WHY_TOO_OFTEN)
            return
        self.mark(child)
        self.mode = BEGINNING_ANEW
        self.on_with_it()

    def end_for(self, why):
        self.mode = ENDING
        self.why = why
        self.unmark()
        self.on_with_it()

    def on_with_it(self):
        if self.stopping is not None:
            return
        due = [child for child in range(self.plan.count) if self.is_to_be_asked(child)]
        if due:
            self.ask(due[-1])
        elif self.mode == BEGINNING_ANEW:
            self.begin_marked()
        else:
            self.mode = OVER
            self.tell(TELL_OVER, self.why, 0)

    def is_to_be_asked(self, child):
        return self.on[child] and (self.marked[child] or self.mode == ENDING)

    def begin_marked(self):
        for child in range(self.plan.count):
            if self.marked[child]:
                self.begin(child)
        self.unmark()
        self.mode = KEEPING


class Reader:
    """Where the reading of the calls stands; the numbers themselves are only read."""

    def __init__(self, numbers):
        self.numbers = numbers
        self.place = 0

    def has_more(self):
        return self.place < len(self.numbers)

    def number(self):
        value = self.numbers[self.place]
        self.place += 1
        return value

    def row(self):
        size = self.number()
        first = self.place
        self.place += size
        return self.numbers[first:self.place]


def read_plan(reader):
    way = reader.number()
    most = reader.number()
    within = reader.number()
    count = reader.number()
    how = reader.row()
    patience = reader.row()
    return Plan(way, most, within, count, how, patience)


def answer(keeper, reader):
    """Reads one call, and gives back all the numbers that it answers."""
    keeper.told = []
    number = DONE
    besides = []
    call = reader.number()
    if call == CALL_START:
        number = keeper.start(read_plan(reader))
    elif call == CALL_ENDED:
        child = reader.number()
        number = keeper.ended(child, reader.number())
    elif call == CALL_STOP:
        number = keeper.stop()
    elif call == CALL_TICK:
        keeper.tick()
    else:
        besides = keeper.look()
    return [number, len(keeper.told) // 3] + keeper.told + besides


def answers(calls):
    keeper = Keeper()
    reader = Reader(calls)
    given = []
    while reader.has_more():
        numbers = answer(keeper, reader)
        given.append(len(numbers))
        given.extend(numbers)
    return given
