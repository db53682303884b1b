"""What the tests share: calls by name, and a second reckoning of their answers, place by place."""

import copy

from lentground.calls import answer_call
from lentground.ground import answers
from lentground.keeper import Ground

LARGEST = 18446744073709551615
ALL_ALIGNMENTS = (1, 2, 4, 8, 16, 32, 64, 128, 256)


def begin(size, rule=0):
    return [1, size, rule]


def take(n, a=1):
    return [2, n, a]


def zero(n, a=1):
    return [3, n, a]


def resize(b, n):
    return [4, b, n]


def give(b):
    return [5, b]


def size(b):
    return [6, b]


def of(p):
    return [7, p]


def next_from(p):
    return [8, p]


def most(a=1):
    return [9, a]


def rows():
    return [10]


def enter():
    return [11]


def leave():
    return [12]


def keep(b):
    return [13, b]


def counts():
    return [14]


def write(b, i, new_bytes):
    return [15, b, i, len(new_bytes), *new_bytes]


def read(b, i, k):
    return [16, b, i, k]


def pack():
    return [17]


def walk(p=0):
    return [18, p]


def step(w=0):
    return [19, w]


def blocks():
    return [20]


def joined(calls):
    return [number for call in calls for number in call]


def split(given):
    """The answers one by one, from the list that has how many numbers each has ahead of it."""
    single = []
    at = 0
    while at < len(given):
        single.append(given[at + 1:at + 1 + given[at]])
        at += 1 + given[at]
    return single


def ask(*calls):
    return split(answers(joined(calls)))


def last(*calls):
    return ask(*calls)[-1]


def call_on(ground, call):
    return answer_call(ground, call[0], call[1:])


def ground_with(*calls):
    """A ground behind the calls, each of its bytes another number than its neighbours'."""
    ground = Ground()
    for call in calls:
        call_on(ground, call)
    ground.store = [1 + place % 250 for place in range(ground.size)]
    return ground


def whole(ground):
    """All that a ground holds, as values of its own."""
    held = copy.deepcopy(vars(ground))
    held["blocks"] = {address: vars(block) for address, block in held["blocks"].items()}
    return held


class SlowGround:
    """The document's words taken place by place, with no thought of speed."""

    def __init__(self, how_many=64, rule=0):
        self.rule = rule
        self.bytes = [0] * how_many
        self.owner = [None] * how_many
        self.blocks = {}
        self.mark = 0
        self.depth = 0
        self.walks = [None] * 4

    def row_list(self):
        found = []
        for place, owner in enumerate(self.owner):
            if owner is not None:
                continue
            if found and sum(found[-1]) == place:
                found[-1][1] += 1
            else:
                found.append([place, 1])
        return found

    def fitting(self, n, a):
        found = []
        free = 0
        for p in reversed(range(len(self.owner))):
            free = free + 1 if self.owner[p] is None else 0
            if p % a == 0 and free >= max(n, 1):
                found.insert(0, p)
        return found

    def place(self, n, a):
        fitting = self.fitting(n, a)
        if not fitting:
            return None
        if self.rule == 0:
            return fitting[0]
        if self.rule == 1:
            return fitting[-1]
        if self.rule == 4:
            return ([p for p in fitting if p >= self.mark] + fitting)[0]
        choices = []
        for first, length in self.row_list():
            inside = [p for p in fitting if first <= p < first + length]
            if inside:
                choices.append((length if self.rule == 2 else -length, first, inside[0]))
        return sorted(choices)[0][2]

    def set_owner(self, b, n, owner):
        for p in range(b, b + max(n, 1)):
            self.owner[p] = owner

    def lie(self, b, n, a, group):
        self.blocks[b] = (n, a, group)
        self.set_owner(b, n, b)

    def begin(self, how_many, rule):
        if not 1 <= how_many <= 2048 or rule > 4:
            return [-1]
        self.__init__(how_many, rule)
        return [0]

    def take(self, n, a):
        if a not in ALL_ALIGNMENTS:
            return [-1]
        b = self.place(n, a)
        if b is None:
            return [-3]
        self.lie(b, n, a, self.depth)
        self.mark = b + max(n, 1)
        return [b]

    def zero(self, n, a):
        answer = self.take(n, a)
        if answer[0] >= 0:
            for p in range(answer[0], answer[0] + n):
                self.bytes[p] = 0
        return answer

    def give(self, b):
        if b not in self.blocks:
            return [-2]
        self.set_owner(b, self.blocks.pop(b)[0], None)
        return [0]

    def stays(self, b, n):
        had = self.blocks[b][0]
        if n <= had:
            return True
        if b + n > len(self.owner):
            return False
        return all(owner is None for owner in self.owner[b + max(had, 1):b + max(n, 1)])

    def move(self, b, new, n):
        """The block at b is taken off there and laid at new, with n bytes."""
        had, a, group = self.blocks[b]
        before = list(self.bytes)
        self.give(b)
        self.lie(new, n, a, group)
        for i in range(min(had, n)):
            self.bytes[new + i] = before[b + i]

    def resize(self, b, n):
        if b not in self.blocks:
            return [-2]
        had, a, group = self.blocks[b]
        new = b
        if not self.stays(b, n):
            self.give(b)
            new = self.place(n, a)
            self.lie(b, had, a, group)
        if new is None:
            return [-3]
        self.move(b, new, n)
        self.mark = new + max(n, 1)
        return [new]

    def size(self, b):
        return list(self.blocks.get(b, [-2]))

    def of(self, p):
        owner = self.owner[p] if p < len(self.owner) else None
        return [-4 if owner is None else owner]

    def next(self, p):
        return [min((b for b in self.blocks if b >= p), default=-4)]

    def most(self, a):
        if a not in ALL_ALIGNMENTS:
            return [-1]
        return [max((n for n in range(len(self.owner) + 1) if self.fitting(n, a)), default=-3)]

    def rows(self):
        return [len(self.row_list())] + joined(self.row_list())

    def enter(self):
        if self.depth == 8:
            return [-3]
        self.depth += 1
        return [self.depth]

    def innermost(self):
        return [b for b in self.blocks if self.blocks[b][2] == self.depth]

    def leave(self):
        if self.depth == 0:
            return [-4]
        leaving = self.innermost()
        for b in leaving:
            self.give(b)
        self.depth -= 1
        return [len(leaving)]

    def keep(self, b):
        if b not in self.blocks:
            return [-2]
        n, a, group = self.blocks[b]
        if group == 0:
            return [-4]
        self.blocks[b] = (n, a, group - 1)
        return [group - 1]

    def counts(self):
        lent = sum(n for n, a, group in self.blocks.values())
        return [len(self.blocks), lent, self.depth, len(self.innermost()), self.mark]

    def write(self, b, i, how_many, *new_bytes):
        if b not in self.blocks:
            return [-2]
        if how_many > self.blocks[b][0] - i:
            return [-1]
        for j, value in enumerate(new_bytes):
            self.bytes[b + i + j] = value
        return [0]

    def read(self, b, i, k):
        if b not in self.blocks:
            return [-2]
        if k > self.blocks[b][0] - i:
            return [-1]
        return [k] + [self.bytes[b + i + j] for j in range(k)]

    def pack(self):
        answer = [len(self.blocks)]
        behind = 0
        for b in sorted(self.blocks):
            n, a, group = self.blocks[b]
            new = behind
            while new % a != 0:
                new += 1
            self.move(b, new, n)
            answer.append(new)
            behind = new + max(n, 1)
        return answer

    def walk(self, p):
        if None not in self.walks:
            return [-3]
        w = self.walks.index(None)
        self.walks[w] = p
        return [w]

    def step(self, w):
        if w >= 4 or self.walks[w] is None:
            return [-1]
        answer = self.next(self.walks[w])
        self.walks[w] = None if answer == [-4] else answer[0] + 1
        return answer

    def block_list(self):
        return [len(self.blocks)] + joined([b, *self.blocks[b]] for b in sorted(self.blocks))

    def answer(self, call):
        methods = (self.begin, self.take, self.zero, self.resize, self.give, self.size, self.of, self.next, self.most,
                   self.rows, self.enter, self.leave, self.keep, self.counts, self.write, self.read, self.pack,
                   self.walk, self.step, self.block_list)
        return methods[call[0] - 1](*call[1:])
