"""What the tests share: calls by name, and a second reckoning of their answers, place by place."""

from lentground.ground import answers

LARGEST = 18446744073709551615
ALL_ALIGNMENTS = (1, 2, 4, 8, 16, 32, 64, 128, 256)


def begin(size, rule=0):
    return [1, size, rule]


def take(n, a=1):
    return [2, n, a]


def zero(n, a=1):
    return [3, n, a]


def resize(b, n):
    return [4, b, n]


def give(b):
    return [5, b]


def size(b):
    return [6, b]


def of(p):
    return [7, p]


def next_from(p):
    return [8, p]


def most(a=1):
    return [9, a]


def rows():
    return [10]


def joined(calls):
    return [number for call in calls for number in call]


def split(given):
    """The answers one by one, from the list that has how many numbers each has ahead of it."""
    single = []
    at = 0
    while at < len(given):
        single.append(given[at + 1:at + 1 + given[at]])
        at += 1 + given[at]
    return single


def ask(*calls):
    return split(answers(joined(calls)))


def last(*calls):
    return ask(*calls)[-1]


class SlowGround:
    """The document's words taken place by place, with no thought of speed."""

    def __init__(self, how_many=64, rule=0):
        self.rule = rule
        self.bytes = [0] * how_many
        self.owner = [None] * how_many
        self.blocks = {}
        self.mark = 0

    def row_list(self):
        found = []
        for place, owner in enumerate(self.owner):
            if owner is not None:
                continue
            if found and sum(found[-1]) == place:
                found[-1][1] += 1
            else:
                found.append([place, 1])
        return found

    def fitting(self, n, a):
        found = []
        free = 0
        for p in reversed(range(len(self.owner))):
            free = free + 1 if self.owner[p] is None else 0
            if p % a == 0 and free >= max(n, 1):
                found.insert(0, p)
        return found

    def place(self, n, a):
        fitting = self.fitting(n, a)
        if not fitting:
            return None
        if self.rule == 0:
            return fitting[0]
        if self.rule == 1:
            return fitting[-1]
        if self.rule == 4:
            return ([p for p in fitting if p >= self.mark] + fitting)[0]
        choices = []
        for first, length in self.row_list():
            inside = [p for p in fitting if first <= p < first + length]
            if inside:
                choices.append((length if self.rule == 2 else -length, first, inside[0]))
        return sorted(choices)[0][2]

    def set_owner(self, b, n, owner):
        for p in range(b, b + max(n, 1)):
            self.owner[p] = owner

    def lie(self, b, n, a):
        self.blocks[b] = (n, a)
        self.set_owner(b, n, b)
        self.mark = b + max(n, 1)

    def take(self, n, a):
        if a not in ALL_ALIGNMENTS:
            return [-1]
        b = self.place(n, a)
        if b is None:
            return [-3]
        self.lie(b, n, a)
        return [b]

    def zero(self, n, a):
        answer = self.take(n, a)
        if answer[0] >= 0:
            for p in range(answer[0], answer[0] + n):
                self.bytes[p] = 0
        return answer

    def give(self, b):
        if b not in self.blocks:
            return [-2]
        self.set_owner(b, self.blocks.pop(b)[0], None)
        return [0]

    def stays(self, b, n):
        had = self.blocks[b][0]
        if n <= had:
            return True
        if b + n > len(self.owner):
            return False
        return all(owner is None for owner in self.owner[b + max(had, 1):b + max(n, 1)])

    def resize(self, b, n):
        if b not in self.blocks:
            return [-2]
        had, a = self.blocks[b]
        stays = self.stays(b, n)
        self.give(b)
        new = b if stays else self.place(n, a)
        if new is None:
            self.blocks[b] = (had, a)
            self.set_owner(b, had, b)
            return [-3]
        before = list(self.bytes)
        self.lie(new, n, a)
        for i in range(min(had, n)):
            self.bytes[new + i] = before[b + i]
        return [new]

    def most(self, a):
        if a not in ALL_ALIGNMENTS:
            return [-1]
        return [max((n for n in range(len(self.owner) + 1) if self.fitting(n, a)), default=-3)]

    def answer(self, call):
        number, arguments = call[0], call[1:]
        if number == 1:
            if not 1 <= arguments[0] <= 2048 or arguments[1] > 4:
                return [-1]
            self.__init__(*arguments)
            return [0]
        if number == 6:
            b = arguments[0]
            return [*self.blocks[b], 0] if b in self.blocks else [-2]
        if number == 7:
            p = arguments[0]
            owner = self.owner[p] if p < len(self.owner) else None
            return [-4 if owner is None else owner]
        if number == 8:
            return [min((b for b in self.blocks if b >= arguments[0]), default=-4)]
        if number == 10:
            return [len(self.row_list())] + joined(self.row_list())
        methods = {2: self.take, 3: self.zero, 4: self.resize, 5: self.give, 9: self.most}
        return methods[number](*arguments)
