"""A second reading of the document, written plainly, to which the package is held.

Reference runs a program by the rules of the document and keeps every state; needs_of judges a
tree by the rules for bills, straight on tuples.
"""

PARTS = {
    "name": [], "number": [], "fun": [2], "call": [1, 2], "let": [2, 3], "def": [3, 4], "pair": [1, 2],
    "open": [1, 4], "choose": [1, 2, 3], "work": [2, 3], "show": [1], "keep": [2],
}
LIMIT = 10 ** 30


def free(e):
    word = e[0]
    if word == "name":
        return {e[1]}
    if word == "fun" or word == "keep":
        return free(e[2]) - {e[1]}
    if word == "let":
        return free(e[2]) | (free(e[3]) - {e[1]})
    if word == "def":
        return (free(e[3]) - {e[1], e[2]}) | (free(e[4]) - {e[1]})
    if word == "open":
        return free(e[1]) | (free(e[4]) - {e[2], e[3]})
    return set().union(*[free(e[at]) for at in PARTS[word]])


def at_path(e, path):
    for at in path:
        e = e[at]
    return e


def all_paths(e):
    return [()] + [(at,) + path for at in PARTS[e[0]] for path in all_paths(e[at])]


def worked(word, a, b):
    return {"plus": a + b, "minus": a - b, "times": a * b, "less": int(a < b), "same": int(a == b)}[word]


class Reference:
    def __init__(self, program, most):
        self.program = program
        self.frames = {}
        self.things = {}
        self.shown = ()
        self.top = None
        self.kinds = []
        self.returns = []
        self.uses = []
        self.states = []
        self.next = ("eval", (), {})
        self.settle()
        while self.next[0] != "end" and len(self.kinds) < most:
            self.step()
            self.settle()

    def keep_names(self, names, wanted):
        return {name: names[name] for name in wanted}

    def frame(self, kind, path, names, worth):
        birth = len(self.frames)
        self.frames[birth] = (kind, path, names, worth, self.top)
        self.top = birth

    def thing(self, *row):
        self.things[len(self.things)] = row
        return ("thing", len(self.things) - 1)

    def sort(self, worth):
        return "number" if worth[0] == "number" else self.things[worth[1]][0]

    def pop(self):
        row = self.frames[self.top]
        self.returns.append((len(self.kinds), self.top))
        self.top = row[4]
        return row

    def settle(self):
        """Do what is no step, then keep the state."""
        while True:
            if self.next[0] == "eval":
                _, path, names = self.next
                e = at_path(self.program, path)
                rest = {"call": "call1", "pair": "pair1", "work": "work1"}.get(e[0], e[0])
                if e[0] == "call" or e[0] == "pair":
                    self.frame(rest, path, self.keep_names(names, free(e[2])), None)
                elif e[0] == "work":
                    self.frame(rest, path, self.keep_names(names, free(e[3])), None)
                elif e[0] == "let":
                    self.frame(rest, path, self.keep_names(names, free(e[3]) - {e[1]}), None)
                elif e[0] == "open":
                    self.frame(rest, path, self.keep_names(names, free(e[4]) - {e[2], e[3]}), None)
                elif e[0] == "choose":
                    self.frame(rest, path, self.keep_names(names, free(e[2]) | free(e[3])), None)
                elif e[0] == "show":
                    self.frame(rest, path, {}, None)
                else:
                    break
                first = PARTS[e[0]][0]
                self.next = ("eval", path + (first,), self.keep_names(names, free(e[first])))
            elif self.next[0] == "give":
                worth = self.next[1]
                if self.top is None:
                    sort = self.sort(worth)
                    self.next = ("end", worth if sort == "number" else (sort,))
                    break
                kind, path, names, held, _ = self.frames[self.top]
                if kind in ("call1", "pair1", "work1"):
                    self.pop()
                    self.frame(kind[:-1] + "2", path, {}, worth)
                    at = PARTS[at_path(self.program, path)[0]][1]
                    self.next = ("eval", path + (at,), names)
                    continue
                if not self.takes(kind, at_path(self.program, path), held, worth):
                    self.next = ("end", ("stuck",))
                break
            else:
                break
        self.states.append(self.state())

    def takes(self, kind, e, held, worth):
        if kind == "open":
            return self.sort(worth) == "pair"
        if kind in ("choose", "show"):
            return self.sort(worth) == "number"
        if kind == "call2":
            return self.sort(held) in ("function", "kept")
        if kind == "work2":
            if self.sort(held) != "number" or self.sort(worth) != "number":
                return False
            return abs(worked(e[1], held[1], worth[1])) < LIMIT
        return True

    def step(self):
        word, *rest = self.next
        if word == "eval":
            path, names = rest
            self.evaluate(at_path(self.program, path), path, names)
        else:
            self.take(rest[0])

    def evaluate(self, e, path, names):
        if e[0] == "name":
            self.kinds.append("look")
            self.next = ("give", names[e[1]])
        elif e[0] == "number":
            self.kinds.append("hold")
            self.next = ("give", e)
        elif e[0] == "fun":
            self.kinds.append("hold")
            self.next = ("give", self.thing("function", path, names))
        elif e[0] == "def":
            self.kinds.append("def")
            inner = self.keep_names(names, free(e[3]) - {e[1], e[2]})
            worth = self.thing("function", path, inner)
            if e[1] in free(e[3]):
                inner[e[1]] = worth
            outer = {**names, e[1]: worth}
            self.next = ("eval", path + (4,), self.keep_names(outer, free(e[4])))
        else:
            self.kinds.append("keep")
            inner = {**names, e[1]: self.thing("kept", self.top)}
            self.next = ("eval", path + (2,), self.keep_names(inner, free(e[2])))

    def take(self, worth):
        before = len(self.kinds)
        self.kinds.append("?")
        kind, path, names, held, _ = self.pop()
        e = at_path(self.program, path)
        self.kinds[before] = {"pair2": "hold", "work2": "work"}.get(kind, kind)
        if kind == "let":
            self.next = ("eval", path + (3,), self.keep_names({**names, e[1]: worth}, free(e[3])))
        elif kind == "open":
            self.use(worth)
            _, one, other = self.things[worth[1]]
            inner = {**names, e[2]: one, e[3]: other}
            self.next = ("eval", path + (4,), self.keep_names(inner, free(e[4])))
        elif kind == "choose":
            at = 2 if worth[1] != 0 else 3
            self.next = ("eval", path + (at,), self.keep_names(names, free(e[at])))
        elif kind == "work2":
            self.next = ("give", ("number", worked(e[1], held[1], worth[1])))
        elif kind == "show":
            self.shown += (worth[1],)
            self.next = ("give", worth)
        elif kind == "pair2":
            self.next = ("give", self.thing("pair", held, worth))
        else:
            self.use(held)
            called = self.things[held[1]]
            if called[0] == "kept":
                self.kinds[before] = "enter"
                self.top = called[1]
                self.next = ("give", worth)
            else:
                self.kinds[before] = "call"
                f = at_path(self.program, called[1])
                x, at = (f[1], 2) if f[0] == "fun" else (f[2], 3)
                inner = {**called[2], x: worth}
                self.next = ("eval", called[1] + (at,), self.keep_names(inner, free(f[at])))

    def use(self, worth):
        self.uses.append((len(self.kinds), worth[1]))

    def state(self):
        def told(names):
            return tuple(sorted(names.items()))
        if self.next[0] == "eval":
            control = ("at", self.next[1], told(self.next[2]))
            worths = list(self.next[2].values())
        elif self.next[0] == "give":
            control = ("with", self.next[1])
            worths = [self.next[1]]
        else:
            control = ("end", self.next[1])
            worths = []
        frames, things = {}, {}
        tops = [self.top]
        while worths or tops:
            if tops:
                birth = tops.pop()
                if birth is None or birth in frames:
                    continue
                kind, path, names, worth, below = self.frames[birth]
                frames[birth] = (kind, path, told(names), worth, below)
                worths += list(names.values()) + ([worth] if worth else [])
                tops.append(below)
            else:
                word, birth = worths.pop()
                if word == "number" or birth in things:
                    continue
                row = self.things[birth]
                if row[0] == "function":
                    things[birth] = ("function", row[1], told(row[2]))
                    worths += list(row[2].values())
                else:
                    things[birth] = row
                    worths += list(row[1:]) if row[0] == "pair" else []
                    tops += [row[1]] if row[0] == "kept" else []
        return (control, self.top, dict(sorted(frames.items())), dict(sorted(things.items())), self.shown)


class NoBillOf(Exception):
    pass


def demand(condition):
    if not condition:
        raise NoBillOf()


def returns_of(tree):
    """How often a tree returns, the tree being built rightly."""
    word = tree[0]
    if word in ("name", "number", "fun"):
        return 1
    if word == "keep":
        return tree[1] + returns_of(tree[2])
    if word == "def":
        return returns_of(tree[2])
    rows = tree[2]
    if word == "call":
        return sum(act[2] for _, acts in rows for act in acts if act[0] == "called")
    if word == "work":
        return sum(len(pairs) for _, pairs in rows)
    if word == "show":
        return len(rows)
    if word == "choose":
        return sum(returns_of(row) for _, row in rows)
    return sum(returns_of(row) for row in rows)


def plus(*several):
    total = {}
    for needs in several:
        for name, uses in needs.items():
            total[name] = total.get(name, ()) + uses
    return total


def less(needs, *names):
    return {name: uses for name, uses in needs.items() if name not in names}


def reads(uses, n):
    demand(all(use in (("number", n), ("end", ("number", n))) for use in uses))


class Dealt:
    """Returns, dealt out from left to right."""

    def __init__(self, returns):
        self.left = list(returns)

    def some(self, many):
        demand(many <= len(self.left))
        taken, self.left = self.left[:many], self.left[many:]
        return tuple(taken)


def kid_needs(x, e, kid, use):
    if kid is None:
        demand(use == ("end", ("function",)))
        return {}
    demand(use[0] == "call")
    found = needs_of(e, use[2], kid)
    demand(found.get(x, ()) == use[1])
    return less(found, x)


def needs_of(e, returns, tree):
    """What a rightly built tree needs as a bill of e for returns; NoBillOf if it is none."""
    demand(tree[0] == e[0] and returns_of(tree) == len(returns))
    dealt = Dealt(returns)
    word = e[0]
    if word == "name":
        return {e[1]: returns[0]} if returns[0] else {}
    if word == "number":
        reads(returns[0], e[1])
        return {}
    if word == "fun":
        demand(len(tree[1]) == len(returns[0]))
        return plus(*[kid_needs(e[1], e[2], kid, use) for kid, use in zip(tree[1], returns[0])])
    if word == "keep":
        inner = needs_of(e[2], dealt.some(returns_of(tree[2])), tree[2])
        wanted = inner.get(e[1], ())
        demand(all(use[0] == "enter" or use == ("end", ("kept",)) for use in wanted))
        demand(tuple(use[1] for use in wanted if use[0] == "enter") == tuple(dealt.left))
        return less(inner, e[1])
    if word == "def":
        _, y, x, body, last = e
        found = needs_of(last, returns, tree[2])
        row = list(found.get(y, ()))
        total = less(found, y)
        for kid in tree[1]:
            demand(row)
            inner = kid_needs(x, body, kid, row.pop(0))
            row += inner.get(y, ())
            total = plus(total, less(inner, y))
        demand(not row)
        return total
    wanted = []
    others = []
    if word == "call":
        for l, acts in tree[2]:
            uses = ()
            for act in acts:
                uses += (("call", act[1], dealt.some(act[2])) if act[0] == "called" else ("enter", act[1]),)
            wanted.append(uses)
            others.append(needs_of(e[2], tuple(act[1] for act in acts), l))
    if word == "let":
        for l in tree[2]:
            inner = needs_of(e[3], dealt.some(returns_of(l)), l)
            wanted.append(inner.get(e[1], ()))
            others.append(less(inner, e[1]))
    if word == "open":
        for l in tree[2]:
            inner = needs_of(e[4], dealt.some(returns_of(l)), l)
            wanted.append((("open", inner.get(e[2], ()), inner.get(e[3], ())),))
            others.append(less(inner, e[2], e[3]))
    if word == "choose":
        for n, l in tree[2]:
            others.append(needs_of(e[2] if n != 0 else e[3], dealt.some(returns_of(l)), l))
            wanted.append((("number", n),))
    if word == "work":
        for l, pairs in tree[2]:
            for a, b in pairs:
                result = worked(e[1], a, b)
                demand(max(abs(a), abs(b), abs(result)) < LIMIT)
                reads(dealt.some(1)[0], result)
            wanted.append(tuple(("number", a) for a, _ in pairs))
            others.append(needs_of(e[3], tuple((("number", b),) for _, b in pairs), l))
    if word == "show":
        for n in tree[2]:
            reads(dealt.some(1)[0], n)
            wanted.append((("number", n),))
    if word == "pair":
        for l in tree[2]:
            ones = ()
            second = []
            for uses in dealt.some(returns_of(l)):
                demand(all(use[0] == "open" or use == ("end", ("pair",)) for use in uses))
                opens = [use for use in uses if use[0] == "open"]
                ones += sum([use[1] for use in opens], ())
                second.append(sum([use[2] for use in opens], ()))
            wanted.append(ones)
            others.append(needs_of(e[2], tuple(second), l))
    first = e[2] if word in ("let", "work") else e[1]
    return plus(needs_of(first, tuple(wanted), tree[1]), *others)


def is_bill_of(program, value):
    """Whether a pair of a good end and a rightly built tree is a bill of a program."""
    try:
        return needs_of(program, ((("end", value[0]),),), value[1]) == {}
    except NoBillOf:
        return False
