"""Programs for the tests: those of the document, some by hand, and many made by a seed."""

import random

LETTERS = "abcdefgh"


def name(x):
    return ("name", x)


def number(n):
    return ("number", n)


def call(e, f):
    return ("call", e, f)


TWICE = ("open", ("keep", "k", ("pair", number(3), name("k"))), "v", "p", (
    "choose", ("work", "same", name("v"), number(3)),
    call(name("p"), ("pair", number(8), number(0))), name("v")))
ENTERED = ("keep", "k", call(name("k"), number(5)))
ENDLESS = ("def", "y", "x", call(name("y"), name("x")), call(name("y"), number(0)))
STUCK = call(number(1), number(2))


def loop(many, last):
    """A run that enters one kept place many times, and ends with last."""
    again = call(name("p"), ("pair", ("work", "minus", name("v"), number(1)), name("p")))
    return ("open", ("keep", "k", ("pair", number(many), name("k"))), "v", "p", ("choose", name("v"), again, last))


def counted_down(many, last):
    """A run that calls a function of itself many times, and ends with last."""
    again = call(name("y"), ("work", "minus", name("x"), number(1)))
    return ("def", "y", "x", ("choose", name("x"), again, last), call(name("y"), number(many)))


def summed(many):
    """The sum of the numbers up to many, by calls that are not in a last place."""
    again = ("work", "plus", name("x"), call(name("y"), ("work", "minus", name("x"), number(1))))
    return ("def", "y", "x", ("choose", name("x"), again, number(0)), call(name("y"), number(many)))


def chained(many, last=number(0)):
    """A row of shows, each of which is one step more."""
    e = last
    for _ in range(many):
        e = ("show", e)
    return e


BY_HAND = [
    TWICE, ENTERED, number(7), ("fun", "x", name("x")), ("pair", number(1), number(2)), ("keep", "k", name("k")),
    ("keep", "k", number(4)), ("keep", "k", ("let", "a", call(name("k"), number(1)), number(2))),
    ("show", ("show", number(9))), loop(0, number(5)), loop(3, number(5)), loop(4, ("pair", name("v"), name("p"))),
    counted_down(0, number(1)), counted_down(5, name("y")), summed(4), summed(0),
    ("let", "f", ("fun", "x", name("x")), call(call(name("f"), name("f")), number(3))),
    ("let", "f", ("fun", "x", ("pair", name("x"), name("x"))), (
        "open", call(name("f"), ("fun", "z", ("show", name("z")))), "a", "b",
        ("work", "plus", call(name("a"), number(1)), call(name("b"), number(2))))),
    # A place that is kept in a function, and entered when the function has returned.
    ("let", "f", ("fun", "x", ("keep", "k", ("pair", name("x"), name("k")))), (
        "open", call(name("f"), number(2)), "n", "p", (
            "choose", name("n"), call(name("p"), ("pair", number(0), number(0))), number(6)))),
    # Names that hide one another.
    ("let", "x", number(1), ("let", "x", ("work", "plus", name("x"), name("x")), ("show", name("x")))),
    ("fun", "x", ("fun", "x", name("x"))),
    ("def", "y", "x", ("fun", "y", name("y")), call(call(name("y"), number(1)), number(2))),
    # Both parts of a pair are made again when the place in them is entered.
    ("open", ("pair", ("keep", "j", name("j")), ("keep", "k", name("k"))), "a", "b", ("pair", name("a"), name("b"))),
    ("let", "r", ("keep", "k", ("pair", name("k"), number(2))), (
        "open", name("r"), "p", "n", (
            "choose", name("n"), call(name("p"), ("pair", name("p"), ("work", "minus", name("n"), number(1)))),
            ("pair", name("r"), name("r"))))),
]


def random_type(r, row):
    if row == 0 or r.random() < 0.45:
        return "n"
    chance = r.random()
    if chance < 0.4:
        return ("p", random_type(r, row - 1), random_type(r, row - 1))
    if chance < 0.75:
        return ("f", random_type(r, row - 1), random_type(r, row - 1))
    return ("k", random_type(r, row - 1))


def bind(around, *new):
    names = [x for x, _ in new]
    return [pair for pair in around if pair[0] not in names] + list(new)


def small(r, sort, around):
    """An expression of a sort that is as small as can be."""
    if sort == "n":
        return number(r.randint(-2, 5))
    if sort[0] == "p":
        return ("pair", small(r, sort[1], around), small(r, sort[2], around))
    if sort[0] == "f":
        return ("fun", "x", small(r, sort[2], bind(around, ("x", sort[1]))))
    places = [x for x, other in around if other[0] == "k"]
    return name(r.choice(places)) if places else ("keep", "k", name("k"))


def choices(sort, around, row):
    """The ways in which an expression of a sort can be made, some of them several times."""
    found = ["name"] * 3 if sort in [other for _, other in around] else []
    if sort == "n":
        found += ["number"] * 2
    if row == 0:
        return found
    found += ["let", "open", "choose", "call", "keep", "keep", "def", "loop"]
    found += ["work", "work", "show"] if sort == "n" else []
    found += [{"p": "pair", "f": "fun"}[sort[0]]] * 3 if sort[0] in "pf" else []
    found += ["enter"] * 3 if any(other[0] == "k" for _, other in around) else []
    return found


def made(r, sort, around, row):
    """An expression of a sort by the choices of r; now and then one of another sort."""
    if r.random() < 0.02:
        sort = random_type(r, 1)
    ways = choices(sort, around, row)
    if not ways:
        return small(r, sort, around)
    way = r.choice(ways)
    row -= 1
    x, y, z = r.sample(LETTERS, 3)
    one, other = random_type(r, 1), random_type(r, 1)
    if way == "name":
        return name(r.choice([found for found, sort_found in around if sort_found == sort]))
    if way == "number":
        return number(r.randint(-2, 5))
    if way == "pair":
        return ("pair", made(r, sort[1], around, row), made(r, sort[2], around, row))
    if way == "fun":
        return ("fun", x, made(r, sort[2], bind(around, (x, sort[1])), row))
    if way == "let":
        return ("let", x, made(r, one, around, row), made(r, sort, bind(around, (x, one)), row))
    if way == "open":
        inner = bind(around, (x, one), (y, other))
        return ("open", made(r, ("p", one, other), around, row), x, y, made(r, sort, inner, row))
    if way == "choose":
        return ("choose", made(r, "n", around, row), made(r, sort, around, row), made(r, sort, around, row))
    if way == "call":
        return call(made(r, ("f", one, sort), around, row), made(r, one, around, row))
    if way == "keep":
        return ("keep", x, made(r, sort, bind(around, (x, ("k", sort))), row))
    if way == "work":
        word = r.choice(["plus", "minus", "times", "less", "same"])
        return ("work", word, made(r, "n", around, row), made(r, "n", around, row))
    if way == "show":
        return ("show", made(r, "n", around, row))
    if way == "enter":
        place, taken = r.choice([(found, other) for found, other in around if other[0] == "k"])
        return call(name(place), made(r, taken[1], around, row))
    if way == "loop":
        return made_loop(r, sort, around, row, (x, y, z))
    return made_def(r, sort, around, row, (x, y, z), one)


def wrapped(r, sort, e, around, row):
    """An expression as it is, or in a let whose last part may do something else."""
    if r.random() < 0.4:
        return e
    z = r.choice(LETTERS)
    return ("let", z, e, made(r, sort, bind(around, (z, sort)), row))


def made_loop(r, sort, around, row, names):
    v, p, k = names
    inner = bind(around, (v, "n"), (p, ("k", ("p", "n", "n"))))
    again = call(name(p), ("pair", ("work", "minus", name(v), number(1)), name(p)))
    if r.random() < 0.3:
        again = wrapped(r, sort, again, inner, row)
    kept = ("pair", number(r.randint(0, 3)), r.choice([name(k), name(k), ("fun", "z", call(name(k), name("z")))]))
    return ("open", ("keep", k, kept), v, p, ("choose", name(v), again, made(r, sort, inner, row)))


def made_def(r, sort, around, row, names, one):
    y, x, z = names
    inside = bind(around, (y, ("f", "n", one)), (x, "n"))
    again = call(name(y), ("work", "minus", name(x), number(1)))
    body = ("choose", name(x), wrapped(r, one, again, bind(around, (x, "n")), row), made(r, one, inside, row))
    last = made(r, sort, bind(around, (y, ("f", "n", one))), row)
    if r.random() < 0.7:
        started = call(name(y), number(r.randint(0, 4)))
        last = ("let", z, started, made(r, sort, bind(around, (z, one)), row))
    return ("def", y, x, body, last)


def random_programs(seed, many, is_program):
    """So many programs, made by the seed, parts of some of which were put into other places."""
    r = random.Random(seed)
    found = []
    while len(found) < many:
        e = made(r, random_type(r, 2), [], r.randint(1, 4))
        for _ in range(r.randint(0, 3)):
            changed = mixed(r, e)
            e = changed if is_program(changed) else e
        if is_program(e):
            found.append(e)
    return found


def paths_of(e):
    return [()] + [(at,) + path for at, part in enumerate(e) if isinstance(part, tuple) for path in paths_of(part)]


def part_of(e, path):
    for at in path:
        e = e[at]
    return e


def exchanged_at(e, path, part):
    """A tuple with part in the place to which path leads."""
    if not path:
        return part
    at = path[0]
    return e[:at] + (exchanged_at(e[at], path[1:], part),) + e[at + 1:]


def mixed(r, e):
    """An expression with one of its parts in the place of another one."""
    return exchanged_at(e, r.choice(paths_of(e)), part_of(e, r.choice(paths_of(e))))


def variants(value):
    """Values near a value: one thing in it changed, left out, doubled or put in another kind."""
    if isinstance(value, tuple):
        for at, item in enumerate(value):
            for other in variants(item):
                yield value[:at] + (other,) + value[at + 1:]
            yield value[:at] + value[at + 1:]
            yield value[:at] + (item,) + value[at:]
        if len(value) > 1 and value[0] != value[-1]:
            yield value[:-2] + (value[-1], value[-2])
        yield list(value)
        yield value + (None,)
        yield ()
    elif isinstance(value, str):
        yield value + "x"
        yield {"name": "number", "number": "name", "called": "entered", "entered": "called"}.get(value, "let")
    elif value is None:
        yield ("name",)
        yield 0
    else:
        yield value + 1
        yield value - 1
        yield bool(value) if value in (0, 1) else None
        yield str(value)


def of_steps(many):
    """A program whose run has just so many steps, 17 at least."""
    rounds, more = divmod(many - 3 - 1 - 2, 7)
    if more == 0:
        rounds, more = rounds - 1, 7
    return counted_down(rounds, chained(more - 1))


IDENTITY = ("fun", "x", name("x"))


def doubling(many):
    """A program whose bill has about twice as many tuples if many is one more."""
    e = IDENTITY
    for _ in range(many - 1):
        e = call(e, IDENTITY)
    return call(e, number(0))


def tuples_in(value):
    """How many tuples there are in a value, itself among them, each as often as it stands."""
    return 1 + sum(tuples_in(item) for item in value if isinstance(item, tuple))


def of_tuples(many, bill):
    """A program whose bill has just so many tuples, 60 at least; bill tells those of smaller ones."""
    e = number(0)
    left = many - tuples_in(bill(e))
    for size in reversed(range(1, 12)):
        inner = doubling(size)
        more = tuples_in(bill(("let", "z", inner, number(0)))) - tuples_in(bill(number(0)))
        while left - more >= 8:
            e = ("let", "z", inner, e)
            left -= more
    while left > 0:
        inner, more = (number(0), 3) if left % 5 else (("show", number(0)), 5)
        e = ("let", "z", inner, e)
        left -= more
    return e


def counting(r):
    """A pair of a number and a place that is entered again until the number is 0."""
    return ("keep", "k", ("pair", number(r.randint(1, 3)), name("k")))


def entering_functions(r, argument):
    """A call whose first part returns a function again and again, and whose second part is begun each time."""
    again = call(name("k"), call(name("g"), ("work", "minus", name("n"), number(1))))
    made = ("def", "g", "n", ("fun", "z", ("choose", name("n"), again, ("work", "plus", name("z"), name("n")))), (
        call(name("g"), number(r.randint(0, 3)))))
    return call(("keep", "k", made), argument)


def plain_part(r):
    """A number, told in one of several ways."""
    n = number(r.randint(0, 4))
    return r.choice([n, n, ("show", n), call(IDENTITY, n), entering_functions(r, n), entering_functions(r, ("show", n)),
                     ("keep", "h", call(name("h"), n)), ("work", "plus", n, ("show", n))])


def many_returns(r, row):
    """An expression that returns pairs as counting does, with other expressions that are returned to each time."""
    if row == 0:
        return counting(r)
    inner = many_returns(r, row - 1)
    n = plain_part(r)
    x, y = r.sample("abcdef", 2)
    some = ("work", "plus", name(y), name(y))
    return r.choice([
        ("open", ("pair", inner, n), x, y, name(x)), ("open", ("pair", n, inner), y, x, name(x)),
        ("open", ("pair", inner, n), x, y, ("let", "u", some, name(x))), ("open", ("pair", n, inner), y, x, ("let", "u", some, name(x))),
        call(IDENTITY, inner), call(("fun", x, ("let", y, n, name(x))), inner), call(("fun", y, inner), n), ("let", x, inner, name(x)),
        ("let", x, inner, ("open", name(x), "v", "p", ("pair", name("v"), name("p")))), ("choose", n, inner, counting(r)),
        ("open", inner, "v", "p", ("pair", ("show", name("v")), name("p"))), ("keep", "j", inner), ("keep", "j", call(name("j"), inner)),
        ("def", y, x, inner, call(name(y), n)), call(("let", y, n, ("fun", x, name(x))), inner), ("let", y, n, inner),
        call(call(("fun", x, ("fun", y, name(x))), inner), n), ("open", ("pair", inner, inner), x, y, name(r.choice([x, y]))),
    ])


def returning_programs(seed, many, is_program):
    """So many programs whose parts return many times, used in another way each time."""
    r = random.Random(seed)
    found = []
    while len(found) < many:
        again = call(name("p"), ("pair", ("work", "minus", name("v"), number(1)), name("p")))
        last = r.choice([name("v"), number(7), ("show", name("v")), ("pair", name("v"), name("p")), name("p"), IDENTITY])
        e = ("open", many_returns(r, r.randint(0, 4)), "v", "p", ("choose", name("v"), again, last))
        e = r.choice([e, e, ("let", "w", e, ("pair", name("w"), name("w"))), call(("fun", "w", name("w")), e)])
        if is_program(e):
            found.append(e)
    return found
