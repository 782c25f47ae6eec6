"""Short ways to write pieces in tests, and an independent reading of them by Python itself."""

import random

KNOWN_WORDS = ("a", "b", "c")


def num(n):
    return ("number", n)


def name(word):
    return ("name", word)


def plus(one, other):
    return ("sum", one, other)


def less(one, other):
    return ("less", one, other)


def choose(one, two, three):
    return ("choose", one, two, three)


def let(word, one, other):
    return ("let", word, one, other)


def stamp(word, *pieces):
    return ("stamp", word) + pieces


def inner_pieces(piece):
    return [part for part in piece[1:] if isinstance(part, tuple)]


def size(piece):
    many = 0
    waiting = [piece]
    while waiting:
        waiting.extend(inner_pieces(waiting.pop()))
        many += 1
    return many


def depth(piece):
    deepest = 0
    waiting = [(piece, 1)]
    while waiting:
        current, level = waiting.pop()
        deepest = max(deepest, level)
        waiting.extend((part, level + 1) for part in inner_pieces(current))
    return deepest


def as_python(piece):
    """The piece as an expression whose lets are Python's own parameters."""
    kind = piece[0]
    inner = [as_python(part) for part in inner_pieces(piece)]
    if kind == "number":
        return f"({piece[1]})"
    if kind == "name":
        return piece[1]
    if kind == "sum":
        return f"({inner[0]}+{inner[1]})"
    if kind == "less":
        return f"({inner[0]}-{inner[1]})"
    if kind == "choose":
        return f"({inner[1]} if {inner[0]} else {inner[2]})"
    if kind == "let":
        return f"(lambda {piece[1]}:{inner[1]})({inner[0]})"
    return f"[{','.join(inner)}]"


def random_piece(source, levels, stamps):
    kinds = ["number", "name"]
    if levels > 1:
        kinds += ["sum", "less", "choose", "let", "let", "name"] + (["stamp"] if stamps else [])
    kind = source.choice(kinds)
    if kind == "number":
        return num(source.choice((0, 0, 1, -1, 2, -10 ** 119)))
    if kind == "name":
        return name(source.choice(KNOWN_WORDS))
    many = {"sum": 2, "less": 2, "choose": 3, "let": 2}.get(kind, source.randrange(4))
    inner = tuple(random_piece(source, levels - 1, stamps) for _ in range(many))
    if kind == "let":
        return ("let", source.choice(KNOWN_WORDS)) + inner
    if kind == "stamp":
        return ("stamp", source.choice(KNOWN_WORDS)) + inner
    return (kind,) + inner


def random_pieces(seed, many, stamps):
    source = random.Random(seed)
    return [random_piece(source, 1 + count % 6, stamps) for count in range(many)]


def copied_book(book):
    """A book that shares nothing with this one that could be changed."""
    return [(word, list(places), body) for word, places, body in book]


def random_text(source, most, words, stamps):
    """A piece of at most so many pieces, with stamps of these: tuples (word, number of places)."""
    kinds = ["number", "name", "name"]
    if most > 3:
        kinds = ["number", "name", "sum", "less", "choose", "let", "let", "let"]
    fitting = [stamp for stamp in stamps if stamp[1] < most]
    kind = source.choice(kinds + ["stamp"] * 3 if fitting else kinds)
    if kind == "number":
        return num(source.choice((0, 1, 2, -3)))
    if kind == "name":
        return name(source.choice(words))
    if kind == "stamp":
        head, many = source.choice(fitting)
        head = ("stamp", head)
    else:
        many = 3 if kind == "choose" else 2
        head = ("let", source.choice(words)) if kind == "let" else (kind,)
    inner = ()
    left = most - 1
    while len(inner) < many:
        after = many - len(inner) - 1
        inner += (random_text(source, source.randint(1, left - after), words, stamps),)
        left -= size(inner[-1])
    return head + inner


def random_book(source, words, endless):
    """A book of one to three stamps; they only use those that come later, unless it may be endless."""
    uses = [(word, source.randrange(3)) for word in ("s", "t", "x")[:source.randint(1, 3)]]
    book = []
    for at, (word, many) in enumerate(uses):
        within = uses if endless and source.randrange(3) == 0 else uses[at + 1:]
        book.append((word, source.sample(words, many), random_text(source, source.randint(1, 16), words, within)))
    return book, uses
