"""Pieces as lines: shown(piece) is the line, read(line) the piece, or it refuses with NoPiece.

A line is read by steps, the last of which is taken first:
- ("piece",): a piece begins here;
- ("between",): what stands behind the first piece in round brackets tells what they hold;
- ("handed", word, many): many pieces handed to the stamp of that word are read;
- ("sign", sign): this sign stands here;
- ("make", head, many): a piece of this head and of the last pieces that were read, so many.
"""

from stampword.errors import NoPiece
from stampword.words import LETTERS

FIGURES = "0123456789"


def with_commas(pieces):
    sections = []
    for piece in pieces:
        if len(sections) > 0:
            sections.append(",")
        sections.append(piece)
    return sections


def sections_of(piece):
    kind = piece[0]
    if kind == "number":
        return [str(piece[1])]
    if kind == "name":
        return [piece[1]]
    if kind == "sum":
        return ["(", piece[1], "+", piece[2], ")"]
    if kind == "less":
        return ["(", piece[1], "-", piece[2], ")"]
    if kind == "choose":
        return ["(", piece[1], "?", piece[2], ":", piece[3], ")"]
    if kind == "let":
        return ["[", piece[1], "=", piece[2], "]", piece[3]]
    return [piece[1], "{"] + with_commas(piece[2:]) + ["}"]


def shown(piece):
    texts = []
    # A list of what waits instead of calls within calls, so that no depth of a piece is too much.
    waiting = [piece]
    while len(waiting) > 0:
        section = waiting.pop()
        if isinstance(section, str):
            texts.append(section)
        else:
            for inner in reversed(sections_of(section)):
                waiting.append(inner)
    return "".join(texts)


class Reader:
    def __init__(self, line):
        self.line = line
        self.at = 0
        self.steps = [("piece",)]
        self.made = []

    def refuse(self, wanted):
        at = self.at
        raise NoPiece(f"the line is no piece: {wanted} is missing at {at}")

    def skip(self, sign):
        if not self.line.startswith(sign, self.at):
            return False
        self.at += len(sign)
        return True

    def need(self, sign):
        if not self.skip(sign):
            self.refuse(sign)

    def run_of(self, signs):
        begin = self.at
        while self.at < len(self.line) and self.line[self.at] in signs:
            self.at += 1
        return self.line[begin:self.at]

    def read_piece(self):
        word = self.run_of(LETTERS)
        if word != "":
            self.read_behind_word(word)
        elif self.skip("("):
            self.steps.extend([("between",), ("piece",)])
        elif self.skip("["):
            self.read_let()
        else:
            self.read_number()

    def read_behind_word(self, word):
        if not self.skip("{"):
            self.made.append(("name", word))
        elif self.skip("}"):
            self.made.append(("stamp", word))
        else:
            self.steps.extend([("handed", word, 1), ("piece",)])

    def read_let(self):
        word = self.run_of(LETTERS)
        if word == "":
            self.refuse("a word")
        self.need("=")
        self.steps.extend([("make", ("let", word), 2), ("piece",), ("sign", "]"), ("piece",)])

    def read_number(self):
        below = self.skip("-")
        figures = self.run_of(FIGURES)
        if figures == "":
            self.refuse("a piece")
        if figures[0] == "0" and (below or figures != "0"):
            self.refuse("a number that does not begin with nought")
        number = int(figures)
        self.made.append(("number", -number if below else number))

    def read_between(self):
        if self.skip("+"):
            self.steps.extend([("make", ("sum",), 2), ("sign", ")"), ("piece",)])
        elif self.skip("-"):
            self.steps.extend([("make", ("less",), 2), ("sign", ")"), ("piece",)])
        else:
            self.need("?")
            self.steps.extend([("make", ("choose",), 3), ("sign", ")"), ("piece",), ("sign", ":"), ("piece",)])

    def read_behind_handed(self, word, many):
        if self.skip(","):
            self.steps.extend([("handed", word, many + 1), ("piece",)])
        else:
            self.need("}")
            self.make(("stamp", word), many)

    def make(self, head, many):
        inner = []
        while len(inner) < many:
            inner.append(self.made.pop())
        self.made.append(head + tuple(reversed(inner)))

    def take(self, step):
        if step[0] == "piece":
            self.read_piece()
        elif step[0] == "between":
            self.read_between()
        elif step[0] == "handed":
            self.read_behind_handed(step[1], step[2])
        elif step[0] == "sign":
            self.need(step[1])
        else:
            self.make(step[1], step[2])


def read(line):
    reader = Reader(line)
    while len(reader.steps) > 0:
        reader.take(reader.steps.pop())
    if reader.at < len(line):
        reader.refuse("its end")
    return reader.made.pop()
