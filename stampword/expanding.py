"""What stamps leave: expanded(book, piece, fuel).

A spot is a tuple (piece, home, path, names). The piece is written in the body of the stamp home, or in
the text where home is the empty text, and path leads to it there. names tells what the words of names
mean at that spot; a word that it does not have is an outside name's. A meaning is one of
- ("called", word): the name belongs to a let which is called word in what is left;
- ("handed", spot): it stands for a piece handed in, in which there are stamps to be opened;
- ("ready", number): it stands for a piece handed in, in which there are none.

What is left is first told by rows, in the order of the sources:
- ("row", head, many, source): a piece of this head and of so many pieces, whose rows follow;
- ("ready", number): all that a piece handed in leaves, whose own rows are ready[number].
What rows tell is written out as a tuple (piece, sources).
"""

from stampword.checking import check_stamps, stamps_by_word
from stampword.pieces import every_piece, outside_names, parts, with_word
from stampword.words import FreshWords


def all_outside_names(book, piece):
    words = outside_names(piece)
    for stamp in book:
        words.extend(outside_names(stamp[2]))
    return words


def spots_within(spot):
    return [(part, spot[1], spot[2] + (place,), spot[3]) for place, part in enumerate(parts(spot[0]))]


def has_stamps_to_open(spot):
    for piece in every_piece(spot[0]):
        if piece[0] == "stamp":
            return True
    for word in outside_names(spot[0]):
        if word in spot[3] and spot[3][word][0] == "handed":
            return True
    return False


def row_at(spot, head, many):
    return ("row", head, many, (spot[1], spot[2]))


class Opening:
    def __init__(self, book, piece, fuel):
        self.stamps = stamps_by_word(book)
        # No let that is left may catch an outside name, wherever that one is written.
        self.lets = FreshWords(all_outside_names(book, piece))
        self.fuel = fuel
        self.many = 0
        self.ready = []

    def rows_of(self, spot):
        rows = []
        # A list of what waits instead of calls within calls, so that no depth of a piece is too much.
        waiting = [spot]
        while len(waiting) > 0 and self.many <= self.fuel:
            self.take(waiting.pop(), waiting, rows)
        return rows

    def take(self, spot, waiting, rows):
        kind = spot[0][0]
        if kind == "stamp":
            self.many += 1
            waiting.append(self.body_of(spot))
        elif kind == "name":
            self.take_name(spot, waiting, rows)
        elif kind == "let":
            self.take_let(spot, waiting, rows)
        else:
            self.take_plain(spot, waiting, rows)

    def body_of(self, spot):
        stamp = self.stamps[spot[0][1]]
        names = {}
        for place, handed in zip(stamp[1], spots_within(spot)):
            names[place] = self.meaning_of(handed)
        return (stamp[2], stamp[0], (), names)

    def meaning_of(self, handed):
        if has_stamps_to_open(handed):
            return ("handed", handed)
        # Such a piece may be used so often within one another that what is left grows past all bounds
        # before too many stamps are opened: only its rows are made here.
        self.ready.append(self.rows_of(handed))
        return ("ready", len(self.ready) - 1)

    def take_name(self, spot, waiting, rows):
        word = spot[0][1]
        meaning = spot[3].get(word, ("called", word))
        if meaning[0] == "handed":
            waiting.append(meaning[1])
        elif meaning[0] == "ready":
            rows.append(meaning)
        else:
            rows.append(row_at(spot, ("name", meaning[1]), 0))

    def take_let(self, spot, waiting, rows):
        own = spot[0][1]
        word = self.lets.fresh(own)
        inner = spots_within(spot)
        other = inner[1]
        rows.append(row_at(spot, ("let", word), 2))
        waiting.append((other[0], other[1], other[2], with_word(spot[3], own, ("called", word))))
        waiting.append(inner[0])

    def take_plain(self, spot, waiting, rows):
        piece = spot[0]
        inner = spots_within(spot)
        rows.append(row_at(spot, piece[:len(piece) - len(inner)], len(inner)))
        # The last that waits is taken first, and the rows of the first piece come first.
        for part in reversed(inner):
            waiting.append(part)


def piece_of(rows, written):
    made = []
    # From the last row on, so that the pieces within a piece are made before it, its first one last.
    for row in reversed(rows):
        if row[0] == "ready":
            made.append(written[row[1]][0])
        else:
            inner = []
            while len(inner) < row[2]:
                inner.append(made.pop())
            made.append(row[1] + tuple(inner))
    return made.pop()


def sources_of(rows, written):
    sources = []
    for row in rows:
        if row[0] == "ready":
            sources.extend(written[row[1]][1])
        else:
            sources.append(row[3])
    return sources


def write_out(rows, written):
    return (piece_of(rows, written), sources_of(rows, written))


def expanded(book, piece, fuel):
    check_stamps(book, piece)
    opening = Opening(book, piece, fuel)
    rows = opening.rows_of((piece, "", (), {}))
    if opening.many > fuel:
        return ("more",)
    written = []
    # Rows that are ready tell of others only that were ready before them.
    for earlier in opening.ready:
        written.append(write_out(earlier, written))
    left = write_out(rows, written)
    return ("done", left[0], left[1], opening.many)
