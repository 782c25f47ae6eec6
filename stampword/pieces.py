"""What is in a piece, and what its words mean.

parts(piece) are the pieces straight within a piece, a tuple in the order of their places.
every_piece(piece) is a list of the piece itself and of all pieces within it, in whatever order.
outside_names(piece) are the words of its outside names, each once, a list in the order of texts.
with_word(words, word, value) is a dict of words as it is within a let of one more.
"""


def parts(piece):
    kind = piece[0]
    if kind == "number" or kind == "name":
        return ()
    if kind == "let" or kind == "stamp":
        return piece[2:]
    return piece[1:]


def every_piece(piece):
    found = []
    # A list of what waits instead of calls within calls, so that no depth of a piece is too much.
    waiting = [piece]
    while len(waiting) > 0:
        current = waiting.pop()
        found.append(current)
        waiting.extend(parts(current))
    return found


def with_word(words, word, value):
    # A copy: what is handed in stays as it is, and beside a let the words mean what they did.
    more = dict(words)
    more[word] = value
    return more


def pieces_with_lets(piece, lets):
    # Only a let's other is within the let: a name in its one belongs to a let further out, or to none.
    if piece[0] == "let":
        return [(piece[3], with_word(lets, piece[1], True)), (piece[2], lets)]
    return [(part, lets) for part in parts(piece)]


def outside_names(piece):
    found = {}
    waiting = [(piece, {})]
    while len(waiting) > 0:
        pair = waiting.pop()
        current = pair[0]
        lets = pair[1]
        if current[0] == "name" and current[1] not in lets:
            found[current[1]] = True
        waiting.extend(pieces_with_lets(current, lets))
    return sorted(found)
