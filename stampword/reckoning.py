"""The number of a piece without stamps: reckoned(piece, known).

known is a dict with the numbers of outside names by their words. Where one comes to be reckoned
of which no number is known, it is refused with NoName.

A step is a tuple (stage, piece, known). At "begin" nothing of the piece is reckoned yet. At "end"
the numbers that it needs first lie last in numbers: both of a sum or less, else that of its one.
"""

from stampword.errors import NoName
from stampword.pieces import with_word


def number_of_name(word, known):
    if word not in known:
        raise NoName(f"no number is known of the name {word}")
    return known[word]


def needed_first(piece):
    kind = piece[0]
    if kind == "sum" or kind == "less":
        return [piece[1], piece[2]]
    if kind == "choose":
        return [piece[1]]
    return [piece[2]]


def begin(piece, known, steps, numbers):
    kind = piece[0]
    if kind == "number":
        numbers.append(piece[1])
    elif kind == "name":
        numbers.append(number_of_name(piece[1], known))
    else:
        steps.append(("end", piece, known))
        # The last step is taken first, and the first piece is to be reckoned first.
        for part in reversed(needed_first(piece)):
            steps.append(("begin", part, known))


def end(piece, known, steps, numbers):
    kind = piece[0]
    last = numbers.pop()
    if kind == "sum":
        numbers.append(numbers.pop() + last)
    elif kind == "less":
        numbers.append(numbers.pop() - last)
    elif kind == "choose":
        chosen = piece[3] if last == 0 else piece[2]
        steps.append(("begin", chosen, known))
    else:
        steps.append(("begin", piece[3], with_word(known, piece[1], last)))


def reckoned(piece, known):
    numbers = []
    # A list of steps instead of calls within calls, so that no depth of a piece is too much.
    steps = [("begin", piece, known)]
    while len(steps) > 0:
        step = steps.pop()
        if step[0] == "begin":
            begin(step[1], step[2], steps, numbers)
        else:
            end(step[1], step[2], steps, numbers)
    return numbers.pop()
