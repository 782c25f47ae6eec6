"""Whether two pieces without stamps are the same but for words of lets: same_but_words(one, other).

A pair is a tuple (one, other, words of one, words of other). The words are dicts with the number of
the let that a name of that word belongs to; two lets in the same place have the same number.
"""

from stampword.pieces import parts, with_word


def same_by_itself(pair):
    one = pair[0]
    other = pair[1]
    if one[0] != other[0]:
        return False
    if one[0] == "number":
        return one[1] == other[1]
    if one[0] == "name":
        # An outside name is its own word, which is no let's number.
        return pair[2].get(one[1], one[1]) == pair[3].get(other[1], other[1])
    return True


def pairs_within(pair, number):
    one = pair[0]
    other = pair[1]
    if one[0] == "let":
        words = with_word(pair[2], one[1], number)
        other_words = with_word(pair[3], other[1], number)
        return [(one[2], other[2], pair[2], pair[3]), (one[3], other[3], words, other_words)]
    return [(mine, yours, pair[2], pair[3]) for mine, yours in zip(parts(one), parts(other))]


def same_but_words(one, other):
    seen = 0
    # A list of what waits instead of calls within calls, so that no depth of a piece is too much.
    waiting = [(one, other, {}, {})]
    while len(waiting) > 0:
        pair = waiting.pop()
        if not same_by_itself(pair):
            return False
        seen += 1
        waiting.extend(pairs_within(pair, seen))
    return True
