"""Words: their letters, and words that nothing else has.

numbered_word(number) is a word for each number from nought on, the short ones first.
FreshWords(taken), with a list of words, gives by fresh(word) a word that is none of these and that it
has not given yet: that very word where it can be, else one that it makes.
"""

LETTERS = "abcdefghijklmnopqrstuvwxyz"


def numbered_word(number):
    word = LETTERS[number % len(LETTERS)]
    rest = number // len(LETTERS)
    while rest > 0:
        word = LETTERS[(rest - 1) % len(LETTERS)] + word
        rest = (rest - 1) // len(LETTERS)
    return word


class FreshWords:
    def __init__(self, taken):
        self.taken = {}
        for word in taken:
            self.taken[word] = True
        self.tried = 0

    def fresh(self, word):
        free = word
        while free in self.taken:
            free = numbered_word(self.tried)
            self.tried += 1
        self.taken[free] = True
        return free
