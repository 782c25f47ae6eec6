"""Whether stamps are used as the book has them: check_stamps(book, piece).

It refuses with NoStamp, for the text and for every body, also for those that are never used.
stamps_by_word(book) is a dict of the book's stamps.
"""

from stampword.errors import NoStamp
from stampword.pieces import every_piece, parts


def stamps_by_word(book):
    stamps = {}
    for stamp in book:
        stamps[stamp[0]] = stamp
    return stamps


def check_use(stamps, use):
    word = use[1]
    if word not in stamps:
        raise NoStamp(f"the book has no stamp {word}")
    handed = len(parts(use))
    places = len(stamps[word][1])
    if handed != places:
        raise NoStamp(f"the stamp {word} has {places} places and is used with {handed} pieces")


def check_piece(stamps, piece):
    for current in every_piece(piece):
        if current[0] == "stamp":
            check_use(stamps, current)


def check_stamps(book, piece):
    stamps = stamps_by_word(book)
    check_piece(stamps, piece)
    for stamp in book:
        check_piece(stamps, stamp[2])
