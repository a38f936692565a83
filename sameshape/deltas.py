"""Deltas, which describe elements by slices of given contents and single new elements."""

from sameshape.errors import DeltaTooLarge, InvalidPiece
from sameshape.limits import check_count
from sameshape.recipes import copied, is_copy

MOST_PAIRS = 100000


def piece_length(piece):
    """Return how many elements a piece describes."""
    return piece[3] - piece[2] if piece[0] == "copy" else 1


def is_piece(piece, bases):
    """Return True if a piece is valid, otherwise False."""
    return piece[0] == "insert" or (piece_length(piece) > 0 and is_copy(piece, bases))


def apply_delta(delta, bases):
    """Return the contents that a delta describes."""
    for place, piece in enumerate(delta):
        if not is_piece(piece, bases):
            raise InvalidPiece(place)
    check_count(sum([piece_length(piece) for piece in delta]))
    found = []
    for piece in delta:
        found.extend(copied(piece, bases) if piece[0] == "copy" else (piece[1],))
    return tuple(found)


def agreeing(contents, place, base, start):
    """Return how many elements of the contents from an index on agree with those of a base from another one on."""
    most = min(len(contents) - place, len(base) - start)
    many = 0
    while many < most and contents[place + many] == base[start + many]:
        many += 1
    return many


def piece_at(contents, place, bases):
    """Return the first piece for the elements from an index on."""
    best = ("insert", contents[place])
    most = 0
    for number, base in enumerate(bases):
        for start in range(len(base)):
            many = agreeing(contents, place, base, start)
            if many > most:
                best = ("copy", number, start, start + many)
                most = many
    return best


def find_delta(contents, bases):
    """Return the delta that is found for the contents."""
    if len(contents) * sum([len(base) for base in bases]) > MOST_PAIRS:
        raise DeltaTooLarge()
    found = []
    place = 0
    while place < len(contents):
        piece = piece_at(contents, place, bases)
        found.append(piece)
        place = place + piece_length(piece)
    return tuple(found)
