"""An entry's target in the tags of a segment that is asked for."""

from ferrymemory.rows import CHARACTER, CLOSE
from ferrymemory.tags import form_of, tags_of


def tags_alone(pieces):
    return [piece for piece in pieces if piece[0] != CHARACTER]


def renamed(pieces, tags, others):
    """The pieces with each number of the tags renamed to the one that stands at its place in the others."""
    names = {}
    for tag, other in zip(tags, others):
        names[tag[1]] = other[1]
    return [piece if piece[0] == CHARACTER else (piece[0], names[piece[1]]) for piece in pieces]


def around_characters(pieces, asked):
    """The characters alone, between the tags of a row that is asked for."""
    halves = [(CLOSE, number) for number in tags_of(asked).left_halves]
    characters = [piece for piece in pieces if piece[0] == CHARACTER]
    others = [tag for tag in tags_alone(asked.pieces) if tag not in halves]
    return halves + characters + others


def target_for(asked, segment, target):
    """The pieces of an entry's target in the tags of the row that is asked for; they may be too many for a row."""
    tags = tags_alone(segment.pieces)
    others = tags_alone(asked.pieces)
    if form_of(tags) == form_of(others):
        return renamed(target.pieces, tags, others)
    return around_characters(target.pieces, asked)
