"""Ranges of places (from, the place behind it) and pieces (place, bytes), in order; those that touch are one."""


def with_span(spans, start, stop):
    """The spans with one more among them."""
    before = [span for span in spans if span[1] < start]
    behind = [span for span in spans if span[0] > stop]
    for span in spans[len(before):len(spans) - len(behind)]:
        start = min(start, span[0])
        stop = max(stop, span[1])
    return before + [(start, stop)] + behind


def spans_above(spans, place):
    return [span for span in spans if span[1] > place]


def past_span(spans, place):
    """The end of the span that has this place, else the place itself."""
    for span in spans:
        if span[0] <= place < span[1]:
            return span[1]
    return place


def up_to_span(spans, place, most):
    """How far it is from a place to the next span, at most as given."""
    for span in spans:
        if span[0] > place:
            return min(most, span[0] - place)
    return most


def piece_end(piece):
    return piece[0] + len(piece[1])


def laid_over(piece, under):
    """One piece of two that touch; where both have a byte, the first one's stays."""
    ahead = under[1][:max(0, piece[0] - under[0])]
    rest = under[1][max(0, piece_end(piece) - under[0]):]
    return (min(piece[0], under[0]), ahead + piece[1] + rest)


def with_piece(pieces, place, data):
    """The pieces with one more among them; what's there stays."""
    added = (place, data)
    before = [piece for piece in pieces if piece_end(piece) < place]
    behind = [piece for piece in pieces if piece[0] > place + len(data)]
    for piece in pieces[len(before):len(pieces) - len(behind)]:
        added = laid_over(piece, added)
    return before + [added] + behind
