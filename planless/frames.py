"""Places cut out of pieces, and pieces put into frames."""

from planless.errors import BadFrame, Misfit
from planless.pieces import Hole, check_piece, is_frame, place_at, ways
from planless.places import check_size


def check_frame(frame):
    """Raise the error for what is no frame."""
    if not is_frame(frame):
        raise BadFrame("frame")


def hole_ways(frame):
    """Return the ways to the holes of a frame."""
    check_frame(frame)
    return tuple([way for way in ways(frame) if isinstance(place_at(frame, way), Hole)])


def has_hands(frame, piece):
    """Tell whether the holes of a frame are for the hands of a piece."""
    return frame.hole_sizes == ((piece.keeper_hands, piece.rival_hands),)


def with_holes_filled(place, piece):
    """Return a place with the piece for each of its holes."""
    if isinstance(place, Hole):
        return piece
    if len(place.hole_sizes) == 0:
        return place
    return place.with_parts([with_holes_filled(part, piece) for part in place.parts])


def made_whole(frame, piece):
    """Return a frame filled with a piece that fits, if it is not too great."""
    # Places are counted ahead: within the whole a place might be told for its levels first.
    many = frame.many + len(hole_ways(frame)) * (piece.many - 1)
    check_size(many, frame.levels)
    return with_holes_filled(frame, piece)


def filled(frame, piece):
    """Return the frame filled with a piece."""
    check_frame(frame)
    check_piece(piece, "piece")
    if not has_hands(frame, piece):
        raise Misfit("piece")
    return made_whole(frame, piece)


def replaced_at(place, way, part):
    """Return a place with a part in the place of what stands at a way."""
    if len(way) == 0:
        return part
    parts = [replaced_at(below, way[1:], part) if at == way[0] else below
             for at, below in enumerate(place.parts)]
    return place.with_parts(parts)


def cut(piece, way):
    """Return the frame that is left, and the place that is cut out at a way."""
    check_piece(piece, "piece")
    found = place_at(piece, way)
    return replaced_at(piece, way, Hole(found.keeper_hands, found.rival_hands)), found


def exchanged(piece, way, other):
    """Return the piece with another one in the place of what stands at a way."""
    frame, _ = cut(piece, way)
    check_piece(other, "other")
    if not has_hands(frame, other):
        raise Misfit("other")
    return made_whole(frame, other)
