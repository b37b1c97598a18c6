"""Segments, paths, folders, and the patterns that match paths."""

SEGMENT_STARTS = "abcdefghijklmnopqrstuvwxyz0123456789"
SEGMENT_SIGNS = "abcdefghijklmnopqrstuvwxyz0123456789_-."
LONGEST_SEGMENT = 20
MOST_SEGMENTS = 5
MOST_STARS = 3


def is_segment(text):
    """Whether a text is a segment."""
    if text == "" or len(text) > LONGEST_SEGMENT:
        return False
    if text[0] not in SEGMENT_STARTS:
        return False
    return all([sign in SEGMENT_SIGNS for sign in text])


def is_path(text):
    """Whether a text is a path."""
    segments = text.split("/")
    if len(segments) > MOST_SEGMENTS:
        return False
    return all([is_segment(segment) for segment in segments])


def is_folder(text):
    """Whether a text is a folder: the empty one or a path."""
    return text == "" or is_path(text)


def lies_in(path, folder):
    """Whether a path lies in a folder."""
    return folder == "" or path.startswith(folder + "/")


def collide(path, other):
    """Whether two paths cannot stand in one tree: they are equal, or one lies in the other."""
    return path == other or lies_in(path, other) or lies_in(other, path)


def put_behind(folder, path):
    """Return a path with a folder and a `/` in front (the empty folder adds nothing)."""
    if folder == "":
        return path
    return folder + "/" + path


def rest_behind(folder, path):
    """Return what stands behind a folder in a path that lies in it."""
    if folder == "":
        return path
    return path[len(folder) + 1:]


def is_pattern(text):
    """Whether a text is a pattern."""
    pieces = text.split("/")
    if len(pieces) > MOST_SEGMENTS:
        return False
    return all([is_piece(piece) for piece in pieces])


def is_piece(text):
    """Whether a text is a piece of a pattern (`**` is one by its characters, too)."""
    if text == "" or len(text) > LONGEST_SEGMENT:
        return False
    if text.count("*") > MOST_STARS:
        return False
    return all([sign == "*" or sign in SEGMENT_SIGNS for sign in text])


def matches(pattern, path):
    """Whether a pattern matches a path."""
    return match_segments(pattern.split("/"), path.split("/"))


def match_segments(pieces, segments):
    """Whether the pieces of a pattern, as a list, match all of a list of segments."""
    if pieces == []:
        return segments == []
    rest = pieces[1:]
    if pieces[0] == "**":
        return any([match_segments(rest, segments[taken:]) for taken in range(len(segments) + 1)])
    if segments == [] or not match_piece(pieces[0], segments[0]):
        return False
    return match_segments(rest, segments[1:])


def match_piece(piece, segment):
    """Whether a piece other than `**` matches a segment."""
    parts = piece.split("*")
    if len(parts) == 1:
        return piece == segment
    first = parts[0]
    last = parts[-1]
    if not segment.startswith(first) or not segment.endswith(last):
        return False
    at = len(first)
    end = len(segment) - len(last)
    # A part between two stars is taken where it comes first: this leaves the most for the others.
    for part in parts[1:-1]:
        found = segment.find(part, at)
        if found < 0:
            return False
        at = found + len(part)
    return at <= end
