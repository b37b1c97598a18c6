"""Labels: the names of targets, with the folders in which they are made."""

from truemill.paths import is_folder, is_segment


def label_of(folder, name):
    """Return the label of a target of a folder."""
    return "//" + folder + ":" + name


def is_label(text):
    """Whether a text is a label."""
    if not text.startswith("//"):
        return False
    folder, _, name = text[2:].partition(":")
    return is_folder(folder) and is_segment(name)


def full_label(folder, text):
    """Return the label that a text stands for in a folder: `:name` is a target of this folder."""
    if text.startswith(":"):
        return label_of(folder, text[1:])
    return text
