"""Tables and releases as texts, and back."""

from mistgrid.errors import NoText
from mistgrid.ladders import is_ladder
from mistgrid.tables import MOST_LADDERS, MOST_ROWS, are_secrets, is_coarsening, is_key, is_row

# A number of nine figures may be one of ten at a level.
MOST_FIGURES = 10


def show_table(table):
    """The text of the table."""
    ladders, rows = table
    shown = [_ladder_words(ladder) for ladder in ladders]
    shown.extend([["row", *publics, secret] for publics, secret in rows])
    return _text_of(shown)


def read_table(text):
    """The table whose text this is, or NoText."""
    return _read(text, ((), ()), _table_with)


def show_release(release):
    """The text of the release."""
    levels, groups = release
    shown = [["levels", *levels]]
    shown.extend([[*key, ":", *secrets] for key, secrets in groups])
    return _text_of(shown)


def read_release(ladders, text):
    """The release for the ladders whose text this is, or NoText."""
    return _read(text, (), lambda release, words: _release_with(ladders, release, words))


def _ladder_words(ladder):
    kind, parts = ladder
    if kind == "num":
        return [kind, *parts]
    return [kind] + [f"{name}>{above}" for name, above in parts]


def _text_of(rows):
    return "".join([" ".join([str(word) for word in words]) + "\n" for words in rows])


def _read(text, nothing, with_row):
    """What the rows make, one added after another; with_row tells None where one cannot be added."""
    rows = text.split("\n")
    # Behind the last line feed there is no row, or one that has no end.
    ended = rows[-1] == ""
    if ended:
        rows.pop()
    told = nothing
    for number, row in enumerate(rows, 1):
        told = with_row(told, row.split(" "))
        if told is None:
            raise NoText(number)
    if not ended or len(rows) == 0:
        raise NoText(len(rows) + 1)
    return told


def _table_with(table, words):
    """The table with one ladder or row more, or None."""
    ladders, rows = table
    if words[0] == "row":
        row = (_parts_of(words[1:-1]), words[-1])
        if len(ladders) == 0 or len(rows) == MOST_ROWS or not is_row(ladders, row):
            return None
        return ladders, rows + (row,)
    ladder = _ladder_of(words)
    if len(ladders) == MOST_LADDERS or len(rows) > 0 or not is_ladder(ladder):
        return None
    return ladders + (ladder,), rows


def _ladder_of(words):
    """What the words of a ladder's row say, be it a ladder or not."""
    kind, *parts = words
    if kind == "num":
        return kind, _parts_of(parts)
    return kind, tuple([tuple(part.split(">")) for part in parts])


def _release_with(ladders, release, words):
    """The release with its levels or one group more, or None."""
    if len(release) == 0:
        levels = _parts_of(words[1:])
        if words[0] != "levels" or not is_coarsening(ladders, levels):
            return None
        return levels, ()
    levels, groups = release
    group = _group_of(ladders, levels, words)
    if group is None or len(groups) > 0 and group[0] <= groups[-1][0]:
        return None
    return levels, groups + (group,)


def _group_of(ladders, levels, words):
    """The key and the secrets of a group's row, or None."""
    many = len(ladders)
    key, colon, secrets = _parts_of(words[:many]), words[many:many + 1], tuple(words[many + 1:])
    if colon != [":"] or not is_key(ladders, levels, key) or not are_secrets(secrets):
        return None
    return key, secrets


def _parts_of(words):
    return tuple([_part_of(word) for word in words])


def _part_of(word):
    """The number that the word is, or the word itself where it is none that is rightly written."""
    figures = word.removeprefix("-")
    if len(figures) > MOST_FIGURES or not all("0" <= figure <= "9" for figure in figures):
        return word
    if figures == "" or figures.startswith("0") and word != "0":
        return word
    return int(word)
