"""Webs as texts."""

from fencewright.errors import NoText
from fencewright.webs import is_web, need_web

_FIGURES = "0123456789"
_MOST_FIGURES = 30


def _shown_step(step):
    return " ".join([str(word) for word in step])


def _shown_row(row):
    return "; ".join([_shown_step(step) for step in row])


def shown(web):
    """The web as a text."""
    return " | ".join([_shown_row(row) for row in need_web(web)])


def _read_number(word):
    # None stands for a word that is not just what is written of a number: no step has it.
    figures = word.removeprefix("-")
    # The length is looked at first, as Python itself refuses to read very long numbers.
    if not 1 <= len(figures) <= _MOST_FIGURES or not all([sign in _FIGURES for sign in figures]):
        return None
    if figures.startswith("0") and word != "0":
        return None
    return int(word)


def _read_step(text):
    words = text.split(" ")
    return tuple(words[:1] + [_read_number(word) for word in words[1:]])


def _read_row(text):
    if text == "":
        return []
    return [_read_step(part) for part in text.split("; ")]


def read(text):
    """The web that is written so; NoText if the text is not just what is written of some web."""
    if not isinstance(text, str):
        raise NoText("this is no text")
    web = [_read_row(part) for part in text.split(" | ")]
    if not is_web(web):
        raise NoText("no web is written so")
    return web
