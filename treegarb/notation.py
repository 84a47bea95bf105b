"""The text of lists of selectors."""

from treegarb.errors import BadSelector
from treegarb.selectors import EVERY_NUMBER, check_list

LINK_TEXTS = {"child": " > ", "inside": " ", "next": " + ", "after": " ~ "}
LINK_SIGNS = {">": "child", "+": "next", "~": "after"}
ANY_KIND = "*"
DIGITS = "0123456789"


def _test_text(test):
    """Return the text of a test."""
    asked, name = test
    return f"!{name}" if asked == "kind" else f"!.{name}"


def _part_text(part):
    """Return the text of a part."""
    kind, marks, nots, step, first = part
    words = [ANY_KIND if kind is None else kind]
    words.extend([f".{mark}" for mark in marks])
    words.extend([_test_text(test) for test in nots])
    if (step, first) != EVERY_NUMBER:
        words.append(f":{step}+{first}")
    return "".join(words)


def _selector_text(selector):
    """Return the text of a selector."""
    parts, links = selector
    words = [_part_text(parts[0])]
    for link, part in zip(links, parts[1:]):
        words.append(LINK_TEXTS[link])
        words.append(_part_text(part))
    return "".join(words)


def selectors_text(selectors):
    """Return the text of a list of selectors."""
    return ", ".join([_selector_text(selector) for selector in selectors])


def _read_test(text):
    """Return the test whose text stands behind a `!`."""
    if text.startswith("."):
        return ("mark", text[1:])
    return ("kind", text)


def _read_pair(text):
    """Return the step and the first of a part, or -1 for what is no digit."""
    if len(text) != 3:
        raise BadSelector()
    return (DIGITS.find(text[0]), DIGITS.find(text[2]))


def _read_part(text):
    """Return what the text of a part may stand for."""
    described, colon, pair = text.partition(":")
    named, *tested = described.split("!")
    kind, *marks = named.split(".")
    nots = [_read_test(word) for word in tested]
    step, first = EVERY_NUMBER if colon == "" else _read_pair(pair)
    return (None if kind == ANY_KIND else kind, tuple(marks), tuple(nots), step, first)


def _read_selector(text):
    """Return what the text of a selector may stand for."""
    parts = []
    links = []
    link = "inside"
    for word in text.split(" "):
        if word in LINK_SIGNS:
            link = LINK_SIGNS[word]
        else:
            parts.append(_read_part(word))
            links.append(link)
            link = "inside"
    # No link stands before the first part.
    return (tuple(parts), tuple(links[1:]))


def parse_selectors(text):
    """Return the list of selectors with this text, or raise BadSelector if there is none."""
    if not isinstance(text, str):
        raise BadSelector()
    if text == "":
        return ()
    found = check_list(tuple([_read_selector(word) for word in text.split(", ")]))
    # Reading passes over a sign at an end, two signs in a row, a pair that is
    # not to be written and the like: the text of the list itself tells.
    if selectors_text(found) != text:
        raise BadSelector()
    return found
