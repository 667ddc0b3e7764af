"""Values of words: tuples between ( and ), dicts between { and }, names, integers, yes, no and none."""

from joinmore.base.names import is_name
from joinmore.text.words import is_number

MAX_DEPTH = 8
_WORDS = {"yes": True, "no": False, "none": None}
_CLOSING = {")": "(", "}": "{"}


def value_of(words):
    """A tuple of the one value that the words tell, or () if they tell none."""
    opened = []
    found = [[]]
    for word in words:
        if word in ("(", "{"):
            opened.append(word)
            found.append([])
            if len(opened) > MAX_DEPTH:
                return ()
            continue
        if word not in _CLOSING:
            told = _single(word)
        elif opened and opened.pop() == _CLOSING[word]:
            told = _closed(word, found.pop())
        else:
            return ()
        if not told:
            return ()
        found[-1].append(told[0])
    if opened or len(found[0]) != 1:
        return ()
    return (found[0][0],)


def _single(word):
    """A tuple of the value that one word tells, or ()."""
    if word in _WORDS:
        return (_WORDS[word],)
    if is_number(word):
        return (int(word),)
    if word.startswith("=") and is_name(word[1:]):
        return (word[1:],)
    return ()


def _closed(word, parts):
    """A tuple of the tuple or dict that has these parts, or ()."""
    if word == ")":
        return (tuple(parts),)
    keys = parts[::2]
    if len(parts) % 2 == 1 or not all([_is_key(key) for key in keys]):
        return ()
    made = {key: value for key, value in zip(keys, parts[1::2])}
    # Of equal keys, such as 1 and True, a dict has only one.
    if len(made) < len(keys):
        return ()
    return (made,)


def _is_key(value):
    """Whether the value has no dict in it."""
    if isinstance(value, tuple):
        return all([_is_key(part) for part in value])
    return not isinstance(value, dict)
