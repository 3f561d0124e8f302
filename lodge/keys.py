"""Keys, their stamps and marks, and the mixing of numbers."""

from lodge.bits import two_to
from lodge.errors import NoKey, NoKeys, Twice

PRIME = 2305843009213693951
GREATEST_NUMBER = 999999999999999999
MOST_SIGNS = 11
MOST_KEYS = 200
MARK_SALT = 3
# A sign's number is one more than its place here, so that no sign at all differs from any.
SIGNS = "abcdefghijklmnopqrstuvwxyz0123456789-_ "


def is_key_text(text):
    return len(text) <= MOST_SIGNS and all([sign in SIGNS for sign in text])


def is_key(thing):
    # Python has True and False as ints; neither stands for a number here.
    if isinstance(thing, bool):
        return False
    if isinstance(thing, int):
        return 0 <= thing <= GREATEST_NUMBER
    return isinstance(thing, str) and is_key_text(thing)


def worth(text):
    total = 0
    for sign in text:
        total = 40 * total + SIGNS.find(sign) + 1
    return total


def stamp(key):
    if not is_key(key):
        raise NoKey(0)
    if isinstance(key, str):
        return 2 * worth(key) + 1
    return 2 * key


def mixed(number, salt, size):
    # A size of 0 is no refusal by itself, and has no remainder.
    if size == 0:
        return 0
    factor = 1 + (1103515245 * salt + 12345) % (PRIME - 1)
    shift = (69069 * salt * salt + 7 * salt) % PRIME
    first = (factor * number + shift) % PRIME
    return (first + first // 2147483648) % size


def mark(key, width):
    return mixed(stamp(key), MARK_SALT, two_to(width))


def look_each_key(keys):
    for place, key in enumerate(keys):
        if not is_key(key):
            raise NoKey(place)


def look_unlike(keys):
    seen = {}
    for place, key in enumerate(keys):
        if key in seen:
            raise Twice(place)
        seen[key] = True


def look_keys(keys):
    if len(keys) == 0 or len(keys) > MOST_KEYS:
        raise NoKeys()
    look_each_key(keys)
    look_unlike(keys)
    return len(keys)
