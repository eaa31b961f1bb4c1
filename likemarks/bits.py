"""Some places of a row as one number, the bit of each place set: so many are met at once."""

from likemarks.rows import places


def bits_at(marks):
    """Tell these places as bits."""
    bits = 0
    for place in marks:
        bits |= 1 << place
    return bits


def letter_bits(text):
    """Tell by a dict at which places each letter of a text stands."""
    found = {}
    for place, letter in enumerate(text):
        found[letter] = found.get(letter, 0) | (1 << place)
    return found


def bits_of(row, word):
    """Tell all places that lie in some stretch of a word; 0 where it stands nowhere."""
    stretch = (1 << len(word)) - 1
    bits = 0
    for place in places(row, word):
        bits |= stretch << place
    return bits


def places_in(bits):
    """List the places, rising."""
    return [place for place in range(bits.bit_length()) if bits & (1 << place) != 0]
