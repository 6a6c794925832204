"""Code words, and phase polynomials with the fewest odd terms (points 34 and 35)."""

from phasor.errors import TooLarge
from phasor.pauli import bits_of, weight

MAX_CODE_WIDTH = 5


def code_words(width):
    """Returns the ascending list of all code words."""
    _check_width(width)
    words = [0]
    # The code words are all sums of the words of single products of bits.
    for product_mask in range(1 << width):
        if weight(product_mask) <= width - 4:
            member_word = _word_of_product(width, product_mask)
            words = words + [word ^ member_word for word in words]
    return sorted(words)


def _check_width(width):
    if width > MAX_CODE_WIDTH:
        raise TooLarge("the width is more than 5")


def _word_of_product(width, product_mask):
    """Returns the word of the masks in which all bits of the product are set."""
    return word_of([mask for mask in range(1, 1 << width) if mask & product_mask == product_mask])


def word_of(masks):
    """Returns the word whose members are the masks, which are different."""
    return sum([1 << (mask - 1) for mask in masks])


def nearest_word(width, word):
    """Returns the least of the code words that differ from a word in the fewest bits."""
    _check_width(width)
    return min(code_words(width), key=lambda other: (weight(word ^ other), other))


def reduce_polynomial(polynomial):
    """Returns a new phase polynomial with the same operator and the fewest odd terms."""
    _check_width(polynomial.width)
    odd_word = word_of(polynomial.odd_masks())
    members = [bit + 1 for bit in bits_of(nearest_word(polynomial.width, odd_word))]
    # Each odd multiple of the code word leaves the same odd terms.
    results = [_subtracted(polynomial, members, steps) for steps in (1, 3, 5, 7)]
    return min(results, key=lambda result: len(result.terms))


def _subtracted(polynomial, masks, steps):
    """Returns a new phase polynomial with the steps subtracted from those of the masks."""
    result = polynomial.clone()
    for mask in masks:
        result.add_term(mask, -steps)
    return result


def least_t_of_polynomial(polynomial):
    """Returns the least number of T gates of the operator without gates H."""
    return reduce_polynomial(polynomial).odd_count()
