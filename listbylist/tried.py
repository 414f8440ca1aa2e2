"""Least and greatest ones, found by going through all sortings."""
from listbylist.alls import sortings_in
from listbylist.books import ties_of
from listbylist.stepping import need_both


def tie_bits(book):
    """For each tie a bit of its own."""
    return {tie: 1 << k for k, tie in enumerate(ties_of(book))}


def mask_in(bits, sorting):
    """The mask of the ties that the sorting turns."""
    return sum([bits[tie] for tie in sorting])


def least_ones(book, sorting, other):
    """The ascending tuple of the sortings above both that are above no other sorting above both."""
    need_both(book, sorting, other)
    bits = tie_bits(book)
    needed = mask_in(bits, sorting) | mask_in(bits, other)
    pairs = [(mask_in(bits, one), one) for one in sortings_in(book)]
    above = [mask for mask, _ in pairs if mask & needed == needed]
    least = [mask for mask in above if not any([less & mask == less and less != mask for less in above])]
    return tuple([one for mask, one in pairs if mask in least])


def greatest_ones(book, sorting, other):
    """The ascending tuple of the sortings beneath both that are beneath no other sorting beneath both."""
    need_both(book, sorting, other)
    bits = tie_bits(book)
    allowed = mask_in(bits, sorting) & mask_in(bits, other)
    pairs = [(mask_in(bits, one), one) for one in sortings_in(book)]
    beneath = [mask for mask, _ in pairs if mask & allowed == mask]
    greatest = [mask for mask in beneath if not any([mask & more == mask and more != mask for more in beneath])]
    return tuple([one for mask, one in pairs if mask in greatest])
