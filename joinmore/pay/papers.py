"""Papers of sharings: a mixture of few orders, or a group that leaves."""

from joinmore.base.gaps import check_growing
from joinmore.base.ratios import common_divisor, fraction
from joinmore.base.rows import sums
from joinmore.base.sets import without
from joinmore.pay.bounds import tight_of
from joinmore.pay.mixtures import is_mixture
from joinmore.pay.pays import pay_of
from joinmore.pay.sharings import check_sharing, leaving_of, slacks_of


def paper(game, sharing):
    """A paper of a sharing: a mixture by which it is told, or a group that leaves it."""
    check_sharing(game, sharing)
    check_growing(game)
    groups = leaving_of(game, 1, sharing)
    if groups:
        return ("leaves", groups[0])
    return ("mixture", weights_for(game, sharing))


def is_paper(game, sharing, value):
    """Whether the value is a paper of the sharing."""
    check_sharing(game, sharing)
    if not isinstance(value, tuple) or len(value) != 2:
        return False
    word, shown = value
    if word == "mixture":
        return is_mixture(game, sharing, shown) and len(shown) <= len(game)
    return word == "leaves" and shown in leaving_of(game, 1, sharing)


def weights_for(game, sharing):
    """Weights by which a kept sharing of a growing game is the mixture, found as [7.1] tells."""
    spot, factor = sharing, 1
    pairs, rest = [], 1
    # The spot is to be told by `rest` of all weights; when nothing is left for it, all is told.
    while rest > 0:
        order = _order_at(game, factor, spot)
        here, beyond, spot, factor = _passed(game, factor, spot, pay_of(game, order))
        pairs = [(told, weight * (here + beyond)) for told, weight in pairs] + [(order, rest * here)]
        rest = rest * beyond
    divisor = common_divisor([weight for _, weight in pairs])
    return tuple(sorted([(order, weight // divisor) for order, weight in pairs]))


def _order_at(game, factor, spot):
    """An order whose pay gives all groups that are tight at the spot what they have there."""
    order = ()
    # Of the least tight groups, one in another, each one comes behind the one before it.
    for group in sorted(tight_of(game, factor, spot), key=len):
        if not without(order, group):
            order = order + without(group, order)
    return order


def _passed(game, factor, spot, told):
    """The last kept sharing on the way from a pay through the spot, and the weights of both that mix to the spot."""
    away = [number - factor * share for number, share in zip(spot, told)]
    slacks = slacks_of(game, factor, spot)
    limits = [(left, -change) for left, change in zip(slacks, sums(away)) if change < 0]
    if not limits:
        return 1, 0, spot, factor
    here, beyond = _least(limits)
    # At the limit, spot + away * here / beyond, another group is tight.
    numbers = [beyond * number + here * step for number, step in zip(spot, away)]
    divisor = common_divisor(numbers + [beyond * factor])
    return here, beyond, tuple([number // divisor for number in numbers]), beyond * factor // divisor


def _least(fractions):
    """The least one of some fractions, without a common divisor."""
    least = fractions[0]
    for above, below in fractions:
        if above * least[1] < least[0] * below:
            least = (above, below)
    return fraction(least[0], least[1])
