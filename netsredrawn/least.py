"""The weight of a deed, and the least of all deeds that are alike to a whole one."""

from netsredrawn.deeds import need_deed
from netsredrawn.homes import need_whole
from netsredrawn.moving import short_deed
from netsredrawn.walkedforms import least_forms, weight_of


def weight(deed):
    """The weight of the deed."""
    return weight_of(need_deed(deed))


def least_rows(deed):
    """The least deed of a whole deed, with words of any length."""
    return min([key for key, _ in least_forms(deed)])[2]


def least_deed(deed):
    """The least deed of a whole deed."""
    return short_deed(least_rows(need_whole(deed)))
