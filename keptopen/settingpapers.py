"""Papers by which a switched hall can be kept, or not."""

from keptopen.oddparts import odd_parts
from keptopen.settings import bits_with_odds


def settings_paper(web, odds):
    """Any paper: bits whose odd chests are odds, or an odd part."""
    parts = odd_parts(web, odds)
    if parts:
        return ("sum", parts[0])
    return ("set", bits_with_odds(web, odds))
