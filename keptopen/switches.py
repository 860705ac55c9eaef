"""Switched gates as objects: a web, and the chests with an odd sum."""

from keptopen.errors import NotUsable
from keptopen.hiding import switched_family
from keptopen.oddparts import least_switched, odd_parts
from keptopen.settingchecker import chests_in_one, lets_settings
from keptopen.settingpapers import settings_paper
from keptopen.settings import many_settings, odds_of, require_way, some_settings
from keptopen.switched import right_settings, switched_hall
from keptopen.usable import require_chest, require_odds, require_web


class Switches:
    """A web and a set of its chests, which never changes."""

    def __init__(self, web, odds):
        require_web(web)
        require_odds(web, odds)
        self._web = web
        self._odds = odds

    @property
    def web_now(self):
        """The web."""
        return self._web

    @property
    def odds_now(self):
        """The set of the chests whose settings have an odd sum."""
        return self._odds

    def hall_made(self):
        """The switched hall."""
        return switched_hall(self._web, self._odds)

    def parts_odd(self):
        """The odd parts of the web, ascending."""
        return odd_parts(self._web, self._odds)

    def least_m(self):
        """The least m for which there are rows that catch, None if there is none."""
        return least_switched(self._web, self._odds)

    def many_bits(self):
        """How many bits there are whose odd chests are these."""
        return many_settings(self._web, self._odds)

    def solved(self):
        """Any bits whose odd chests are these, None if there are none."""
        return some_settings(self._web, self._odds)

    def paper(self):
        """Any paper by which the switched hall can be kept, or not."""
        return settings_paper(self._web, self._odds)

    def judged(self, thing):
        """Whether the switched hall can be kept, by a paper."""
        return lets_settings(self._web, self._odds, thing)

    def kept_for(self, m, lots):
        """A family for m of the switched hall with one odd chest, by a thicket for m."""
        if len(self._odds) != 1:
            raise NotUsable("odds", -1)
        return switched_family(self._web, self._odds[0], m, lots)

    def moved(self, way):
        """The Switches in which both ends of a way are turned, one after the other."""
        require_way(self._web, way)
        # The ends of a ring are one chest, which is turned twice.
        ends = () if way[0] == way[-1] else (way[0], way[-1])
        return Switches(self._web, chests_in_one(self._odds, ends))

    def __call__(self, bits):
        return chests_in_one(self._odds, odds_of(self._web, bits))

    def __getitem__(self, at):
        require_chest(self._web, at)
        return right_settings(self._web, self._odds, at)

    def __contains__(self, x):
        return x in self._odds

    def __len__(self):
        return len(self._odds)

    def __iter__(self):
        return iter(self._odds)

    def __eq__(self, other):
        return isinstance(other, Switches) and self._web == other._web and self._odds == other._odds

    def __add__(self, other):
        require_chest(self._web, other)
        return Switches(self._web, chests_in_one(self._odds, (other,)))
