"""What all fits have in common: holds that are surely flooded, and bounds of weights, moments and heights."""
from dryholds.errors import NoFit
from dryholds.fits import filling_in
from dryholds.lots import check_place
from dryholds.postures import line_row
from dryholds.ratios import greatest_of, is_whole, least_of, plus, times


def check_fits(fits):
    """Refuses to tell anything of no fits."""
    if not fits:
        raise NoFit()


def surely_flooded(fits):
    """The holds that are flooded in every fit."""
    check_fits(fits)
    return tuple([hold for hold in fits[0].lot if all([hold in fit.lot for fit in fits])])


def possibly_flooded(fits):
    """The holds that are flooded in some fit."""
    check_fits(fits)
    return tuple(sorted(set([hold for fit in fits for hold in fit.lot])))


def weight_range(fits):
    """The least and the greatest weight of a cargo of any fit."""
    check_fits(fits)
    return _range_of([weight for fit in fits for weight, _ in fit.corners])


def moment_range(fits):
    """The least and the greatest moment of a cargo of any fit."""
    check_fits(fits)
    return _range_of([moment for fit in fits for _, moment in fit.corners])


def height_range(ship, fits, place):
    """The least and the greatest height of the line at a place."""
    check_place(place)
    check_fits(fits)
    heights = []
    for fit in fits:
        p, q, r = line_row(ship, fit.lot, place)
        heights.extend([plus(plus(times(p, weight), times(q, moment)), r) for weight, moment in fit.corners])
    return _range_of(heights)


def _range_of(ratios):
    return (least_of(ratios), greatest_of(ratios))


def fitting_damages(fits):
    """The unlike damages of the fits, in order."""
    check_fits(fits)
    damages = []
    for fit in fits:
        if fit.damage not in damages:
            damages.append(fit.damage)
    return tuple(damages)


def two_fillings(fits, hold):
    """A filling with a hold flooded and one without it, None if the hold is flooded in every fit or in none."""
    check_fits(fits)
    flooded = [fit for fit in fits if _has(fit, hold)]
    others = [fit for fit in fits if not _has(fit, hold)]
    if not flooded or not others:
        return None
    return tuple([filling_in(fit, fit.corners[0]) for fit in (flooded[0], others[0])])


def _has(fit, hold):
    """Whether a hold, a thing of any kind, is flooded in a fit."""
    return is_whole(hold) and hold in fit.lot
