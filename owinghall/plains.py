"""Plain forms: the one standing that is alike to a told one and plain for a house, and the script that leads there."""

from owinghall.floors import floored, products
from owinghall.lendings import lent, need_standing
from owinghall.queues import others, outside, ties_to
from owinghall.tables import adjoint, det, table_among
from owinghall.webs import need_house


def plain(web, standing, house):
    need_standing(web, standing)
    need_house(web, house)
    script = script_out_of_debt(web, standing, house)
    form = lent(web, standing, script)
    group = outside(web, form, house)
    while len(group) > 0:
        script = [many + 1 if other in group else many for other, many in enumerate(script)]
        form = lent(web, standing, script)
        group = outside(web, form, house)
    return (form, script)


def script_out_of_debt(web, standing, house):
    # Lending one by one would take as long as the numbers are great; this comes near the plain form at once.
    rest = others(web, [house])
    table = table_among(web, rest)
    # Rounding down costs a house at most one coin along each tie to the rest, so these are kept back.
    spare = [standing[other] - ties_to(web, other, rest) for other in rest]
    script = floored(products(adjoint(table), spare), det(table))
    script.insert(house, 0)
    return script
