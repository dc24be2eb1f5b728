"""Tests of origins and searching."""

import itertools
import random
import unittest
import unittest.mock

from common import NO_INTEGERS, OTHERS, random_joined_net
from deed_common import APART, HOMELESS, NAMED, after_slowly, done_slowly, fault_slowly, moved_slowly, patched_deed
from netsredrawn.books import script_deed
from netsredrawn.coursing import need_few
from netsredrawn.errors import BadDeed, BadNet, BadNumber, BadScript, NotJoined, NotWhole, TooGreat
from netsredrawn.homes import is_whole_deed
from netsredrawn.least import least_deed
from netsredrawn.named import bundle, grid, ring, solid
from netsredrawn.nets import beside
from netsredrawn.origins import net_origins, net_roots, origins
from netsredrawn.renamings import are_alike_deeds
from netsredrawn.searching import least_book, left_out, scripts_of_cells, shortest_script
from netsredrawn.sequence import script_of
from netsredrawn.shapes import least_net
from netsredrawn.sources import deed_sources, sources

SAME, FLIP, HALF, TWIN, MIDDLE, CUT = (NAMED[name] for name in ("same", "flip", "half", "twin", "middle", "cut"))
TWIST, WHEEL = NAMED["twist"], NAMED["wheel"]
SPHERE = ((1, 0, 3, 2), (2, 3, 0, 1), (2, 3, 0, 1))


class Told(unittest.TestCase):

    def told(self, error, attribute, call, *values):
        with self.assertRaises(error) as caught:
            call(*values)
        return getattr(caught.exception, attribute)


def courses_up_to(book, most):
    return [course for many in range(most + 1) for course in itertools.product(range(len(book)), repeat=many)]


def deed_of(book, course):
    """What a course does, or None if it is too great for a deed."""
    deed = SAME
    for number in course:
        deed = after_slowly(deed, book[number])
        if len(deed[0]) > 48 or fault_slowly(deed) is not None:
            return None
    return deed


def least_of(book, most):
    """The least deeds of all courses of so few numbers, each with the first of its courses."""
    found = {}
    for course in courses_up_to(book, most):
        deed = deed_of(book, course)
        if deed is not None:
            found.setdefault(least_deed(deed), course)
    return found


BOOKS = [(HALF,), (FLIP, HALF), (HALF, FLIP), (MIDDLE, FLIP), (CUT, FLIP, MIDDLE), (WHEEL, HALF), (TWIST, FLIP),
         (SAME, TWIN, HALF), (HALF, HALF, FLIP)]


class OriginsTest(Told):

    def test_origins_of_scripts(self):
        for book in BOOKS:
            for course in courses_up_to(book, 3):
                deed = deed_of(book, course)
                if len(deed[0]) > 8:
                    continue
                told = origins(book, deed)
                found = dict(told)
                self.assertEqual([least for least, _ in told], sorted(found))
                self.assertEqual(len(found), len(told))
                self.assertEqual(found[least_deed(deed)], ())
                for least, way in told:
                    self.assertEqual(least_deed(least), least)
                    self.assertTrue(are_alike_deeds(script_of((least,) + tuple(book[number] for number in way)), deed))
                # Whatever the last deeds of the course do, what was done ahead is an origin.
                for at in range(len(course) + 1):
                    least = least_deed(deed_of(book, course[:at]))
                    self.assertIn(least, found)
                    self.assertLessEqual((len(found[least]), found[least]), (len(course) - at, course[at:]))

    def test_all_origins(self):
        # All that lead there in one step, and again, are found one by one.
        for book, deed in (((FLIP, HALF), script_of((HALF, FLIP, HALF))), ((MIDDLE, FLIP), script_of((MIDDLE, MIDDLE))),
                           ((CUT, TWIST), script_of((TWIST, CUT))), ((HALF, TWIN), script_of((TWIN, HALF)))):
            ways = {least_deed(deed): ()}
            level = dict(ways)
            while level:
                further = {}
                for least, way in level.items():
                    for number, each in enumerate(book):
                        for source in deed_sources(each, least):
                            if source not in ways:
                                further[source] = min(further.get(source, (9,) * 9), (number,) + way)
                ways.update(further)
                level = further
            self.assertEqual(dict(origins(book, deed)), ways)

    def test_known_origins(self):
        self.assertEqual(origins((HALF,), SAME), ((SAME, ()),))
        self.assertEqual(origins((HALF,), HALF), tuple(sorted(((least_deed(HALF), ()), (SAME, (0,))))))
        turns = (FLIP, TWIST)
        told = dict(origins(turns, SAME))
        self.assertEqual(sorted(told), sorted(least_deed(NAMED[name]) for name in (
            "same", "flip", "twist", "spin", "wheel", "unwheel")))
        self.assertEqual((told[SAME], told[FLIP], told[TWIST]), ((), (0,), (1,)))
        self.assertEqual(sorted(told.values(), key=len)[-1], (0, 1, 0))

    def test_net_origins(self):
        rng = random.Random(1)
        for book in BOOKS:
            for course in rng.sample(courses_up_to(book, 3), min(8, len(courses_up_to(book, 3)))):
                net = random_joined_net(rng, 4 * rng.randint(1, 3))
                made = [net]
                for number in course:
                    made.append(done_slowly(book[number], made[-1]))
                if len(made[-1][0]) > 200:
                    continue
                told = net_origins(book, made[-1])
                found = dict(told)
                self.assertEqual([form for form, _ in told], sorted(found))
                self.assertEqual(found[least_net(made[-1])], ())
                for at, each in enumerate(made):
                    way = found[least_net(each)]
                    self.assertLessEqual((len(way), way), (len(course) - at, course[at:]))
                for form, way in told:
                    self.assertEqual(least_net(form), form)
                    again = form
                    for number in way:
                        again = done_slowly(book[number], again)
                    self.assertEqual(least_net(again), least_net(made[-1]))
                roots = [(form, way) for form, way in told if not any(
                    len(source[0]) < len(form[0]) for deed in book for source, _ in sources(deed, form))]
                self.assertEqual(net_roots(book, made[-1]), tuple(roots))
                self.assertTrue(roots)

    def test_known_roots(self):
        self.assertEqual([(len(form[0]), way) for form, way in net_roots((HALF,), ring(8))], [(4, (0, 0, 0))])
        self.assertEqual(net_roots((HALF,), ring(6)), ((least_net(ring(3)), (0,)),))
        self.assertEqual(net_roots((MIDDLE,), solid("octa")), ((least_net(solid("tetra")), (0,)),))
        told = net_origins((FLIP,), solid("cube"))
        self.assertEqual(dict(told), {least_net(solid("cube")): (), least_net(solid("octa")): (0,)})
        self.assertEqual(net_roots((FLIP,), solid("cube")), told)
        self.assertEqual(net_origins((CUT,), bundle(1)), ((least_net(bundle(1)), ()),))
        # A torus of four by four squares is the middle of one with half as many, and this one again.
        self.assertEqual({len(form[0]) for form, _ in net_origins((MIDDLE, FLIP), grid(4, 4))}, {128, 64, 32, 16, 8})

    def test_great_ones(self):
        rng = random.Random(2)
        kinds = {True: 0, False: 0}
        while min(kinds.values()) < 2:
            deed = patched_deed(rng, 24, 8)
            if is_whole_deed(deed):
                great = is_great(deed)
                kinds[great] += 1
                calls = [lambda: origins((FLIP,), deed), lambda: shortest_script((FLIP,), deed),
                         lambda: left_out((FLIP, deed)), lambda: least_book((FLIP, deed))]
                for call in calls:
                    if great:
                        self.assertEqual(self.told(TooGreat, "most", call), 60)
                if not great and not is_great(after_slowly(deed, FLIP), False):
                    self.assertEqual(dict(origins((FLIP,), deed))[least_deed(deed)], ())
                    self.assertIsNone(shortest_script((FLIP,), deed))
                    self.assertEqual(least_book((FLIP, deed)), (0, 1))

    def test_very_many(self):
        # No deed with more than 200 origins is known here, so the limit is looked at by itself.
        book = (FLIP, TWIST, HALF, TWIN, MIDDLE)
        counts = {}
        for course in ((2,) * 5, (4,) * 5, (2, 4, 2, 4), (2, 3, 4, 2, 3)):
            told = origins(book, deed_of(book, course))
            counts[len(told)] = True
            self.assertEqual(len(told) % 3, 0)
        self.assertGreater(max(counts), 30)
        need_few([0] * 200)
        self.assertEqual(self.told(TooGreat, "most", need_few, [0] * 201), 200)
        deed, net = deed_of(book, (2,) * 5), ring(16)
        for call, thing in ((origins, deed), (net_origins, net)):
            many = len(call(book, thing))
            with unittest.mock.patch("netsredrawn.coursing.MOST_ORIGINS", many):
                self.assertEqual(len(call(book, thing)), many)
            with unittest.mock.patch("netsredrawn.coursing.MOST_ORIGINS", many - 1):
                self.assertEqual(self.told(TooGreat, "most", call, book, thing), many - 1)
                if call is origins:
                    self.assertEqual(self.told(TooGreat, "most", shortest_script, book, thing), many - 1)

    def test_deeds_in_any_order(self):
        # Of two deeds of which either may be done first the lesser number stands first.
        twice = deed_of((HALF,), (0, 0))
        thrice = deed_of((HALF,), (0, 0, 0))
        for book, course in (((HALF, twice), (0, 1)), ((twice, HALF), (0, 1))):
            self.assertEqual(shortest_script(book, thrice), course)
            self.assertEqual(dict(origins(book, thrice))[SAME], course)
            self.assertEqual(dict(scripts_of_cells(book, 8))[least_deed(thrice)], course)
            self.assertEqual(dict(net_origins(book, ring(8)))[least_net(ring(1))], course)

    def test_wrong_values(self):
        calls = [origins, shortest_script, net_origins, net_roots, lambda book, _: left_out(book),
                 lambda book, _: least_book(book), lambda book, _: scripts_of_cells(book, 0)]
        for call in calls:
            for value in OTHERS + [(), (HALF,) * 9, [HALF], "half"]:
                if value != ((),):
                    self.assertIsNone(self.told(BadScript, "place", call, value, None))
            for wrong in (None, APART, HOMELESS, (HALF,), list(HALF), "half"):
                self.assertEqual(self.told(BadScript, "place", call, (FLIP, HALF, wrong, None), None), 2)
        for call in (origins, shortest_script):
            for value in OTHERS + [HALF[:2], list(HALF)]:
                self.assertEqual(self.told(BadDeed, "word", call, (HALF,), value), "form")
            for deed in (APART, HOMELESS):
                with self.assertRaises(NotWhole):
                    call((HALF,), deed)
        for call in (net_origins, net_roots):
            for value in OTHERS + [SPHERE[:2], list(SPHERE)]:
                self.assertEqual(self.told(BadNet, "word", call, (HALF,), value), "form")
            self.assertEqual(self.told(NotJoined, "flag", call, (HALF,), beside(SPHERE, SPHERE)), 4)


def is_great(deed, whole=True):
    """Whether the least deed has words that are too long to be told."""
    if not whole and fault_slowly(deed) is not None:
        return True
    try:
        least_deed(deed)
    except TooGreat:
        return True
    return False


class SearchingTest(Told):

    def test_shortest_scripts(self):
        none = 0
        for book in BOOKS:
            found = least_of(book, 3)
            for least, course in found.items():
                if len(least[0]) <= 16:
                    self.assertEqual(shortest_script(book, least), course)
            for other in (HALF, CUT, NAMED["spin"], MIDDLE):
                told = shortest_script(book, other)
                if told is None:
                    none += 1
                    self.assertNotIn(least_deed(other), found)
                else:
                    self.assertTrue(are_alike_deeds(script_deed(book, told), other))
        self.assertGreater(none, 3)
        self.assertEqual(shortest_script((FLIP, HALF), TWIN), (0, 1, 0))
        self.assertEqual(shortest_script((HALF,), SAME), ())
        moved = moved_slowly(HALF, ["01", "2"])
        self.assertEqual(shortest_script((CUT, moved), HALF), (1,))

    def test_scripts_of_cells(self):
        for book in BOOKS:
            found = least_of(book, 4)
            for many in (1, 2, 3, 4):
                told = scripts_of_cells(book, many)
                self.assertEqual([least for least, _ in told], sorted(least for least, _ in told))
                for least, course in told:
                    self.assertEqual((len(least[0]), least_deed(least)), (many, least))
                    self.assertEqual(least_deed(script_deed(book, course)), least)
                    if len(course) <= 4:
                        self.assertEqual(found[least], course)
                short = {least for least, course in told if len(course) <= 4}
                self.assertEqual(short, {least for least in found if len(least[0]) == many})
        self.assertEqual(scripts_of_cells((HALF,), 1), ((SAME, ()),))
        self.assertEqual(scripts_of_cells((HALF,), 3), ())
        self.assertEqual([course for _, course in scripts_of_cells((HALF,), 32)], [(0,) * 5])
        self.assertEqual(sorted(course for _, course in scripts_of_cells((HALF, CUT), 6)), [(0, 1), (1, 0)])

    def test_too_many_of_cells(self):
        book = (FLIP, HALF, MIDDLE, CUT)
        told = {}
        for many in (2, 4, 6, 8, 12, 16, 24):
            try:
                told[many] = len(scripts_of_cells(book, many))
            except TooGreat as error:
                self.assertEqual(error.most, 200)
                told[many] = None
        # Those of 1, 2, 4, 8 and 16 cells together are more than two hundred; those up to 12 are not.
        self.assertEqual(told[2], 6)
        self.assertEqual([many for many in told if told[many] is None], [16, 24])
        divisors = sum(len(scripts_of_cells(book, many)) for many in (1, 2, 3, 4, 6, 12))
        self.assertLessEqual(divisors, 200)

    def test_scripts_of_long_words(self):
        rng = random.Random(3)
        kinds = {True: 0, False: 0}
        while min(kinds.values()) < 1:
            deed = patched_deed(rng, 24, 8)
            if is_whole_deed(deed):
                great = is_great(deed)
                kinds[great] += 1
                if great:
                    self.assertEqual(self.told(TooGreat, "most", scripts_of_cells, (deed,), 24), 60)
                    self.assertEqual(self.told(TooGreat, "most", scripts_of_cells, (deed,), 48), 60)
                    self.assertEqual(scripts_of_cells((deed,), 47), ())
                    self.assertEqual(scripts_of_cells((deed,), 12), ())
                else:
                    self.assertEqual(scripts_of_cells((deed,), 24), ((least_deed(deed), (0,)),))

    def test_left_out(self):
        self.assertEqual(left_out((FLIP, HALF, TWIN)), ((1, (0, 2, 0)), (2, (0, 1, 0))))
        self.assertEqual(left_out((HALF, HALF, SAME)), ((0, (1,)), (1, (0,)), (2, ())))
        self.assertEqual(left_out((HALF, CUT)), ())
        for book in BOOKS + [(SAME,), (FLIP, NAMED["spin"], TWIST), (MIDDLE, CUT, FLIP)]:
            want = []
            for number in range(len(book)):
                others = [at for at in range(len(book)) if at != number]
                for many in range(4):
                    fits = [course for course in itertools.product(others, repeat=many) if deed_of(book, course) is not None
                            and least_deed(deed_of(book, course)) == least_deed(book[number])]
                    if fits:
                        want.append((number, fits[0]))
                        break
            self.assertEqual(left_out(book), tuple(want))

    def test_least_books(self):
        self.assertEqual(least_book((FLIP, HALF, TWIN)), (0, 1))
        self.assertEqual(least_book((HALF, TWIN, FLIP)), (0, 2))
        self.assertEqual(least_book((SAME, SAME)), ())
        self.assertEqual(least_book((SAME, HALF, HALF)), (1,))
        self.assertEqual(least_book((HALF, CUT)), (0, 1))
        for book in BOOKS + [(TWIST, FLIP, NAMED["spin"], WHEEL), (NAMED["wheel"], NAMED["unwheel"], HALF)]:
            least = [least_deed(deed) for deed in book]
            fits = []
            for many in range(len(book) + 1):
                for numbers in itertools.combinations(range(len(book)), many):
                    done = {least_deed(deed_of(book, course)) for length in range(4)
                            for course in itertools.product(numbers, repeat=length) if deed_of(book, course) is not None}
                    if done >= set(least):
                        fits.append(numbers)
            self.assertEqual(least_book(book), fits[0])

    def test_wrong_numbers(self):
        for value in NO_INTEGERS + [0, 49, -1, 10 ** 30]:
            self.assertIs(self.told(BadNumber, "value", scripts_of_cells, (HALF,), value), value)
        self.assertEqual(scripts_of_cells((CUT,), 48), ())
        self.assertEqual(len(scripts_of_cells((FLIP,), 1)), 2)


if __name__ == "__main__":
    unittest.main()
