import unittest

from calls import last_result, load, night, observe, starts
from nightplans.angles import ONE
from nightplans.catalogue import read_catalogue
from nightplans.sky import altitude, place, separation, sidereal_time

SIRIUS = "sirius 06:45:08.917 -16:42:58.017 -1.46 -546 -1223"
BARNARD = "barnard 17:57:48.498 +04:41:36.207 9.51 -798 10328"
NORTH = "north 00:00:00.000 +90:00:00.000 1 0 0"
SOUTH = "south 12:30:00.000 -90:00:00.000 1 0 0"
FAST = "fast 23:59:59.999 -00:00:00.001 1 99999 -99999"

# star, moment, coordinates of its place
PLACES = [
    (SIRIUS, 0, (-187455209724661468, 939217532749223018, -287629919381738471)),
    (SIRIUS, 849052800, (-192273388111614148, 938043800085148406, -288278985265826703)),
    (SIRIUS, -849052800, (-182627773294195821, 940362677346050889, -286993260332313038)),
    (SIRIUS, 10000000000, (-243555089255878321, 923597308927023268, -296055618829168455)),
    (SIRIUS, -10000000000, (-130073573189322166, 950874616678801333, -280924062539513832)),
    (SIRIUS, 3155760000, (-205314975767572200, 934711163288167170, -290104812007733736)),
    (SIRIUS, -3155760000, (-169467727609352878, 943328974987712160, -285326364445269072)),
    (BARNARD, 849052800, (-3855556327912038, -996529710555674663, 83148485646015133)),
    (BARNARD, -10000000000, (-76890538924599809, -994764684949118726, 67313197828993162)),
    (NORTH, 0, (0, 0, 1000000000000000000)),
    (NORTH, 10000000000, (-30767677861266347, -1090555320576592, 999525967990886220)),
    (NORTH, -10000000000, (30767682698776685, -1090555641394694, 999525967841626624)),
    (SOUTH, 849052800, (2614376905020806, 7864569638498, -999996582479933798)),
    (FAST, 0, (999999999999997345, -72722052166, -4848136811)),
    (FAST, 10000000000, (967675005011844194, 220134721839560849, -123068228702401030)),
    (FAST, -10000000000, (967674972152615498, -220134876498700117, 123068210429569767)),
]

# star, moment, longitude and latitude of the site, altitude then and a minute later
ALTITUDES = [
    (SIRIUS, 0, 0, 0, -263750561, -263787303),
    (SIRIUS, 849052800, 48000000, 186000000, -183694804, -184010291),
    (SIRIUS, -849052800, -254000000, -120000000, -103530983, -104026192),
    (SIRIUS, 10000000000, 648000000, 324000000, -61995051, -61995051),
    (SIRIUS, -10000000000, -648000000, -324000000, 58735308, 58735308),
    (BARNARD, 0, 0, 0, 280958677, 280128164),
    (BARNARD, 849052800, 48000000, 186000000, 152518862, 152648730),
    (BARNARD, -849052800, -254000000, -120000000, 162675069, 163127097),
    (BARNARD, 10000000000, 648000000, 324000000, 20315826, 20315826),
    (BARNARD, -10000000000, -648000000, -324000000, -13894850, -13894850),
    (NORTH, 0, 0, 0, 0, 0),
    (NORTH, 849052800, 48000000, 186000000, 186096684, 186094361),
    (NORTH, -849052800, -254000000, -120000000, -120234997, -120232870),
    (NORTH, 10000000000, 648000000, 324000000, 317648722, 317648722),
    (NORTH, -10000000000, -648000000, -324000000, -317648721, -317648721),
    (SOUTH, 849052800, 48000000, 186000000, -186096684, -186094361),
    (SOUTH, -849052800, -254000000, -120000000, 120234997, 120232870),
    (SOUTH, 10000000000, 648000000, 324000000, -317648722, -317648722),
    (SOUTH, -10000000000, -648000000, -324000000, 317648721, 317648721),
    (FAST, 0, 0, 0, 37658240, 38560704),
    (FAST, 849052800, 48000000, 186000000, -26921054, -26367423),
    (FAST, -849052800, -254000000, -120000000, -75578328, -74845940),
    (FAST, 10000000000, 648000000, 324000000, -25449163, -25449164),
    (FAST, -10000000000, -648000000, -324000000, -25449159, -25449159),
]

# two stars, the separations of their places at the moments 0, 849052800 and -10000000000
SEPARATIONS = [
    (SIRIUS, BARNARD, (587844956, 588019884, 585750636)),
    (SIRIUS, NORTH, (384178016, 384210920, 383790470)),
    (NORTH, SOUTH, (648000000, 648000000, 648000000)),
    (FAST, SOUTH, (323999998, 321309538, 355687768)),
    (FAST, BARNARD, (325965900, 328891624, 292345958)),
]


def star(line):
    return read_catalogue(list(line.encode("ascii")))[0]


class Sky(unittest.TestCase):
    def test_sidereal_time(self):
        expected = {
            0: 1009658226,
            1: 1009673267,
            -1: 1009643184,
            86400: 1013206556,
            849052800: 887102232,
            9999999011: 513185229,
            9999999012: 513200271,
            10000000000: 528060846,
            -10000000000: 195255605,
        }
        for moment, angle in expected.items():
            with self.subTest(moment=moment):
                self.assertEqual(sidereal_time(moment), angle)

    def test_place(self):
        for line, moment, vector in PLACES:
            with self.subTest(line=line, moment=moment):
                self.assertEqual(place(star(line), moment), vector)

    def test_altitude(self):
        for line, moment, longitude, latitude, now, later in ALTITUDES:
            for then, expected in ((moment, now), (moment + 60, later)):
                with self.subTest(line=line, moment=then):
                    vector = place(star(line), then)
                    self.assertEqual(altitude(vector, then, longitude, latitude), expected)

    def test_separation(self):
        for one, other, expected in SEPARATIONS:
            for moment, angle in zip((0, 849052800, -10000000000), expected):
                with self.subTest(one=one, other=other, moment=moment):
                    places = (place(star(one), moment), place(star(other), moment))
                    self.assertEqual(separation(*places), angle)
                    self.assertEqual(separation(*reversed(places)), angle)
                    self.assertEqual(separation(places[0], places[0]), 0)

    def test_separation_is_rounded_down_within(self):
        # The sine of 1 is 4848136811; the second sine below ONE is ONE - 11, that of 323999999.
        almost = 2 * (ONE - 11)
        for vector, angle in (
            ((0, 0, 0), 0), ((9696273622, 0, 0), 2), ((-9696273622, 0, 0), 2), ((9696273621, 0, 0), 0),
            ((0, 9696273621, 139257), 0), ((0, 9696273621, -139258), 2),
            ((0, 0, almost - 1), 647999996), ((0, 0, almost), 647999998), ((almost - 1, 10 ** 9, 0), 647999996),
            ((2 * ONE, 0, 0), 648000000), ((0, -2 * ONE - 8, 0), 648000000), ((2 * ONE, 2 * ONE, 2 * ONE), 648000000),
        ):
            with self.subTest(vector=vector):
                self.assertEqual(separation((0, 0, 0), vector), angle)
                self.assertEqual(separation(vector, (0, 0, 0)), angle)

    def test_a_star_is_high_enough_at_its_least_altitude_and_not_above(self):
        for line, moment, longitude, latitude, now, later in ALTITUDES:
            # The next minute may be out of the range of first moments, not of the night.
            with self.subTest(line=line, moment=moment):
                least = min(now, later)
                self.assertEqual(self.starts_at(line, moment, longitude, latitude, least), [1, 0, 0])
                self.assertEqual(self.starts_at(line, moment, longitude, latitude, least + 1), [0])

    def starts_at(self, line, moment, longitude, latitude, least):
        tonight = night(moment, 1, longitude, latitude, least)
        return last_result(load(line), tonight, observe(duration=1), starts(0))


if __name__ == "__main__":
    unittest.main()
