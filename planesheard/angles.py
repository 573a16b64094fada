"""Latitudes and longitudes: reckoned exactly, as parts of zones, and told in ten-millionths of a degree."""

# How many parts a zone has: 2 to the 17th.
PARTS = 131072
HALF_ZONE = 65536

# A whole circle in ten-millionths of a degree.
CIRCLE_TOLD = 3600000000
# A whole circle in the measure of EDGES.
CIRCLE_AT_EDGES = 36000000000

MOST_ZONES = 59

# Each of these latitudes, in degrees times 10^8, that a latitude isn't below costs it a zone of longitude.
EDGES = (
    1047047130, 1482817437, 1818626357, 2102939493, 2354504487, 2582924707, 2793898710, 2991135686,
    3177209708, 3353993436, 3522899598, 3685025108, 3841241892, 3992256684, 4138651832, 4280914012,
    4419454951, 4554626723, 4686733252, 4816039128, 4942776439, 5067150166, 5189342469, 5309516153,
    5427817472, 5544378444, 5659318756, 5772747354, 5884763776, 5995459277, 6104917774, 6213216659,
    6320427479, 6426616523, 6531845310, 6636171008, 6739646774, 6842322022, 6944242631, 7045451075,
    7145986473, 7245884545, 7345177442, 7443893416, 7542056257, 7639684391, 7736789461, 7833374083,
    7929428225, 8024923213, 8119801349, 8213956981, 8307199445, 8399173563, 8489166191, 8575541621,
    8653536998, 8700000000,
)


class Angle:
    """360 degrees times parts, divided by zones times PARTS."""

    def __init__(self, parts, zones):
        self.parts = parts
        self.zones = zones

    def circle(self):
        """A whole circle in parts of this angle's zones."""
        return self.zones * PARTS

    def told(self):
        """The angle in ten-millionths of a degree, towards below."""
        return self.parts * CIRCLE_TOLD // self.circle()

    def reaches(self, quarters):
        """Whether the angle is so many quarters of a circle or more."""
        return self.parts * 4 >= quarters * self.circle()

    def moved(self, circles):
        """The angle so many whole circles further."""
        return Angle(self.parts + circles * self.circle(), self.zones)


def beyond_a_pole(latitude):
    """Whether a latitude is more than 90 degrees or less than -90."""
    return abs(latitude.parts) * 4 > latitude.circle()


def zones_of_longitude(latitude):
    """How many zones of longitude there are at a latitude."""
    size = abs(latitude.parts) * CIRCLE_AT_EDGES
    zones = MOST_ZONES
    for edge in EDGES:
        if size >= edge * latitude.circle():
            zones -= 1
    return zones


def nearest_angle(known, zones, within):
    """Of the angles that stand at the part within of one of the zones, the nearest to a known one, as it was told."""
    known_parts = known * zones * PARTS // CIRCLE_TOLD
    further = (within - known_parts) % PARTS
    if further > HALF_ZONE:
        further -= PARTS
    return Angle(known_parts + further, zones)
