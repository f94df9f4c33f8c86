"""How many and how much there may be."""

HOUSES = 8
ROADS = 20
GREAT = 10 ** 12
SEATS = 28
TIES = 36
FAR = 10 ** 15
SMALL = 4096
DEEDS = 60
BATCH = 20
