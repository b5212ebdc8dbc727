"""The shortest drives between the places of a chase."""

# More than any drive takes (at most 5 roads of 1000 minutes), and more than there are minutes till a landing.
NO_DRIVE = 1000000


def shortest_drives(places, roads):
    """For each place a list of how many minutes from it to each place, NO_DRIVE where there's none."""
    drives = straight_drives(places, roads)
    for via in range(places):
        for place in range(places):
            for other in range(places):
                drives[place][other] = min(drives[place][other], drives[place][via] + drives[via][other])
    return drives


def straight_drives(places, roads):
    drives = [[NO_DRIVE] * places for place in range(places)]
    for place in range(places):
        drives[place][place] = 0
    for place, other, minutes in roads:
        shorter = min(minutes, drives[place][other])
        drives[place][other] = shorter
        drives[other][place] = shorter
    return drives
