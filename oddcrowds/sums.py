"""The sum by turns of the places of all voices."""


def voice_places(standing):
    """Return the ascending list of the places of all people with a voice, each as often as it has voices."""
    return sorted([place for _, place, voice in standing.people() if voice == 1])


def turn_sum(standing):
    """Return the first place of a voice, less the second one, and so on, 0 without voices."""
    places = voice_places(standing)
    return sum(places[::2]) - sum(places[1::2])
