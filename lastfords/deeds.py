"""What deeds make of the Talks of a Board: a scene is a dict of the pairs (Talk, frame) of each NAME.

A frame is a pair of two Talks or None, low and high; None stands for no frame. Scenes never change.
"""

from lastfords.closures import says_no_less
from lastfords.errors import NoFrame, NoIsland, NoTalk, OtherIslands, Outside, Stopped, Stuck
from lastfords.floods import check_can_be
from lastfords.talks import flood_told, with_flood, with_rule


def talk_in(scene, name):
    """The Talk of this NAME; raises NoTalk."""
    if name not in scene:
        raise NoTalk(name)
    return scene[name][0]


def check_just_islands(islands, talk):
    """Raises OtherIslands if this is a Talk that has not just these ISLANDs."""
    if talk is not None and talk.islands != islands:
        raise OtherIslands()


def check_within(name, talk, frame):
    """Raises Outside if there is a frame and the Talk is not within."""
    if frame is None:
        return
    low, high = frame
    if low is not None and not says_no_less(talk, low):
        raise Outside(name)
    if high is not None and not says_no_less(high, talk):
        raise Outside(name)


def with_talk(scene, name, talk):
    """The scene in which this is the Talk of this NAME; raises Stuck, then Outside."""
    check_can_be(talk)
    frame = None
    if name in scene:
        frame = scene[name][1]
    check_within(name, talk, frame)
    return {**scene, name: (talk, frame)}


def behind_set(islands, scene, name, talk):
    """The scene behind the deed set; raises OtherIslands, Stuck, Outside."""
    check_just_islands(islands, talk)
    return with_talk(scene, name, talk)


def behind_leave(islands, scene, name):
    """The scene behind the deed leave; raises NoTalk."""
    talk_in(scene, name)
    return {other: scene[other] for other in scene if other != name}


def behind_add(islands, scene, name, rule):
    """The scene behind the deed add; raises NoTalk, NoIsland, Stuck, Outside."""
    return with_talk(scene, name, with_rule(talk_in(scene, name), rule))


def behind_tell(islands, scene, name, flood, pair, joined):
    """The scene behind the deed tell; raises NoTalk, NoIsland, Stuck, Outside."""
    talk = talk_in(scene, name)
    if flood not in talk.names:
        talk = with_flood(talk, (flood, (), ()))
    return with_talk(scene, name, flood_told(talk, flood, pair, joined))


def behind_frame(islands, scene, name, low, high):
    """The scene behind the deed frame; raises NoTalk, OtherIslands, Outside."""
    talk = talk_in(scene, name)
    check_just_islands(islands, low)
    check_just_islands(islands, high)
    check_within(name, talk, (low, high))
    return {**scene, name: (talk, (low, high))}


def behind_lift(islands, scene, name):
    """The scene behind the deed lift; raises NoTalk, NoFrame."""
    talk = talk_in(scene, name)
    if scene[name][1] is None:
        raise NoFrame(name)
    return {**scene, name: (talk, None)}


BEHIND = {"set": behind_set, "leave": behind_leave, "add": behind_add, "tell": behind_tell, "frame": behind_frame,
          "lift": behind_lift}


def behind_deed(islands, scene, deed):
    """The scene behind the deed; raises what this one raises."""
    word, *given = deed
    behind = BEHIND[word]
    return behind(islands, scene, *given)


def behind_all(islands, scene, deeds):
    """The scene behind all of the deeds; raises Stopped."""
    for number, deed in enumerate(deeds):
        try:
            scene = behind_deed(islands, scene, deed)
        except NoTalk as no_talk:
            raise Stopped(number, "NoTalk", no_talk.name) from None
        except NoIsland as no_island:
            raise Stopped(number, "NoIsland", no_island.name) from None
        except NoFrame as no_frame:
            raise Stopped(number, "NoFrame", no_frame.name) from None
        except OtherIslands:
            raise Stopped(number, "OtherIslands", None) from None
        except Stuck as stuck:
            raise Stopped(number, "Stuck", stuck.lot) from None
        except Outside as outside:
            raise Stopped(number, "Outside", outside.name) from None
    return scene
