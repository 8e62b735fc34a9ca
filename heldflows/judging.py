"""The judge, which compares the pictures of a world with the promises (points 900 to 910)."""

from heldflows.app import answered, first_state

ORDER = ("opening", "open", "ended", "gone")


def holder_fault(pictures):
    """Returns the first fault `holders`, a life that two agents hold, or None."""
    return _first_fault("holders", pictures, _lives_held_twice)


def creator_fault(pictures):
    """Returns the first fault `creators`, a bucket that has two creators, or None."""
    return _first_fault("creators", pictures, _buckets_created_twice)


def life_fault(pictures):
    """Returns the first fault `lives`, a flow of which two lives are held, or None."""
    return _first_fault("lives", pictures, _flows_held_twice)


def eaten_fault(pictures):
    """Returns the first fault `eaten`, a flow whose app has read what was not written, or None."""
    return _first_fault("eaten", pictures, _flows_eaten_wrongly)


def stream_fault(pictures):
    """Returns the first fault `stream`, a flow whose client has read what was not answered, or None."""
    return _first_fault("stream", pictures, _flows_read_wrongly)


def gone_fault(pictures):
    """Returns the first fault `gone`, a flow that is gone and whose life is held, or None."""
    return _first_fault("gone", pictures, _flows_gone_wrongly)


def back_fault(pictures):
    """Returns the first fault `back`, a flow that went back from one picture to the next, or None."""
    for index in range(1, len(pictures)):
        before = _flows_of(pictures[index - 1])
        now = _flows_of(pictures[index])
        found = [flow for flow in before if flow not in now or _went_back(before[flow], now[flow])]
        if len(found) > 0:
            return "back", index, min(found)
    return None


def judge(pictures):
    """Returns the list of the first faults of each kind."""
    faults = [
        holder_fault(pictures),
        creator_fault(pictures),
        life_fault(pictures),
        eaten_fault(pictures),
        stream_fault(pictures),
        gone_fault(pictures),
        back_fault(pictures),
    ]
    return [fault for fault in faults if fault is not None]


def _first_fault(kind, pictures, look):
    """Returns the fault of the first picture for which `look` returns any tuples, with the least one of them."""
    for index, picture in enumerate(pictures):
        found = look(picture)
        if len(found) > 0:
            return (kind, index) + min(found)
    return None


def _flows_of(picture):
    """Returns the rows of all flows of all clients by the flows."""
    rows = {}
    for client, flows in enumerate(picture[1]):
        for row in flows:
            rows[(client, row[0])] = row
    return rows


def _is_beginning(front, whole):
    return whole[:len(front)] == front


def _answers_to(flow, data):
    _, answers = answered(first_state(flow), data)
    return answers


def _lives_held_twice(picture):
    holders = {}
    for at, (_, held, _, _) in enumerate(picture[2]):
        for row in held:
            holders.setdefault(row[:2], {})[at] = True
    return [name for name, agents in holders.items() if len(agents) > 1]


def _buckets_created_twice(picture):
    creators = {}
    for at, (_, _, _, buckets) in enumerate(picture[2]):
        for bucket in buckets:
            creators.setdefault(bucket, {})[at] = True
    return [(bucket,) for bucket, agents in creators.items() if len(agents) > 1]


def _flows_held_twice(picture):
    lives = {}
    for _, held, _, _ in picture[2]:
        for row in held:
            lives.setdefault(row[0], {})[row[1]] = True
    return [(flow,) for flow, found in lives.items() if len(found) > 1]


def _flows_eaten_wrongly(picture):
    flows = _flows_of(picture)
    found = []
    for _, held, frozen, _ in picture[2]:
        for flow, _, _, eaten in held + frozen:
            if flow not in flows or not _is_beginning(eaten, flows[flow][2]):
                found.append((flow,))
    return found


def _flows_read_wrongly(picture):
    found = []
    for flow, row in _flows_of(picture).items():
        _, _, written, closed, read, state = row
        answers = _answers_to(flow, written)
        is_early = state == "ended" and (closed == 0 or read != answers)
        if is_early or not _is_beginning(read, answers):
            found.append((flow,))
    return found


def _flows_gone_wrongly(picture):
    lives = {}
    for _, held, _, _ in picture[2]:
        for row in held:
            lives[row[:2]] = True
    return [
        (flow,) for flow, row in _flows_of(picture).items() if row[5] == "gone" and (flow, row[1]) in lives]


def _went_back(before, now):
    _, life, written, closed, read, state = before
    _, new_life, new_written, new_closed, new_read, new_state = now
    if not _is_beginning(written, new_written) or not _is_beginning(read, new_read):
        return True
    if closed > new_closed or (life is not None and life != new_life):
        return True
    return _state_went_back(state, new_state)


def _state_went_back(state, new_state):
    # Neither of the two last states comes behind the other one.
    if state == "ended" and new_state == "gone":
        return True
    return ORDER.index(state) > ORDER.index(new_state)
