"""Chains: how a match that has no referee goes on."""


def places_taken(given):
    taken = {}
    for place, number in enumerate(given):
        if number is not None:
            taken[number] = place
    return taken


def steps_into(may, taken, start):
    # Each place that can be come to from the start, with the step that leads into it. The walk is level by
    # level and the dict keeps its order, so a place that is come to by fewer steps stands further ahead.
    into = {start: None}
    waiting = [start]
    done = 0
    while done < len(waiting):
        place = waiting[done]
        done = done + 1
        for number in may[place]:
            if number in taken and taken[number] not in into:
                into[taken[number]] = (place, number)
                waiting.append(taken[number])
    return into


def free_referee(numbers, taken):
    for number in numbers:
        if number not in taken:
            return number
    return None


def traced(into, place, number):
    steps = [(place, number)]
    step = into[place]
    while step is not None:
        steps.append(step)
        step = into[step[0]]
    steps.reverse()
    return steps


def chain(may, given, place):
    taken = places_taken(given)
    into = steps_into(may, taken, place)
    for reached in into:
        number = free_referee(may[reached], taken)
        if number is not None:
            return traced(into, reached, number)
    return traced(into, max(into), None)


def stepped(given, steps):
    behind = list(given)
    for place, number in steps:
        behind[place] = number
    return behind
