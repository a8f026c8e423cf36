"""Judges answers by the words of the document, without the program's own functions."""

import itertools


def ends_of(bridges):
    """The bridges as the sets of their ends, so each is there once, whichever way round it is told."""
    return {frozenset(bridge) for bridge in bridges}


def is_road_by_words(row, joined, one, other):
    steps = [frozenset(step) for step in zip(row, row[1:])]
    return (
        row[:1] == [one]
        and row[-1:] == [other]
        and all(row.count(place) == 1 for place in row)
        and all(step in joined for step in steps)
    )


def is_wall_by_words(row, joined, one, other):
    return (
        all(low < high for low, high in zip(row, row[1:]))
        and one in row
        and other not in row
        and all(len(ends & set(row)) != 1 for ends in joined)
    )


def maps_of(places):
    pairs = [(high, low) if (high + low) % 2 else (low, high) for low, high in itertools.combinations(places, 2)]
    for size in range(len(pairs) + 1):
        for chosen in itertools.combinations(pairs, size):
            yield list(chosen)


def judge_way(test, answer, places, bridges, one, other):
    """Fails unless the answer is a way from the one to the other, and gives back its word."""
    told = (answer, places, bridges, one, other)
    test.assertIs(type(answer), tuple, told)
    test.assertEqual(len(answer), 2, told)
    word, row = answer
    test.assertIs(type(row), list, told)
    test.assertLessEqual(set(row), set(places), told)
    test.assertIn(word, ("road", "wall"), told)
    if word == "road":
        test.assertTrue(is_road_by_words(row, ends_of(bridges), one, other), told)
    else:
        test.assertTrue(is_wall_by_words(row, ends_of(bridges), one, other), told)
    return word


def judge_groups(test, answer, places, bridges):
    told = (answer, places, bridges)
    joined = ends_of(bridges)
    test.assertIs(type(answer), list, told)
    test.assertEqual(sorted(itertools.chain(*answer)), sorted(places), told)
    test.assertEqual(answer, sorted(answer, key=min), told)
    for group in answer:
        test.assertIs(type(group), list, told)
        test.assertEqual(group[0], min(group), told)
        for k in range(1, len(group)):
            test.assertTrue(any(frozenset((group[k], ahead)) in joined for ahead in group[:k]), told)
        test.assertFalse(any(len(ends & set(group)) == 1 for ends in joined), told)


def judge_detours(test, answer, places, bridges):
    told = (answer, places, bridges)
    joined = ends_of(bridges)
    test.assertIs(type(answer), list, told)
    test.assertEqual([detour[:2] for detour in answer], sorted((min(ends), max(ends)) for ends in joined), told)
    for detour in answer:
        test.assertIs(type(detour), tuple, told)
        rest = [tuple(ends) for ends in joined if ends != frozenset(detour[:2])]
        judge_way(test, detour[2:], places, rest, detour[0], detour[1])
