"""Tests of cuehall.runs: points 15 to 18, with points 1, 2 and 3."""

import unittest
from fractions import Fraction
from itertools import permutations, product
from math import gcd

from cuehall.errors import CueError, NoCue, NoTime, TooMany
from cuehall.plays import Play
from cuehall.runs import Run
from plain import NO_CUES, NO_MOMENTS, Draws, cues_of, looks, made, state, walked, way, ways

LAST = 10 ** 9


def scene():
    """A play with rising and falling lamps, fades of 0 and a fresh cue."""
    return made(
        (10, {"a": 100, "b": 40}, 10, 20),
        (20, {"a": 30, "c": 70}, 7, 3),
        (30, {"b": 90}, 0, 11, True),
        (40, {"a": 55, "b": 0, "d": 1}, 6000, 0),
        (50, {}, 0, 0),
    )


def called(play, *calls):
    run = Run(play)
    for number, moment in calls:
        run.call(number, moment)
    return run


class RunCase(unittest.TestCase):
    def moments(self, play, calls):
        """The moments at, next to and between all that happens in a run."""
        found = {0, LAST}
        for number, moment in calls:
            up, down = play.cue(number)[:2]
            for at in (moment, moment + up, moment + down, moment + up // 2, moment + down // 2):
                found.update((at - 1, at, at + 1))
        return sorted(at for at in found if 0 <= at <= LAST)

    def agrees(self, play, calls):
        """A run with these calls tells of all moments what a plain walk tells."""
        run, cues = called(play, *calls), cues_of(play)
        for moment in self.moments(play, calls):
            with self.subTest(calls=calls, moment=moment):
                self.assertEqual(list(run.at(moment).items()), ways(cues, calls, moment))
        return run

    def refused(self, kind, run, name, *told):
        """The deed is refused with just this error, and nothing is changed behind it."""
        before = self.told(run)
        with self.subTest(name=name, kind=kind.__name__, told=[str(type(x)) for x in told]):
            with self.assertRaises(CueError) as held:
                getattr(run, name)(*told)
            self.assertIs(type(held.exception), kind)
            self.assertEqual(self.told(run), before)

    def told(self, run):
        calls = run.calls()
        moments = {0, 1, LAST} | {min(LAST, at + more) for _, at in calls for more in (0, 1, 5)}
        return calls, run.ended(), {at: run.at(at) for at in moments}


class Calling(RunCase):
    def test_at_first_all_lamps_are_dark(self):
        for play in (Play(), scene()):
            run = Run(play)
            self.assertEqual(run.calls(), [])
            self.assertEqual(run.ended(), 0)
            for moment in (0, 1, 77, LAST):
                self.assertEqual(run.at(moment), {})

    def test_calls_are_told_in_order(self):
        run = Run(scene())
        self.assertIsNone(run.call(30, 5))
        run.call(10, 5)
        run.call(10, 6)
        run.call(50, LAST)
        self.assertEqual(run.calls(), [(30, 5), (10, 5), (10, 6), (50, LAST)])
        self.assertEqual({type(pair) for pair in run.calls()}, {tuple})

    def test_the_bounds_of_moments(self):
        run = called(scene(), (30, 0), (10, LAST), (50, LAST))
        self.assertEqual(run.calls(), [(30, 0), (10, LAST), (50, LAST)])
        self.assertEqual(run.at(0), {"b": (90, 1)})
        self.assertEqual(run.at(LAST - 1), {"b": (90, 1)})
        self.assertEqual(run.at(LAST), {"a": (55, 1), "d": (1, 1)})
        self.assertEqual(run.ended(), LAST)

    def test_refused(self):
        run = called(scene(), (10, 50))
        for number in NO_CUES + (1, 11, 60, 999999):
            self.refused(NoCue, run, "call", number, 60)
            self.refused(NoCue, Run(Play()), "call", number, 0)
        for moment in NO_MOMENTS + (0, 49):
            self.refused(NoTime, run, "call", 10, moment)
            self.refused(NoTime, run, "call", 50, moment)
        self.refused(NoTime, Run(scene()), "call", 10, -1)

    def test_a_moment_ahead_of_the_last_call_though_not_of_the_others(self):
        run = called(scene(), (10, 5), (20, 9), (30, 9), (40, 50))
        for moment in (5, 6, 9, 49):
            self.refused(NoTime, run, "call", 10, moment)
            self.refused(NoTime, run, "go", moment)
            self.refused(NoTime, run, "back", moment)
        self.assertEqual(run.go(50), 50)

    def test_twenty_calls_and_one_more(self):
        run = Run(scene())
        for moment in range(20):
            run.call(10 if moment > 9 else 10 + moment // 2 * 10, moment // 3)
        self.assertEqual(len(run.calls()), 20)
        self.refused(TooMany, run, "call", 10, 6)
        self.refused(TooMany, run, "call", 50, LAST)
        self.refused(TooMany, run, "go", 6)
        self.refused(NoCue, run, "back", 6)

    def test_the_first_refusal_comes(self):
        full = called(scene(), *[(20, 7)] * 20)
        room = called(scene(), (20, 7))
        for run, number, moment in product((full, room), (20, 21, None), (7, 6, -1, None)):
            if number != 20:
                self.refused(NoCue, run, "call", number, moment)
            elif moment != 7:
                self.refused(NoTime, run, "call", number, moment)
            elif run is full:
                self.refused(TooMany, run, "call", number, moment)

    def test_a_refused_call_leaves_room_for_another(self):
        run = called(scene(), *[(10, 3)] * 19)
        self.refused(NoTime, run, "call", 10, 2)
        self.refused(NoCue, run, "call", 11, 3)
        run.call(20, 3)
        self.assertEqual(run.calls()[-1], (20, 3))


class GoAndBack(RunCase):
    def test_go_calls_one_cue_behind_the_other(self):
        run = Run(scene())
        self.assertEqual([run.go(moment) for moment in (0, 5, 5, 9, 30)], [10, 20, 30, 40, 50])
        self.assertEqual(run.calls(), [(10, 0), (20, 5), (30, 5), (40, 9), (50, 30)])
        self.refused(NoCue, run, "go", 31)

    def test_back_calls_the_one_ahead(self):
        run = called(scene(), (50, 0))
        self.assertEqual([run.back(moment) for moment in (1, 1, 2, 3)], [40, 30, 20, 10])
        self.refused(NoCue, run, "back", 4)
        self.assertEqual(run.calls(), [(50, 0), (40, 1), (30, 1), (20, 2), (10, 3)])

    def test_they_go_on_from_the_cue_called_last(self):
        run = called(scene(), (40, 0))
        self.assertEqual(run.back(1), 30)
        run.call(10, 2)
        self.assertEqual(run.go(3), 20)
        self.assertEqual(run.back(4), 10)
        self.assertEqual(run.go(5), 20)

    def test_a_cue_called_twice_has_one_place(self):
        run = called(scene(), (20, 0), (20, 0))
        self.assertEqual((run.go(0), run.back(0)), (30, 20))

    def test_they_fade_as_call_does(self):
        run, other = Run(scene()), called(scene(), (10, 2), (20, 6), (10, 7))
        run.go(2)
        run.go(6)
        run.back(7)
        self.assertEqual(self.told(run), self.told(other))

    def test_in_the_order_of_numbers_and_not_of_figures(self):
        run = Run(made((100, {}), (9, {}), (10, {})))
        self.assertEqual([run.go(0), run.go(0), run.go(0), run.back(0)], [9, 10, 100, 10])

    def test_none_there(self):
        for moment in NO_MOMENTS + (0, 7):
            self.refused(NoCue, Run(scene()), "back", moment)
            self.refused(NoCue, Run(Play()), "go", moment)
            self.refused(NoCue, Run(Play()), "back", moment)
            self.refused(NoCue, called(scene(), (50, 5)), "go", moment)
            self.refused(NoCue, called(scene(), (10, 5)), "back", moment)

    def test_refused_as_call(self):
        for moment in NO_MOMENTS:
            self.refused(NoTime, Run(scene()), "go", moment)
        for moment in NO_MOMENTS + (0, 6):
            self.refused(NoTime, called(scene(), (30, 7)), "go", moment)
            self.refused(NoTime, called(scene(), (30, 7)), "back", moment)

    def test_the_first_refusal_comes_where_there_were_twenty_calls(self):
        for number, deed in ((50, "go"), (10, "back")):
            full = called(scene(), *[(number, 7)] * 20)
            for moment in (7, 6, None):
                self.refused(NoCue, full, deed, moment)
        full = called(scene(), *[(30, 7)] * 20)
        for deed in ("go", "back"):
            for moment in (6, -1, None):
                self.refused(NoTime, full, deed, moment)
            self.refused(TooMany, full, deed, 7)

    def test_a_refused_one_keeps_the_place(self):
        run = called(scene(), (20, 7))
        self.refused(NoTime, run, "go", 6)
        self.refused(NoTime, run, "back", 6)
        self.assertEqual(run.go(7), 30)


class Fading(RunCase):
    def test_a_rising_lamp(self):
        run = called(made((1, {"a": 100}, 8, 3)), (1, 10))
        self.assertEqual([run.at(moment) for moment in (0, 9, 10)], [{}, {}, {}])
        self.assertEqual(run.at(11), {"a": (25, 2)})
        self.assertEqual(run.at(14), {"a": (50, 1)})
        self.assertEqual(run.at(17), {"a": (175, 2)})
        for moment in (18, 19, 100, LAST):
            self.assertEqual(run.at(moment), {"a": (100, 1)})

    def test_a_falling_lamp(self):
        run = called(made((1, {"a": 100, "b": 7}), (2, {"a": 0, "b": 1}, 8, 3)), (1, 0), (2, 10))
        for moment in (0, 9, 10):
            self.assertEqual(run.at(moment), {"a": (100, 1), "b": (7, 1)})
        self.assertEqual(run.at(11), {"a": (200, 3), "b": (5, 1)})
        self.assertEqual(run.at(12), {"a": (100, 3), "b": (3, 1)})
        for moment in (13, 14, LAST):
            self.assertEqual(run.at(moment), {"b": (1, 1)})

    def test_fades_of_0_are_at_once(self):
        run = called(made((1, {"a": 100}), (2, {"a": 0, "b": 5})), (1, 3), (2, 4))
        self.assertEqual([run.at(moment) for moment in (2, 3, 4)],
                         [{}, {"a": (100, 1)}, {"b": (5, 1)}])

    def test_a_fade_of_0_one_way_alone(self):
        play = made((1, {"a": 100}), (2, {"a": 0, "b": 10}, 5, 0), (3, {"a": 20, "b": 0}, 0, 5))
        run = called(play, (1, 0), (2, 10), (3, 20))
        self.assertEqual(run.at(10), {})
        self.assertEqual(run.at(11), {"b": (2, 1)})
        self.assertEqual(run.at(20), {"a": (20, 1), "b": (10, 1)})
        self.assertEqual(run.at(21), {"a": (20, 1), "b": (8, 1)})

    def test_rising_and_falling_lamps_at_once(self):
        play = made((1, {"a": 10, "b": 90, "c": 50}), (2, {"a": 90, "b": 10, "c": 50}, 4, 8))
        run = called(play, (1, 0), (2, 100))
        self.assertEqual(run.at(101), {"a": (30, 1), "b": (80, 1), "c": (50, 1)})
        self.assertEqual(run.at(104), {"a": (90, 1), "b": (50, 1), "c": (50, 1)})
        self.assertEqual(run.at(108), {"a": (90, 1), "b": (10, 1), "c": (50, 1)})

    def test_a_call_in_the_midst_of_a_fade_goes_on_from_there(self):
        play = made((1, {"a": 100}, 10, 10), (2, {"a": 50}, 4, 7), (3, {"a": 0}, 4, 7))
        run = called(play, (1, 0), (2, 3), (3, 5))
        self.assertEqual(run.at(3), {"a": (30, 1)})
        self.assertEqual(run.at(4), {"a": (35, 1)})
        self.assertEqual(run.at(5), {"a": (40, 1)})
        self.assertEqual(run.at(6), {"a": (240, 7)})
        self.assertEqual(run.at(12), {})

    def test_calls_at_one_moment_go_on_from_each_other(self):
        play = made((1, {"a": 100}), (2, {"a": 0}, 9, 10), (3, {"a": 100}, 4, 4))
        run = called(play, (1, 6), (2, 6))
        self.assertEqual([run.at(moment) for moment in (5, 6, 7)],
                         [{}, {"a": (100, 1)}, {"a": (90, 1)}])
        run = called(play, (3, 6), (2, 6), (1, 7))
        self.assertEqual([run.at(moment) for moment in (6, 7)], [{}, {"a": (100, 1)}])
        run = called(play, (1, 6), (2, 6), (3, 6))
        self.assertEqual(run.at(6), {"a": (100, 1)})
        self.assertEqual(run.ended(), 6)

    def test_a_call_of_the_same_cue_begins_its_fade_anew(self):
        play = made((1, {"a": 100}, 10, 0))
        run = called(play, (1, 0), (1, 5))
        self.assertEqual(run.at(5), {"a": (50, 1)})
        self.assertEqual(run.at(6), {"a": (55, 1)})
        self.assertEqual(run.at(15), {"a": (100, 1)})

    def test_lamps_of_a_look_and_not_the_words_alone(self):
        play = made((1, {"a": 100}), (2, {"b": 5}, 0, 10), (3, {"c": 5}, 0, 10, True))
        run = called(play, (2, 0), (3, 1))
        self.assertEqual(run.at(0), {"a": (100, 1), "b": (5, 1)})
        self.assertEqual(run.at(2), {"a": (90, 1), "b": (9, 2), "c": (5, 1)})
        self.assertEqual(run.at(11), {"c": (5, 1)})

    def test_the_longest_fades_are_exact_on_the_whole_way(self):
        play = made((1, {"a": 99}, 6000, 5999), (2, {"a": 1}, 5999, 6000))
        calls = [(1, 0), (2, 1), (1, 2), (2, 4001), (1, 4002), (2, 10001)]
        run = self.agrees(play, calls)
        self.assertEqual(run.at(1), {"a": (33, 2000)})
        self.assertGreater(run.at(10002)["a"][1], 10 ** 6)

    def test_twenty_calls_in_the_midst_of_fades_are_exact(self):
        play = made((1, {"a": 97, "b": 1}, 5987, 5981), (2, {"a": 3, "b": 89}, 5953, 5939))
        calls = [(1 + at // 2 - at // 4 * 2, 13 * at) for at in range(20)]
        run = self.agrees(play, calls)
        self.assertGreater(run.at(13 * 19 + 1)["a"][1], 10 ** 60)

    def test_all_calls_of_a_scene_against_a_plain_walk(self):
        play = scene()
        for first, second, third in product((10, 20, 30, 40), repeat=3):
            self.agrees(play, [(first, 3), (second, 6), (third, 10)])
            self.agrees(play, [(first, 3), (second, 3), (third, 4)])

    def test_mixed_plays_and_calls_against_a_plain_walk(self):
        for seed in range(40):
            draws, play = Draws(seed), Play()
            for number in range(1, 7):
                play.put(number, *[draws.one_of((0, 1, 2, 7, 12)) for _ in "ud"],
                         draws.below(4) == 0)
                for lamp in "abc":
                    if draws.below(2):
                        play.tell(number, lamp, draws.one_of((0, 1, 50, 99, 100)))
            calls, moment = [], 0
            for _ in range(1 + draws.below(20)):
                moment += draws.one_of((0, 0, 1, 2, 5, 30))
                calls.append((1 + draws.below(6), moment))
            self.agrees(play, calls)


class StraightWays(RunCase):
    def test_never_beyond_the_start_or_the_end_and_always_onward(self):
        play = scene()
        for first, second in product((10, 20, 30, 40), repeat=2):
            run = called(play, (first, 0), (second, 2))
            lamps, cues = "abcd", cues_of(play)
            for lamp in lamps:
                end = walked(cues, second, lamp)
                levels = [Fraction(*run.at(at).get(lamp, (0, 1))) for at in range(2, 40)]
                low, high = min(levels[0], end), max(levels[0], end)
                self.assertTrue(all(low <= level <= high for level in levels))
                self.assertEqual(levels, sorted(levels, reverse=end < levels[0]))

    def test_each_stretch_of_a_way_is_as_long_as_the_other(self):
        run = called(made((1, {"a": 100}, 7, 0), (2, {"a": 3}, 0, 11)), (1, 0), (2, 4))
        levels = [Fraction(*run.at(at)["a"]) for at in range(4, 16)]
        steps = {levels[at] - levels[at + 1] for at in range(11)}
        self.assertEqual(len(steps), 1)
        self.assertEqual(levels[11], 3)


class At(RunCase):
    def test_in_lowest_terms_with_the_lower_number_from_1_on(self):
        run = called(scene(), (10, 0), (20, 4), (40, 6), (30, 9))
        for moment in range(40):
            for pair in run.at(moment).values():
                self.assertIs(type(pair), tuple)
                upper, lower = pair
                self.assertEqual((type(upper), type(lower)), (int, int))
                self.assertGreaterEqual(lower, 1)
                self.assertGreater(upper, 0)
                self.assertEqual(gcd(upper, lower), 1)

    def test_lamps_by_the_alphabet_and_no_dark_ones(self):
        play = made((1, {"moon": 5, "b": 9, "ab": 0, "aa": 1}), (2, {"a": 7, "b": 0}, 2, 2))
        run = called(play, (1, 0), (2, 10))
        self.assertEqual(list(run.at(0)), ["aa", "b", "moon"])
        self.assertEqual(list(run.at(10)), ["aa", "b", "moon"])
        self.assertEqual(list(run.at(11)), ["a", "aa", "b", "moon"])
        self.assertEqual(list(run.at(12)), ["a", "aa", "moon"])

    def test_asked_in_any_order(self):
        calls = [(10, 5), (20, 9), (30, 9), (40, 30)]
        moments = (0, 5, 8, 9, 15, 30, 31, 7000)
        cues = cues_of(scene())
        right = {moment: dict(ways(cues, calls, moment)) for moment in moments}
        run = called(scene(), *calls)
        for order in (moments, moments[::-1], moments[::2] + moments[1::2]):
            for moment in order:
                self.assertEqual(run.at(moment), right[moment])
        for order in permutations((0, 8, 15, 31)):
            run = called(scene(), *calls)
            self.assertEqual([run.at(moment) for moment in order],
                             [right[moment] for moment in order])

    def test_a_call_changes_what_comes_from_its_moment_on_alone(self):
        run = called(scene(), (10, 5), (20, 9))
        before = {moment: run.at(moment) for moment in range(60)}
        run.call(30, 12)
        for moment in range(12):
            self.assertEqual(run.at(moment), before[moment])
        self.assertNotEqual(run.at(12), before[12])

    def test_asking_between_calls_changes_nothing(self):
        asked, plain = Run(scene()), Run(scene())
        for number, moment in ((10, 5), (20, 9), (30, 12), (10, 14)):
            for at in (0, moment, LAST, moment + 1):
                asked.at(at)
                asked.ended()
                asked.calls()
            asked.call(number, moment)
            plain.call(number, moment)
        self.assertEqual(self.told(asked), self.told(plain))

    def test_refused(self):
        for moment in NO_MOMENTS:
            self.refused(NoTime, Run(Play()), "at", moment)
            self.refused(NoTime, called(scene(), (10, 5)), "at", moment)


class Ended(RunCase):
    def ends(self, run, play, moment):
        """The run is at the last look from that moment on, and not at the one ahead of it."""
        number, begun = run.calls()[-1]
        look = {lamp: (level, 1) for lamp, level in play.look(number).items()}
        self.assertEqual(run.ended(), moment)
        for later in (moment, moment + 1, moment + 6000, LAST):
            self.assertEqual(run.at(later), look)
        if moment > begun:
            self.assertNotEqual(run.at(moment - 1), look)

    def test_the_longest_fade_of_a_lamp_that_is_not_there(self):
        play = scene()
        self.ends(called(play, (10, 5)), play, 15)
        self.ends(called(play, (10, 5), (20, 100)), play, 107)
        self.ends(called(play, (20, 5)), play, 12)
        self.ends(called(play, (10, 5), (20, 100), (10, 200)), play, 220)
        self.ends(called(play, (30, 5)), play, 5)
        self.ends(called(play, (30, 5), (50, 9)), play, 9)
        self.ends(called(play, (40, 5)), play, 6005)

    def test_rising_and_falling_lamps(self):
        for up, down in ((4, 9), (9, 4), (0, 5), (5, 0), (0, 0), (6, 6)):
            play = made((1, {"a": 50, "b": 50, "c": 5}), (2, {"a": 60}, up, down),
                        (3, {"a": 40}, up, down), (4, {"a": 40, "b": 60}, up, down))
            self.ends(called(play, (1, 0), (2, 10)), play, 10 + up)
            self.ends(called(play, (1, 0), (3, 10)), play, 10 + down)
            self.ends(called(play, (1, 0), (4, 10)), play, 10 + max(up, down))
            self.ends(called(play, (1, 0), (1, 10)), play, 10)

    def test_in_the_midst_of_a_fade(self):
        play = made((1, {"a": 100}, 10, 7), (2, {"a": 50}, 3, 4))
        self.ends(called(play, (1, 0), (2, 2)), play, 5)
        self.ends(called(play, (1, 0), (2, 5)), play, 5)
        self.ends(called(play, (1, 0), (2, 8)), play, 12)
        self.ends(called(play, (1, 0), (1, 8)), play, 18)

    def test_of_calls_at_one_moment_the_last_one_counts(self):
        play = made((1, {"a": 100}), (2, {"a": 50}, 3, 4), (3, {"a": 0}, 5, 6))
        self.ends(called(play, (1, 7), (2, 7)), play, 11)
        self.ends(called(play, (2, 7), (1, 7)), play, 7)
        self.ends(called(play, (2, 7), (3, 7)), play, 7)

    def test_it_may_be_behind_the_last_moment(self):
        play = made((1, {"a": 100}, 6000, 0))
        self.assertEqual(called(play, (1, LAST)).ended(), LAST + 6000)

    def test_of_a_dark_look(self):
        play = made((1, {}, 9, 9), (2, {"a": 5}, 9, 9), (3, {"a": 0}, 9, 8))
        self.assertEqual(called(play, (1, 7)).ended(), 7)
        self.assertEqual(called(play, (2, 7), (3, 7)).ended(), 7)
        self.assertEqual(called(play, (2, 7), (3, 8)).ended(), 16)

    def test_against_a_plain_walk(self):
        play, cues = scene(), cues_of(scene())
        for first, second in product((10, 20, 30, 40, 50), repeat=2):
            for gap in (0, 1, 3, 5, 50):
                calls = [(first, 2), (second, 2 + gap)]
                fades = [0]
                for lamp in "abcd":
                    start = way(cues, calls[:1], lamp, 2 + gap)
                    end = walked(cues, second, lamp)
                    if start != end:
                        fades.append(cues[second][0 if end > start else 1])
                with self.subTest(calls=calls):
                    self.assertEqual(called(play, *calls).ended(), 2 + gap + max(fades))


class ThePlayOfARun(RunCase):
    def test_what_is_done_to_the_play_later_changes_nothing(self):
        play, calls = scene(), [(10, 5), (20, 9), (30, 12), (40, 14), (50, 20)]
        right = called(scene(), *calls)
        begun = called(play, *calls[:2])
        fresh = Run(play)
        play.tell(10, "a", 1)
        play.untell(20, "c")
        play.only(30, "e", 100)
        play.put(15, 3, 3, True)
        play.cut(40)
        play.lift(50)
        for number, moment in calls[2:]:
            begun.call(number, moment)
        for number, moment in calls:
            fresh.call(number, moment)
        self.assertEqual(self.told(begun), self.told(right))
        self.assertEqual(self.told(fresh), self.told(right))
        self.refused(NoCue, fresh, "call", 15, 30)
        self.assertEqual(fresh.back(20), 40)
        self.assertEqual(fresh.go(20), 50)

    def test_the_play_stays(self):
        play = scene()
        before = state(play), looks(play)
        run = called(play, (10, 5))
        run.go(6)
        run.at(7)
        self.assertEqual((state(play), looks(play)), before)

    def test_two_runs_do_not_lean_on_each_other(self):
        play = scene()
        first, second = Run(play), Run(play)
        first.call(40, 5)
        self.assertEqual((second.calls(), second.ended(), second.at(9)), ([], 0, {}))
        self.assertEqual(second.go(0), 10)
        self.assertEqual(first.calls(), [(40, 5)])


class TheAskersOwn(RunCase):
    def test_what_was_told_may_be_changed(self):
        run = called(scene(), (10, 5), (20, 9))
        before = self.told(run)
        run.calls().append((50, 10))
        run.calls().clear()
        for moment in (5, 9, 10, 50):
            levels = run.at(moment)
            levels["a"] = (1, 1)
            run.at(moment).clear()
        self.assertEqual(self.told(run), before)

    def test_it_may_be_changed_ahead_of_the_next_call(self):
        run, plain = called(scene(), (10, 5)), called(scene(), (10, 5))
        run.at(9).clear()
        run.at(9)["z"] = (1, 1)
        run.calls().clear()
        run.call(20, 9)
        plain.call(20, 9)
        self.assertEqual(self.told(run), self.told(plain))

    def test_nothing_done_later_changes_it(self):
        run = called(scene(), (10, 5))
        calls, levels, copy = run.calls(), run.at(9), dict(run.at(9))
        run.call(20, 6)
        run.at(9)
        self.assertEqual((calls, levels), ([(10, 5)], copy))


if __name__ == "__main__":
    unittest.main()
