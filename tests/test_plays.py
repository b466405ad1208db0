"""Tests of cuehall.plays, method by method: points 1, 3 and 5 to 12."""

import unittest
from itertools import product

from cuehall.errors import CueError, NoCue, NoLamp, NoLevel, NoTime, Taken, TooMany
from cuehall.plays import Play
from plain import NO_CUES, NO_FADES, NO_LAMPS, NO_LEVELS, cues_of, looks, made, state, walked_look


class PlayCase(unittest.TestCase):
    def refused(self, kind, play, name, *told):
        """The deed is refused with just this error, and nothing is changed behind it."""
        before = state(play), looks(play), play.spare()
        with self.subTest(name=name, kind=kind.__name__, told=[str(type(x)) for x in told]):
            with self.assertRaises(CueError) as held:
                getattr(play, name)(*told)
            self.assertIs(type(held.exception), kind)
            self.assertEqual((state(play), looks(play), play.spare()), before)

    def refused_without_cue(self, name, *more):
        """Whatever else is due, NoCue comes first."""
        play = made((2, {"a": 10}), (5, {"b": 20}))
        for number in NO_CUES + (1, 3, 4, 6, 999999):
            self.refused(NoCue, play, name, number, *more)
            self.refused(NoCue, Play(), name, number, *more)

    def same_but(self, before, play, *numbers):
        """All looks of a play are as before but those of these cues."""
        after = looks(play)
        for number in after:
            if number not in numbers:
                self.assertEqual(after[number], before[number], number)


class Putting(PlayCase):
    def test_a_play_begins_without_cues(self):
        self.assertEqual(Play().numbers(), [])
        self.assertEqual(Play().spare(), [])

    def test_a_cue_has_what_it_was_put_in_with(self):
        play = Play()
        self.assertIsNone(play.put(7, 30, 40, True))
        self.assertEqual(play.cue(7), (30, 40, True, {}))
        self.assertIs(play.cue(7)[2], True)
        play.put(8, fresh=False, down=1, up=2)
        self.assertEqual(play.cue(8), (2, 1, False, {}))
        self.assertIs(play.cue(8)[2], False)

    def test_a_cue_has_no_fades_and_is_not_fresh_where_nothing_is_told(self):
        play = made((7, {}), (8, {}, 5))
        self.assertEqual(play.cue(7), (0, 0, False, {}))
        self.assertIs(play.cue(7)[2], False)
        self.assertEqual(play.cue(8), (5, 0, False, {}))

    def test_the_bounds_of_numbers_and_fades(self):
        play = Play()
        for number, up, down in ((1, 0, 6000), (999999, 6000, 0), (2, 1, 5999)):
            play.put(number, up, down)
            self.assertEqual(play.cue(number), (up, down, False, {}))
        self.assertEqual(play.numbers(), [1, 2, 999999])

    def test_all_looks_stay(self):
        play = made((10, {"a": 50, "b": 20}), (20, {"a": 0}), (30, {"b": 70}, 0, 0, True))
        before = looks(play)
        for number, new in ((5, []), (15, [("a", 50), ("b", 20)]), (25, [("b", 20)]),
                            (35, [("b", 70)])):
            play.put(number, 10, 10)
            self.same_but(before, play, number)
            before = looks(play)
            self.assertEqual(before[number], new)

    def test_a_fresh_one_is_dark_and_changes_what_is_behind_it_alone(self):
        play = made((10, {"a": 50, "b": 20}), (20, {"a": 30}), (30, {}), (40, {"c": 1}, 0, 0, True))
        play.put(15, 0, 0, True)
        self.assertEqual(looks(play), {
            10: [("a", 50), ("b", 20)], 15: [], 20: [("a", 30)], 30: [("a", 30)], 40: [("c", 1)],
        })

    def test_a_hundred_cues_and_one_more(self):
        play = Play()
        for number in range(100, 0, -1):
            play.put(number)
        self.assertEqual(play.numbers(), list(range(1, 101)))
        self.refused(TooMany, play, "put", 101)
        self.refused(TooMany, play, "put", 999999, 6000, 6000, True)
        for taken_out in ("cut", "lift"):
            getattr(play, taken_out)(50)
            play.put(101)
            self.refused(TooMany, play, "put", 50)
            play.cut(101)
            play.put(50)

    def test_refused(self):
        play = made((2, {"a": 10}), (5, {"b": 20}))
        for number in NO_CUES:
            self.refused(NoCue, play, "put", number)
        for number in (2, 5):
            self.refused(Taken, play, "put", number)
        for fade in NO_FADES:
            self.refused(NoTime, play, "put", 3, fade)
            self.refused(NoTime, play, "put", 3, 0, fade)
            self.refused(NoTime, play, "put", 3, fade, fade)

    def test_the_first_refusal_comes(self):
        full = made(*[(number, {"a": number}) for number in range(1, 101)])
        room = made((1, {}), (2, {"a": 5}))
        for play, number, up, down in product((full, room), (0, 2, 500), (7, -1), (7, 6001)):
            told = (number, up, down)
            if number == 0:
                self.refused(NoCue, play, "put", *told)
            elif number == 2:
                self.refused(Taken, play, "put", *told)
            elif (up, down) != (7, 7):
                self.refused(NoTime, play, "put", *told)
            elif play is full:
                self.refused(TooMany, play, "put", *told)


class Telling(PlayCase):
    def test_a_lamp_told_anew_has_the_last_level(self):
        play = made((1, {}), (2, {}))
        for level in (50, 0, 100, 1, 1):
            self.assertIsNone(play.tell(1, "front", level))
            self.assertEqual(play.cue(1)[3], {"front": level})
            self.assertEqual(play.level(2, "front"), level)

    def test_each_cue_tells_its_own_words(self):
        play = made((1, {"a": 1}), (2, {"a": 2}), (3, {"b": 3}))
        self.assertEqual([play.cue(number)[3] for number in (1, 2, 3)],
                         [{"a": 1}, {"a": 2}, {"b": 3}])

    def test_what_it_has_already_and_dark_are_words_too(self):
        play = made((1, {"a": 0, "b": 5}), (2, {"b": 5}))
        self.assertEqual(play.cue(1)[3], {"a": 0, "b": 5})
        self.assertEqual(play.cue(2)[3], {"b": 5})

    def test_refused(self):
        play = made((2, {"a": 10}), (5, {"b": 20}))
        for lamp in NO_LAMPS:
            self.refused(NoLamp, play, "tell", 2, lamp, 50)
            self.refused(NoLamp, play, "tell", 2, lamp, 101)
        for level in NO_LEVELS:
            self.refused(NoLevel, play, "tell", 2, "a", level)
            self.refused(NoLevel, play, "tell", 5, "zzzzzzzz", level)
        for lamp, level in product(("a", "", None), (5, -1, None)):
            self.refused_without_cue("tell", lamp, level)


class Untelling(PlayCase):
    def test_a_word_is_gone_and_the_others_stay(self):
        play = made((1, {"a": 10, "b": 20}), (2, {"a": 30, "c": 0}), (3, {}))
        self.assertIsNone(play.untell(2, "a"))
        self.assertEqual(cues_of(play)[2], (0, 0, False, {"c": 0}))
        self.assertEqual(cues_of(play)[1], (0, 0, False, {"a": 10, "b": 20}))
        self.assertEqual(play.level(3, "a"), 10)
        play.untell(2, "c")
        play.untell(1, "a")
        self.assertEqual(looks(play), {number: [("b", 20)] for number in (1, 2, 3)})

    def test_a_word_may_be_told_again(self):
        play = made((1, {"a": 10}))
        play.untell(1, "a")
        self.refused(NoLamp, play, "untell", 1, "a")
        play.tell(1, "a", 10)
        play.untell(1, "a")
        self.assertEqual(play.cue(1)[3], {})

    def test_refused(self):
        play = made((2, {"a": 10}), (5, {"b": 20}))
        for lamp in NO_LAMPS + ("b", "aa", "cue"):
            self.refused(NoLamp, play, "untell", 2, lamp)
        self.refused(NoLamp, play, "untell", 5, "a")
        for lamp in ("a", "zzz", "", None):
            self.refused_without_cue("untell", lamp)


class Looking(PlayCase):
    def test_a_level_is_the_one_told_last_on_the_way(self):
        play = made((10, {"b": 20, "a": 50}), (20, {}), (30, {"a": 60, "c": 5}), (40, {"b": 0}))
        self.assertEqual(looks(play), {
            10: [("a", 50), ("b", 20)],
            20: [("a", 50), ("b", 20)],
            30: [("a", 60), ("b", 20), ("c", 5)],
            40: [("a", 60), ("c", 5)],
        })

    def test_at_a_fresh_cue_all_are_dark_that_it_does_not_tell(self):
        play = made((1, {"a": 50, "b": 20}), (2, {"b": 30, "c": 0}, 0, 0, True), (3, {"d": 100}))
        self.assertEqual(looks(play)[2], [("b", 30)])
        self.assertEqual(looks(play)[3], [("b", 30), ("d", 100)])
        self.assertEqual([play.level(3, lamp) for lamp in "abcd"], [0, 30, 0, 100])

    def test_cues_count_by_their_numbers_in_whatever_order_they_were_put_in(self):
        rows = ((9, {"a": 90}), (10, {"b": 5}), (100, {"a": 10}))
        for first, second, third in ((0, 1, 2), (2, 1, 0), (1, 2, 0)):
            play = made(rows[first], rows[second], rows[third])
            self.assertEqual(looks(play), {
                9: [("a", 90)], 10: [("a", 90), ("b", 5)], 100: [("a", 10), ("b", 5)],
            })

    def test_lamps_stand_by_the_alphabet(self):
        lamps = ("zz", "b", "a", "ab", "z", "aa", "ba", "moon")
        play = made((1, {lamp: 5 for lamp in lamps}), (2, {"c": 5}))
        self.assertEqual(list(play.look(1)), sorted(lamps))
        self.assertEqual(list(play.look(2)), sorted(lamps + ("c",)))
        self.assertEqual(list(play.cue(1)[3]), sorted(lamps))

    def test_level_of_a_lamp_that_no_cue_tells(self):
        play = made((1, {"a": 50}))
        for lamp in ("b", "cue", "fresh", "zzzzzzzz"):
            self.assertEqual(play.level(1, lamp), 0)
        self.assertEqual(state(play), [(1, 0, 0, False, [("a", 50)])])

    def test_level_ahead_of_the_cue_that_tells_is_dark(self):
        play = made((1, {}), (2, {"a": 50}))
        self.assertEqual([play.level(number, "a") for number in (1, 2)], [0, 50])

    def test_refused(self):
        play = made((2, {"a": 10}), (5, {"b": 20}))
        for lamp in NO_LAMPS:
            self.refused(NoLamp, play, "level", 2, lamp)
        for lamp in ("a", "", None):
            self.refused_without_cue("level", lamp)
        self.refused_without_cue("look")


class Only(PlayCase):
    def held(self, play, number, lamp, level, words_behind):
        """All other looks stay, and the next cue tells just these words then."""
        before, cues = looks(play), cues_of(play)
        self.assertIsNone(play.only(number, lamp, level))
        self.same_but(before, play, number)
        self.assertEqual(play.level(number, lamp), level)
        up, down, fresh, words = cues[number]
        cues[number] = (up, down, fresh, {**words, lamp: level})
        behind = [other for other in sorted(cues) if other > number]
        if behind:
            cues[behind[0]] = cues[behind[0]][:3] + (words_behind,)
        self.assertEqual(cues_of(play), cues)

    def test_at_the_first_cue(self):
        play = made((1, {}), (2, {"b": 5}), (3, {"a": 7}))
        self.held(play, 1, "a", 50, {"a": 0, "b": 5})

    def test_in_the_midst(self):
        play = made((1, {"a": 20}), (2, {}), (3, {}), (4, {}))
        self.held(play, 2, "a", 50, {"a": 20})

    def test_a_dark_one_in_the_midst(self):
        play = made((1, {"a": 20}), (2, {"a": 30}), (3, {}), (4, {}))
        self.held(play, 2, "a", 0, {"a": 30})

    def test_at_the_last_cue(self):
        play = made((1, {"a": 20}), (2, {}))
        self.held(play, 2, "a", 50, None)

    def test_at_the_only_cue(self):
        self.held(made((5, {})), 5, "a", 50, None)

    def test_ahead_of_a_fresh_cue(self):
        play = made((1, {"a": 20}), (2, {}, 0, 0, True), (3, {}))
        self.held(play, 1, "a", 50, {})
        self.held(play, 1, "b", 50, {})

    def test_at_a_fresh_cue(self):
        play = made((1, {"a": 20}), (2, {"b": 4}, 0, 0, True), (3, {}))
        self.held(play, 2, "a", 50, {"a": 0})
        self.held(play, 2, "b", 0, {"a": 0, "b": 4})

    def test_where_the_next_cue_tells_the_lamp(self):
        play = made((1, {"a": 20}), (2, {"a": 30}), (3, {"a": 0}))
        self.held(play, 1, "a", 50, {"a": 30})
        self.held(play, 1, "a", 30, {"a": 30})
        self.held(play, 2, "a", 10, {"a": 0})

    def test_where_the_next_cue_has_the_same_level_then(self):
        play = made((1, {"a": 20}), (2, {}))
        self.held(play, 1, "a", 20, {})
        self.held(play, 1, "b", 0, {})

    def test_twice_and_back(self):
        play = made((1, {"a": 20}), (2, {}))
        self.held(play, 1, "a", 50, {"a": 20})
        self.held(play, 1, "a", 20, {"a": 20})

    def test_refused_as_tell(self):
        play = made((2, {"a": 10}), (5, {"b": 20}))
        for number in (2, 5):
            for lamp in NO_LAMPS:
                self.refused(NoLamp, play, "only", number, lamp, 50)
                self.refused(NoLamp, play, "only", number, lamp, 101)
            for level in NO_LEVELS:
                self.refused(NoLevel, play, "only", number, "a", level)
        for lamp, level in product(("a", "", None), (5, -1, None)):
            self.refused_without_cue("only", lamp, level)


class Cutting(PlayCase):
    def test_those_behind_go_on_from_what_is_ahead(self):
        play = made((1, {"a": 20, "b": 5}), (2, {"a": 30, "c": 9}), (3, {"b": 6}))
        self.assertIsNone(play.cut(2))
        self.assertEqual(cues_of(play), {1: (0, 0, False, {"a": 20, "b": 5}),
                                         3: (0, 0, False, {"b": 6})})
        self.assertEqual(looks(play), {1: [("a", 20), ("b", 5)], 3: [("a", 20), ("b", 6)]})

    def test_the_first_the_last_and_the_only_one(self):
        play = made((1, {"a": 20}), (2, {"b": 30}), (3, {"a": 5}))
        play.cut(1)
        self.assertEqual(looks(play), {2: [("b", 30)], 3: [("a", 5), ("b", 30)]})
        play.cut(3)
        self.assertEqual(looks(play), {2: [("b", 30)]})
        play.cut(2)
        self.assertEqual((play.numbers(), play.spare()), ([], []))

    def test_a_fresh_one(self):
        play = made((1, {"a": 20}), (2, {"b": 30}, 0, 0, True), (3, {"c": 1}))
        play.cut(2)
        self.assertEqual(looks(play), {1: [("a", 20)], 3: [("a", 20), ("c", 1)]})

    def test_ahead_of_a_fresh_one(self):
        play = made((1, {"a": 20}), (2, {"b": 30}, 0, 0, True), (3, {}))
        before = looks(play)
        play.cut(1)
        self.same_but(before, play)

    def test_its_number_is_free_then_and_its_words_are_gone(self):
        play = made((1, {"a": 20}, 3, 4, True), (2, {}))
        play.cut(1)
        self.refused(NoCue, play, "cut", 1)
        play.put(1)
        self.assertEqual(play.cue(1), (0, 0, False, {}))
        self.assertEqual(looks(play), {1: [], 2: []})

    def test_refused(self):
        self.refused_without_cue("cut")


class Lifting(PlayCase):
    def held(self, play, number, words_behind):
        """All other looks stay, and the next cue tells just these words then."""
        before, cues = looks(play), cues_of(play)
        self.assertIsNone(play.lift(number))
        self.same_but(before, play)
        del cues[number]
        behind = [other for other in sorted(cues) if other > number]
        if behind:
            cues[behind[0]] = cues[behind[0]][:3] + (words_behind,)
        self.assertEqual(cues_of(play), cues)

    def test_at_the_first_cue(self):
        play = made((1, {"a": 20, "b": 0}), (2, {"c": 5}, 7, 8), (3, {}))
        self.held(play, 1, {"a": 20, "c": 5})

    def test_in_the_midst(self):
        play = made((1, {"a": 20, "d": 9}), (2, {"a": 30, "b": 4, "d": 0}), (3, {"c": 5}), (4, {}))
        self.held(play, 2, {"a": 30, "b": 4, "c": 5, "d": 0})

    def test_at_the_last_and_at_the_only_cue(self):
        play = made((1, {"a": 20}), (2, {"a": 30}))
        self.held(play, 2, None)
        self.held(play, 1, None)

    def test_ahead_of_a_fresh_cue(self):
        play = made((1, {"a": 20}), (2, {"a": 30}), (3, {"b": 5}, 0, 0, True), (4, {}))
        self.held(play, 2, {"b": 5})

    def test_at_a_fresh_cue(self):
        play = made((1, {"a": 20, "b": 5}), (2, {"b": 6}, 0, 0, True), (3, {"c": 7}), (4, {}))
        self.held(play, 2, {"a": 0, "b": 6, "c": 7})

    def test_at_a_fresh_cue_that_tells_what_was_there(self):
        play = made((1, {"a": 20}), (2, {"a": 20}, 0, 0, True), (3, {}))
        self.held(play, 2, {})

    def test_where_the_next_cue_tells_the_lamp(self):
        play = made((1, {"a": 20}), (2, {"a": 30, "b": 4}), (3, {"a": 40}), (4, {}))
        self.held(play, 2, {"a": 40, "b": 4})

    def test_where_the_lamp_has_that_level_ahead(self):
        play = made((1, {"a": 20}), (2, {"a": 20, "b": 0}), (3, {}))
        self.held(play, 2, {})

    def test_spare_words_of_the_next_cue_stay(self):
        play = made((1, {"a": 20}), (2, {"a": 30, "b": 5}), (3, {"a": 20, "c": 0}))
        self.held(play, 2, {"a": 20, "b": 5, "c": 0})

    def test_refused(self):
        self.refused_without_cue("lift")


class NumbersAndCues(PlayCase):
    def test_numbers_rise(self):
        play = made(*[(number, {}) for number in (30, 4, 999999, 100, 1, 29)])
        self.assertEqual(play.numbers(), [1, 4, 29, 30, 100, 999999])
        self.assertIs(type(play.numbers()), list)

    def test_a_cue_is_a_tuple_with_its_words_by_the_alphabet(self):
        play = made((3, {"moon": 5, "b": 0, "cue": 100}, 20, 10, True))
        self.assertIs(type(play.cue(3)), tuple)
        self.assertEqual(play.cue(3), (20, 10, True, {"b": 0, "cue": 100, "moon": 5}))
        self.assertEqual(list(play.cue(3)[3]), ["b", "cue", "moon"])

    def test_refused(self):
        self.refused_without_cue("cue")


class Spare(PlayCase):
    def test_none(self):
        play = made((1, {"a": 20}), (2, {"a": 30, "b": 1}), (3, {"a": 20}), (4, {"a": 0}))
        self.assertEqual(play.spare(), [])

    def test_what_would_be_there_untold(self):
        play = made((2, {"b": 5, "a": 0}), (10, {"b": 5, "c": 0}), (9, {"b": 5, "a": 1}),
                    (11, {"b": 6}), (12, {"b": 6}))
        self.assertEqual(play.spare(), [(2, "a"), (9, "b"), (10, "b"), (10, "c"), (12, "b")])
        self.assertEqual({type(pair) for pair in play.spare()}, {tuple})

    def test_at_a_fresh_cue_dark_is_there_untold(self):
        play = made((1, {"a": 20, "b": 3}), (2, {"a": 20, "b": 0}, 0, 0, True), (3, {"a": 20}),
                    (4, {"b": 0}))
        self.assertEqual(play.spare(), [(2, "b"), (3, "a"), (4, "b")])

    def test_pairs_rise_by_numbers_and_by_the_alphabet(self):
        play = made((100, {"c": 0, "a": 0}), (9, {"b": 0, "ab": 0, "aa": 0}))
        self.assertEqual(play.spare(),
                         [(9, "aa"), (9, "ab"), (9, "b"), (100, "a"), (100, "c")])


class Least(PlayCase):
    def test_the_same_cues_without_spare_words(self):
        play = made((1, {"a": 0, "b": 5}, 10, 20), (2, {"b": 5, "a": 7}, 30, 40, True),
                    (3, {"a": 7, "b": 5, "c": 0, "d": 1}), (4, {"d": 0}, 6000, 1))
        before = state(play)
        least = play.least()
        self.assertIs(type(least), Play)
        self.assertIsNot(least, play)
        self.assertEqual(state(least), [
            (1, 10, 20, False, [("b", 5)]), (2, 30, 40, True, [("a", 7), ("b", 5)]),
            (3, 0, 0, False, [("d", 1)]), (4, 6000, 1, False, [("d", 0)]),
        ])
        self.assertEqual(looks(least), looks(play))
        self.assertEqual(least.spare(), [])
        self.assertEqual(state(play), before)

    def test_without_spare_words_it_is_the_same(self):
        play = made((1, {"a": 5}), (2, {"a": 6}, 1, 2, True), (3, {"a": 0}))
        self.assertEqual(state(play.least()), state(play))

    def test_of_a_play_without_cues(self):
        self.assertEqual(Play().least().numbers(), [])

    def test_of_a_play_of_a_hundred_cues(self):
        play = made(*[(number, {"a": number // 10}) for number in range(1, 101)])
        self.assertEqual(len(play.spare()), 90)
        self.assertEqual(looks(play.least()), looks(play))

    def test_it_does_not_lean_on_its_play(self):
        play = made((1, {"a": 5, "b": 0}), (2, {"a": 5}), (3, {}))
        least = play.least()
        before = state(least)
        play.tell(1, "a", 50)
        play.untell(2, "a")
        play.put(4)
        play.lift(1)
        self.assertEqual(state(least), before)

    def test_its_play_does_not_lean_on_it(self):
        play = made((1, {"a": 5}), (2, {}), (3, {}))
        before = state(play)
        least = play.least()
        least.tell(1, "a", 50)
        least.only(1, "b", 50)
        least.cut(3)
        least.put(4)
        self.assertEqual(state(play), before)

    def test_no_play_with_the_same_looks_has_fewer_words(self):
        # Every choice of words of two levels, over two lamps and three cues.
        levels = (None, 0, 1)
        choices = [{lamp: level for lamp, level in zip("ab", pair) if level is not None}
                   for pair in product(levels, repeat=2)]
        for marks in product((False, True), repeat=3):
            fewest = {}
            plays = []
            for words in product(choices, repeat=3):
                play = made(*[(at + 1, words[at], 0, 0, marks[at]) for at in range(3)])
                key = str(looks(play))
                many = sum(map(len, words))
                fewest[key] = min(many, fewest.get(key, many))
                plays.append((key, play))
            for key, play in plays:
                least = play.least()
                many = sum(len(cue[3]) for cue in cues_of(least).values())
                self.assertEqual(str(looks(least)), key)
                self.assertLessEqual(many, fewest[key])
                self.assertEqual([cue[2] for cue in cues_of(least).values()], list(marks))


class TheAskersOwn(PlayCase):
    def setUp(self):
        self.play = made((1, {"a": 5, "b": 0}, 1, 2), (2, {"c": 7}, 0, 0, True), (3, {"c": 7}))
        self.before = state(self.play), looks(self.play), self.play.spare()

    def tearDown(self):
        self.assertEqual((state(self.play), looks(self.play), self.play.spare()), self.before)

    def test_numbers(self):
        told = self.play.numbers()
        told.append(9)
        told[0] = 8
        self.play.numbers().clear()

    def test_words(self):
        words = self.play.cue(1)[3]
        words["a"] = 99
        words["d"] = 1
        self.play.cue(2)[3].clear()

    def test_look(self):
        look = self.play.look(1)
        look["a"] = 99
        self.play.look(3).clear()

    def test_spare(self):
        self.play.spare().append((2, "c"))
        self.play.spare().clear()


class WhatWasToldStays(unittest.TestCase):
    def test_nothing_done_later_changes_it(self):
        play = made((1, {"a": 5, "b": 0}), (2, {"c": 7}))
        numbers, cue, look, spare = play.numbers(), play.cue(1), play.look(2), play.spare()
        play.tell(1, "a", 50)
        play.untell(1, "b")
        play.only(1, "d", 9)
        play.put(5)
        play.cut(2)
        self.assertEqual(numbers, [1, 2])
        self.assertEqual(cue, (0, 0, False, {"a": 5, "b": 0}))
        self.assertEqual(look, {"a": 5, "c": 7})
        self.assertEqual(spare, [(1, "b")])

    def test_two_plays_do_not_lean_on_each_other(self):
        first, second = Play(), Play()
        first.put(1)
        first.tell(1, "a", 5)
        second.put(1)
        self.assertEqual(second.cue(1), (0, 0, False, {}))
        second.put(2)
        self.assertEqual(first.numbers(), [1])


class AgainstAPlainWalk(unittest.TestCase):
    def test_looks_and_levels_of_every_small_play(self):
        choices = [{}, {"a": 0}, {"a": 9}, {"b": 3, "a": 4}]
        for words in product(choices, repeat=4):
            for fresh in (None, 1, 2, 3):
                play = made(*[(at + 1, words[at], 0, 0, at + 1 == fresh) for at in range(4)])
                cues = cues_of(play)
                for number in cues:
                    look = walked_look(cues, number)
                    self.assertEqual(play.look(number), look)
                    for lamp in "abc":
                        self.assertEqual(play.level(number, lamp), look.get(lamp, 0))


if __name__ == "__main__":
    unittest.main()
