"""All that logs show, compared with a plain search through all states of small houses."""

import unittest

from plain import some_sight
from sealwatch.courses import course_count, courses, fewest_course, first_fault
from sealwatch.errors import NoCourse
from sealwatch.logs import final_states, impossible_row
from sealwatch.questions import answer, possible_places
from sealwatch.touching import touch_span, touch_words
from trials import Trials


class Compared(Trials):

    def test_states(self):
        self.each(range(200), 9, self.check_states)

    def check_states(self, _, plain, rows, log):
        moments = plain.states(rows)
        impossible = [index - 1 for index, states in enumerate(moments) if not states]
        self.assertEqual(impossible_row(log), impossible[0] if impossible else None)
        self.assertEqual(final_states(log), sorted(moments[-1]))

    def test_questions(self):
        self.each(range(200, 400), 9, self.check_questions)

    def check_questions(self, chance, plain, rows, log):
        worlds = [plain.world.changed(state) for state in plain.states(rows)[-1]]
        item = chance.choice(plain.house.all_items)
        sight = some_sight(chance, plain.house)
        if not worlds:
            self.assertRaises(NoCourse, possible_places, log, item)
            self.assertRaises(NoCourse, answer, log, sight)
            return
        self.assertEqual(possible_places(log, item), sorted({world.where(item) for world in worlds}))
        told = {True: "always", False: "never"}
        truths = {world.is_so(sight) for world in worlds}
        self.assertEqual(answer(log, sight), told[truths.pop()] if len(truths) == 1 else "sometimes")

    def test_touching(self):
        self.each(range(400, 520), 7, self.check_touching)

    def check_touching(self, chance, plain, rows, log):
        item = chance.choice(plain.house.all_items)
        if impossible_row(log) is not None:
            self.assertRaises(NoCourse, touch_words, log, item)
            self.assertRaises(NoCourse, touch_span, log, item, 0)
            return
        self.assertEqual(touch_words(log, item), plain.touch_words(rows, item))
        hand = chance.randrange(plain.house.hands)
        moments = plain.held_moments(rows, item, hand)
        self.assertEqual(touch_span(log, item, hand), (moments[0], moments[-1]) if moments else None)

    def test_fewest_course(self):
        self.each(range(600, 760), 8, self.check_fewest_course)

    def check_fewest_course(self, _, plain, rows, log):
        least = plain.fewest(rows)
        if least is None:
            self.assertRaises(NoCourse, fewest_course, log)
        else:
            self.assertEqual(fewest_course(log), least)
            self.assertIsNone(first_fault(log, least[1]))

    def test_counts(self):
        self.each(range(800, 960), 7, self.check_counts)

    def check_counts(self, _, plain, rows, log):
        self.assertEqual([course_count(log, number) for number in range(7)], plain.counts(rows, 6))

    def test_courses(self):
        self.each(range(1000, 1160), 6, self.check_courses)

    def check_courses(self, _, plain, rows, log):
        for number, count in enumerate(plain.counts(rows, 3)):
            if count < 1500:
                found = list(courses(log, number))
                self.assertEqual(len(found), count)
                self.assertEqual(found, plain.courses(rows, number))
                self.assertEqual(found, sorted(found))

    def test_first_fault(self):
        self.each(range(1200, 1400), 6, self.check_first_fault)

    def check_first_fault(self, chance, plain, rows, log):
        course = [[chance.choice(plain.deeds) for _ in range(chance.randint(0, 2))] for _ in log.gaps]
        self.assertEqual(first_fault(log, course), self.fault(plain, rows, course))

    def fault(self, plain, rows, course):
        state = plain.house.state
        lists = list(course)
        for index, row in enumerate(rows):
            if row[0] != "gap":
                state = plain.behind(state, row)
                if state is None:
                    return (index, -1)
                continue
            for number, deed in enumerate(lists.pop(0)):
                moves = dict(plain.moves(state, row[1]))
                if deed not in moves:
                    return (index, number)
                state = moves[deed]
        return None


if __name__ == "__main__":
    unittest.main()
