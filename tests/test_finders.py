"""Point [17]: finding out what a hidden row does."""

import random
import unittest

from glueroom.divisions import Division, alone
from glueroom.finders import Finder
from glueroom.pictures import Picture, seen
from glueroom.rows import Free, Join, Move, Row, Swap, run
from tests.helpers import fault, mixed_rows, parts, short_rows, varied_rows


def crowded_rows(people, many, seed):
    """Return rows that join many people in few rooms and leave rooms empty."""
    chance = random.Random(seed)
    rows = []
    for _ in range(many):
        hosts = chance.sample(range(people), min(people, chance.randint(2, 4)))
        joins = [Join(*chance.choices(range(people), k=2)) for _ in range(chance.randint(0, people // 2))]
        guests = chance.sample(range(people), chance.randint(0, people - 1))
        leaving = [
            Free(person) if chance.random() < 0.3 else Move(person, chance.choice(hosts))
            for person in guests if person not in hosts
        ]
        rows.append(Row(people, joins + leaving))
    return rows


def exchange_rows(people, many, most, seed):
    chance = random.Random(seed)
    return [
        Row(people, [Swap(*chance.choices(range(people), k=2)) for _ in range(chance.randint(0, most))])
        for _ in range(many)
    ]


def long_rows(people, many, seed):
    """Return rows of 60 commands."""
    chance = random.Random(seed)
    rows = []
    for row in varied_rows(people, many, 20, seed):
        swaps = [Swap(*chance.choices(range(people), k=2)) for _ in range(60 - len(row.commands))]
        rows.append(Row(people, swaps + list(row.commands)))
    return rows


def open_rows(people, many, seed):
    """Return rows that leave some people out and then exchange the rest."""
    chance = random.Random(seed)
    rows = []
    for _ in range(many):
        gone = chance.sample(range(people), chance.randint(0, people - 1))
        joins = [Join(*chance.choices(gone, k=2)) for _ in range(chance.randint(0, 3))] if gone else []
        swaps = [Swap(*chance.choices(range(people), k=2)) for _ in range(chance.randint(0, 20))]
        rows.append(Row(people, joins + [Free(person) for person in gone] + swaps))
    return rows


def hidden_rows(people):
    rows = [Row(people, [])] + mixed_rows(people, 5, 60, people) + varied_rows(people, 12, 12, people)
    rows += crowded_rows(people, 10, people) + exchange_rows(people, 4, 60, people)
    return rows + long_rows(people, 6, people) + open_rows(people, 10, people)


def finish(finder, row):
    """Answer all questions for a row, and return the answers."""
    answers = []
    question = finder.question()
    while question is not None:
        answers.append(run(row, question))
        finder.hear(answers[-1])
        question = finder.question()
    return answers


class TestFound(unittest.TestCase):
    def check(self, row):
        finder = Finder(row.people)
        answers = finish(finder, row)
        self.assertEqual(finder.asked(), len(answers))
        self.assertLessEqual(finder.asked(), 1 + row.people * row.people)
        self.assertEqual(parts(finder.found()), parts(seen(row)))
        self.assertEqual(finder.found(), seen(row))
        return answers

    def test_short_rows(self):
        for row in short_rows(1, 3) + short_rows(2, 3) + short_rows(3, 2) + short_rows(4, 1):
            self.check(row)

    def test_many_rows_of_few_people(self):
        for people in (3, 4, 5, 6):
            for row in mixed_rows(people, 80, 12, 1) + varied_rows(people, 150, 8, 2) + crowded_rows(people, 80, 3):
                self.check(row)
            for row in open_rows(people, 150, 4):
                self.check(row)

    def test_1_to_16_people(self):
        for people in range(1, 17):
            for row in hidden_rows(people):
                self.check(row)

    def test_rows_of_60_commands(self):
        for people in (2, 7, 16):
            for row in long_rows(people, 5, 9):
                self.assertEqual(len(row.commands), 60)
                self.check(row)

    def test_people_who_begin_in_dead_blocks(self):
        for people in (4, 9, 16):
            free = [Free(person) for person in range(people - 2)]
            pairs = [Join(person, person + 1) for person in range(0, people - 3, 2)]
            everybody = [Join(0, person) for person in range(people - 2)]
            for joins in ([], pairs, everybody):
                self.check(Row(people, joins + free))
                self.check(Row(people, joins + free + [Swap(0, people - 1), Swap(people - 2, 1)]))
            self.check(Row(people, [Free(person) for person in range(2, people)]))
            self.check(Row(people, [Free(person) for person in range(people)]))

    def test_what_the_examples_show(self):
        row = Row(4, [Join(0, 1), Free(0), Free(1)])
        finder = Finder(4)
        finish(finder, row)
        wanted = (((0,), ()), ((1,), ()), ((2,), (2,)), ((3,), (3,)))
        self.assertEqual(parts(finder.found()), (wanted, ((0, 1),)))

    def test_two_open_classes_cannot_be_told_apart(self):
        finder = Finder(3)
        finish(finder, Row(3, [Free(2), Swap(0, 1)]))
        self.assertEqual(parts(finder.found()), ((((0,), (0,)), ((1,), (1,)), ((2,), ())), ((2,),)))

    def test_found_again_and_again(self):
        row = Row(4, [Swap(0, 1), Free(3)])
        finder = Finder(4)
        finish(finder, row)
        first = finder.found()
        self.assertIs(type(first), Picture)
        for _ in range(3):
            self.assertEqual(finder.found(), first)
            self.assertIsNone(finder.question())

    def test_no_answers_beyond_what_is_needed(self):
        """A finder ends exactly if all rows that have the answers so far look the same."""
        rows = {}
        for row in short_rows(3, 3):
            rows.setdefault(parts(seen(row)), row)
        self.assertEqual(len(rows), 47)
        for hidden in rows.values():
            finder = Finder(3)
            left = list(rows.values())
            while len(left) > 1:
                question = finder.question()
                self.assertIsNotNone(question)
                end = run(hidden, question)
                left = [row for row in left if run(row, question) == end]
                finder.hear(end)
            self.assertIsNone(finder.question())

    def test_one_person_needs_no_answer(self):
        for row in short_rows(1, 2):
            finder = Finder(1)
            self.assertIsNone(finder.question())
            self.assertEqual((finder.found(), finder.asked()), (seen(row), 0))
            self.assertEqual(fault(finder.hear, alone(1)), ("NoQuestion",))


class TestQuestions(unittest.TestCase):
    def test_a_question_is_a_division_of_the_people(self):
        for people in (2, 5, 16):
            finder = Finder(people)
            row = Row(people, [Swap(0, 1)])
            question = finder.question()
            while question is not None:
                self.assertIs(type(question), Division)
                self.assertEqual(question.people, people)
                self.assertEqual(question, Division(people, question.groups))
                finder.hear(run(row, question))
                question = finder.question()

    def test_an_equal_question_until_it_is_answered(self):
        for row in varied_rows(5, 30, 8, 1):
            finder = Finder(5)
            question = finder.question()
            while question is not None:
                for _ in range(3):
                    self.assertEqual(finder.question(), question)
                finder.hear(run(row, question))
                question = finder.question()
            self.assertIsNone(finder.question())

    def test_no_question_is_asked_twice(self):
        for row in varied_rows(6, 40, 8, 2) + open_rows(6, 40, 3):
            finder = Finder(6)
            met = []
            question = finder.question()
            while question is not None:
                self.assertNotIn(question.groups, met)
                met.append(question.groups)
                finder.hear(run(row, question))
                question = finder.question()

    def test_asked_counts_the_answers(self):
        for row in (Row(5, []), Row(5, [Free(0), Join(1, 2)]), Row(5, [Free(4), Free(3)])):
            finder = Finder(5)
            many = 0
            self.assertEqual(finder.asked(), 0)
            question = finder.question()
            while question is not None:
                self.assertEqual(finder.asked(), many)
                finder.hear(run(row, question))
                many += 1
                self.assertEqual(finder.asked(), many)
                question = finder.question()
            finder.found()
            self.assertEqual(finder.asked(), many)

    def test_a_finder_whose_question_is_never_called(self):
        for people in (2, 4, 9, 16):
            for row in hidden_rows(people)[::4]:
                answers = finish(Finder(people), row)
                silent = Finder(people)
                for answer in answers:
                    silent.hear(answer)
                self.assertEqual(silent.found(), seen(row))
                self.assertEqual(silent.asked(), len(answers))
                self.assertIsNone(silent.question())

    def test_several_finders_at_once(self):
        rows = varied_rows(5, 12, 8, 5) + varied_rows(7, 12, 8, 6)
        finders = [Finder(row.people) for row in rows]
        waiting = True
        while waiting:
            waiting = False
            for finder, row in zip(finders, rows):
                question = finder.question()
                if question is not None:
                    finder.hear(run(row, question))
                    waiting = True
        for finder, row in zip(finders, rows):
            lonely = Finder(row.people)
            finish(lonely, row)
            self.assertEqual(finder.found(), seen(row))
            self.assertEqual(finder.asked(), lonely.asked())


class TestErrors(unittest.TestCase):
    def test_numbers_of_people(self):
        for people in (0, 17, -1, -16, 10 ** 30):
            self.assertEqual(fault(Finder, people), ("BadCount", "people", people))
        for people in (1, 16):
            self.assertEqual(Finder(people).asked(), 0)

    def test_no_answer_before_the_end(self):
        for people in (2, 3, 16):
            self.assertEqual(fault(Finder(people).found), ("NoAnswer",))
        for row in varied_rows(5, 20, 8, 7):
            finder = Finder(5)
            question = finder.question()
            while question is not None:
                self.assertEqual(fault(finder.found), ("NoAnswer",))
                self.assertEqual(finder.question(), question)
                finder.hear(run(row, question))
                question = finder.question()
            self.assertEqual(finder.found(), seen(row))

    def test_no_question_at_the_end_before_other_count(self):
        for people in (2, 3, 16):
            row = Row(people, [Swap(0, 1)])
            finder = Finder(people)
            answers = finish(finder, row)
            for others in (1, people - 1, people, 15):
                self.assertEqual(fault(finder.hear, alone(others)), ("NoQuestion",))
            self.assertEqual((finder.asked(), finder.found()), (len(answers), seen(row)))

    def test_other_count_changes_nothing(self):
        for row in varied_rows(4, 20, 8, 8):
            finder = Finder(4)
            question = finder.question()
            while question is not None:
                before = finder.asked()
                for others in (1, 3, 5, 16):
                    self.assertEqual(fault(finder.hear, alone(others)), ("OtherCount",))
                    self.assertEqual((finder.asked(), finder.question()), (before, question))
                finder.hear(run(row, question))
                question = finder.question()
            self.assertEqual(finder.found(), seen(row))

    def test_answers_are_not_changed(self):
        row = Row(6, [Join(0, 1), Free(0), Free(1), Swap(2, 5)])
        finder = Finder(6)
        answers = finish(finder, row)
        copies = [Division(6, answer.groups) for answer in answers]
        finder.found()
        self.assertEqual(answers, copies)
