"""Daybooks: texts of logs with questions between their rows."""

from sealwatch.cells import cells_along
from sealwatch.errors import DaybookError, InvalidLog, InvalidText, WatchError
from sealwatch.known import need_item
from sealwatch.logs import MOST_ROWS, Log, need_row
from sealwatch.plans import plan_of
from sealwatch.questions import answer_in, places_in
from sealwatch.scripts import Script
from sealwatch.shapes import QUESTION_WORDS
from sealwatch.sights import need_sight
from sealwatch.touching import words_along

MOST_QUESTIONS = 100


class Daybook:
    """A text of a log with questions; each one is asked of the rows before it."""

    def __init__(self, text):
        try:
            script = Script(text, MOST_QUESTIONS)
        except InvalidText as error:
            raise DaybookError(error.row, error.word) from None
        self.story = log_of(script)
        self.moments = cells_along(plan_of(self.story), None)
        questions = questions_of(script)
        for row, _, count in questions:
            if count >= len(self.moments) or len(self.moments[count]) == 0:
                raise DaybookError(row, 0)
        self.touches = {item: None for item in self.story.house.all_items}
        self.results = "\n".join([self.result_of(question, count) for _, question, count in questions])

    def log(self):
        """The log of all rows."""
        return self.story

    def result_of(self, question, count):
        """The line for a question that is asked behind so many rows."""
        word, what = question
        house = self.story.house
        if word == "ask":
            return answer_in(house, self.moments[count], what)
        if word == "where":
            return ", ".join([text_of_place(place) for place in places_in(house, self.moments[count], what)])
        if self.touches[what] is None:
            self.touches[what] = words_along(self.story, self.moments, what)
        return " ".join(self.touches[what][count])


def text_of_place(place):
    word, number = place
    return word if word == "gone" else f"{word} {number}"


def log_of(script):
    """The log of all rows; raises InvalidHouse, or InvalidLog for the first row or question that is wrong."""
    house = script.made_house()
    rows = []
    for _, told in script.told:
        need_told(house, told, len(rows))
        if told[0] not in QUESTION_WORDS:
            rows.append(told)
    return Log(house, rows)


def need_told(house, told, index):
    """Raise InvalidLog with an index if a row or a question cannot be by itself, or if a row is one too many."""
    if told[0] not in QUESTION_WORDS and index == MOST_ROWS:
        raise InvalidLog(index)
    try:
        if told[0] == "ask":
            need_sight(house, told[1])
        elif told[0] in QUESTION_WORDS:
            need_item(house, told[1])
        else:
            need_row(house, told)
    except WatchError:
        raise InvalidLog(index) from None


def questions_of(script):
    """All questions: tuples (row of the text, question, how many rows of the log are ahead of it)."""
    questions = []
    count = 0
    for row, told in script.told:
        if told[0] in QUESTION_WORDS:
            questions.append((row, told, count))
        else:
            count += 1
    return questions
