"""Each sentence of DOC.md, by its point and its beginning, and the tests that fail if it is broken.

A text instead of tests says why there can be none.
"""

import importlib
import unittest

CALLERS = "about whoever uses the program, not about what it does"
OPEN = "says that nothing is promised"

SENTENCES = [
    (1, "A book has names, a tree", "parts.FirstTest", "asks.AnswersTest.test_each_form_at_home_and_from_afar"),
    (1, "It lies in parts at several houses", "tells.OrderTest", "parts.MoveTest", "letters.PathTest"),
    (1, "Letters are lost, come late, twice", "runs.RunsTest.test_many_runs"),
    (1, "Whoever uses this holds houses", CALLERS),
    (1, "Each part has one home at the most", "runs.RunsTest.test_many_runs", "asks.OnceTest"),
    (1, "All numbers are whole", "refusals.HouseNumbersTest", "refusals.NamesTest.test_numbers",
     "routes.RefusedTest.test_a_turn_that_is_none", "logs.BadLogTest.test_a_mark_that_is_none",
     "notes.WrittenTest.test_numbers_that_can_not_be"),
    (1, "Nothing uses a clock, chance or files", "language.ModulesTest.test_imports_are_of_the_package_alone",
     "language.ModulesTest.test_builtins"),
    (1, "Nothing is kept but in houses", "language.ModulesTest.test_nothing_is_kept_at_module_level",
     "tells.TellsTest.test_houses_share_nothing"),
    (1, "nothing that is handed in is changed or kept", "tells.TellsTest.test_names_are_not_changed",
     "tells.TellsTest.test_what_a_part_was_stays_with_its_letters", "routes.WayTest", "logs.JudgedTest",
     "logs.BehindTest", "notes.WrittenTest.test_several"),
    (1, "what is refused changes nothing", "refusals.PartsTest", "refusals.FullTest", "refusals.NamesTest",
     "routes.RefusedTest.test_refused_twice", "logs.BadLogTest", "notes.WrittenTest.test_row_by_row"),
    (1, "what is told may be changed", "tells.TellsTest.test_lists_are_changed_by_whoever_has_them",
     "tells.TellsTest.test_lists_told_by_hear_are_changed", "routes.WayTest.test_home_by_one_house",
     "logs.BehindTest.test_no_row", "notes.WrittenTest.test_several"),
    (1, "the same question has the same answer", "tells.TellsTest.test_the_same_question_twice",
     "routes.WayTest", "logs.JudgedTest", "notes.ReadTest"),
    (1, "nothing of another kind than this paper tells", CALLERS),
    (1, "arguments are handed in by their places", CALLERS),
    (1, "How long an answer takes", OPEN),
    (1, "In texts of words an empty word", "notes.ReadTest.test_a_blank_too_many",
     "notes.ReadTest.test_a_word_too_few"),
    (1, "numbers of rows and places", "notes.ReadTest.test_the_first_row", "logs.BadLogTest.test_no_row",
     "routes.RefusedTest.test_no_pair"),
    (2, "There are 2 to 6 houses", "refusals.HouseNumbersTest",
     "refusals.PartsTest.test_move_knows_how_many_houses_there_are"),
    (2, "A name is a tuple of at most five labels", "refusals.NamesTest.test_names_that_can_not_be",
     "refusals.NamesTest.test_names_that_are_just_within_the_bounds"),
    (2, "A name is under a root", "asks.AnswersTest.test_the_answer_tells_the_root_of_the_part_in_which_the_name_lies",
     "routes.WayTest.test_a_name_is_under_labels_and_not_under_letters"),
    (2, "A name has a number, 0 to 999", "refusals.NamesTest.test_numbers"),
    (3, "A part has a root", "parts.CutTest", "parts.MoveTest.test_turns_count_moves_and_not_marks"),
    (3, "At first house 0 is home", "parts.FirstTest.test_house_0_is_home_of_all"),
    (4, "cut cuts a branch off", "parts.CutTest.test_the_branch_has_all_names_under_its_root",
     "parts.CutTest.test_marks_part_ways", "parts.CutTest.test_a_branch_cut_off_above_another"),
    (4, "NotHome, if the house isn't home", "refusals.PartsTest.test_cut"),
    (4, "move moves a part", "refusals.PartsTest.test_move", "parts.MoveTest.test_a_move_takes_all_along",
     "parts.MoveTest.test_home_is_when_the_letter_came"),
    (5, "look, put, drop, copy and leave ask", "refusals.FullTest",
     "asks.AnswersTest.test_numbers_count_for_each_house_and_not_for_refused_asks"),
    (5, "A house's asks are done in turn", "asks.AnswersTest.test_in_turn_each_when_all_ahead_were_answered",
     "asks.OnceTest", "asks.AnswersTest.test_one_letter_does_one_ask_at_the_most"),
    (5, "answers tells (number, answer)", "asks.AnswersTest.test_answers_never_change", "runs.RunsTest.test_many_runs"),
    (5, "The answer tells the part's root", "asks.AnswersTest.test_each_form_at_home_and_from_afar"),
    (6, "copy asks that this house have copies", "asks.CopiesTest"),
    (6, "leave that it have none", "asks.CopiesTest.test_leave_lets_go_ahead_of_any_answer",
     "asks.CopiesTest.test_leave_ahead_of_the_answer_of_copy", "asks.CopiesTest.test_copy_asked_anew"),
    (6, "one answered noroot brings none", "asks.CopiesTest.test_noroot_brings_none_also_when_it_is_a_root_later"),
    (6, "A house that wants copies gets newer ones", "asks.CopiesTest.test_newer_copies_come_from_the_next_homes",
     "asks.CopiesTest.test_copies_come_while_copy_is_asked_again"),
    (7, "parts tells", "tells.OrderTest", "refusals.PartsTest.test_entries"),
    (7, "old tells of a name", "tells.OldTest", "refusals.NamesTest.test_names_that_can_not_be"),
    (8, "letters tells a list", "letters.LettersTest.test_kinds",
     "letters.LettersTest.test_nothing_is_told_where_nothing_is_to_tell"),
    (8, "hear hands one letter", "letters.LettersTest.test_kinds", "letters.LettersTest.test_letters_of_the_own_house"),
    (8, "What a letter is", OPEN),
    (9, "Whatever is heard or not", "runs.RunsTest.test_many_runs",
     "asks.CopiesTest.test_the_mark_never_falls_even_if_it_was_left_between",
     "tells.OrderTest.test_knows_the_greatest_turn_heard_of"),
    (10, "An ask is sent to the house", "letters.PathTest", "runs.RunsTest.test_asks_go_by_routes"),
    (10, "So it's never sent round in a ring", "letters.PathTest.test_never_in_a_ring"),
    (11, "A round: each house, by numbers", "runs.RunsTest.test_many_runs"),
    (11, "Behind as many rounds as asks", "letters.RestTest", "runs.RunsTest.test_runs_that_go_on_behind_rest"),
    (12, "A table is (knows, homes)", "routes.RefusedTest"),
    (12, "route tells of a list of tables", "routes.WayTest", "routes.RefusedTest",
     "runs.RunsTest.test_routes_texts_and_logs"),
    (12, "A house sends it to itself, too", "routes.WayTest.test_waits_by_one_house",
     "routes.WayTest.test_who_knows_itself_on_the_way_stands_twice"),
    (12, "Tables are of tuples, numbers, texts", CALLERS),
    (13, "A log of a part is a list", "logs.BadLogTest"),
    (13, "BadLog is refused for others", "logs.BadLogTest"),
    (13, "judged tells of entries", "logs.JudgedTest", "logs.HousesTest"),
    (13, "behind tells the entries", "logs.BehindTest", "logs.HousesTest"),
    (14, "Entries are written as rows", "notes.WrittenTest"),
    (14, "What is written is read to the same", "notes.WrittenTest.test_what_houses_tell"),
    (14, "BadText is refused", "notes.ReadTest"),
    (14, "Texts have at most 6,000 signs", CALLERS),
    ("interface", "Everything listed here must exist", "errors.ErrorsTest.test_where_the_interface_is_defined"),
    ("interface", "An attribute that is listed for a class", "errors.ErrorsTest.test_fields"),
    ("interface", "Callers pass only values of the listed kinds", CALLERS),
    ("interface", "go somewhat beyond it", "notes.ReadTest.test_somewhat_longer_texts",
     "logs.JudgedTest.test_marks_beyond_what_a_log_may_tell"),
    ("interface", "The wording of error messages is free", OPEN),
    ("interface", "Classes under it", "errors.ErrorsTest.test_all_are_under_book_error_alone"),
    ("interface", "What is handed in first is refused first",
     "refusals.NamesTest.test_the_name_is_refused_ahead_of_the_number", "refusals.PartsTest.test_move",
     "routes.RefusedTest.test_what_is_handed_in_first_is_refused_first", "notes.WrittenTest.test_row_by_row"),
]


class SentencesTest(unittest.TestCase):
    def test_the_tests_told_exist(self):
        for _, beginning, *tests in SENTENCES:
            if tests[0] not in (CALLERS, OPEN):
                for test in tests:
                    self.assertTrue(self.found(*test.split(".")), (beginning, test))

    def found(self, file, case, name=None):
        told = getattr(importlib.import_module("tests.test_" + file), case)
        names = [row for row in dir(told) if row.startswith("test_")]
        return issubclass(told, unittest.TestCase) and (name in names if name else names)

    def test_each_point_is_told(self):
        self.assertEqual([*range(1, 15), "interface"], list(dict.fromkeys(row[0] for row in SENTENCES)))


if __name__ == "__main__":
    unittest.main()
