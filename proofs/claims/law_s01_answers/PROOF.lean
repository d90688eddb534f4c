import PyProof.Rows.All
import Wide.All
import OpenK.AllK
import Wide.FinOn
import Lean
import Open.SpecLaws
import KE.OsGo
import KE.OsHead
import KE.HD0
import KE.HD1
import KE.HD2
import KE.HD3
import KE.HD4
import KE.KExcInit
import HandS.ForMost
import HandS.ForSpec
import HandS.Defaults
import HandS.HeadHook1
import HandS.HeadHook2
import HandS.HeadHook3
import HandS.HeadHook4
import HandS.Deep
import HandS.Zip
import HandS.Nested
import HandS.ExcInit
import HandS.ExcField
import HandS.ExcValue
import HandS.FStr
import HandS.Lambda
import HandS.SortKw
import HandS.Keys
import KE.SortKeyHeap
import HandS.Spec
import HandS.EndTab
import PySem.Challenge.RW_oneindex_s01_answers
set_option Elab.async false
set_option linter.all false
set_option maxRecDepth 100000
set_option maxHeartbeats 0
namespace One
open PySem PySem.Spec PyProof.Rows L2
/-! ### the text: each def where it stands -/
def top (i : Nat) : Stmt := PySem.Challenge.pw_oneindex_s01_answers.main.body.getD i (.Pass ⟨0, 0, 0, 0⟩)
abbrev s_Step_init : Stmt := inClass (top 3) 0
def d_Step_init : He.DefD := ⟨("Step", some "__init__"), "__init__", "Step.__init__", defArgs s_Step_init, defBody s_Step_init, defScope s_Step_init, [], []⟩
abbrev s_Work_init : Stmt := inClass (top 4) 0
def d_Work_init : He.DefD := ⟨("Work", some "__init__"), "__init__", "Work.__init__", defArgs s_Work_init, defBody s_Work_init, defScope s_Work_init, [], []⟩
abbrev s_steps_of : Stmt := top 5
def d_steps_of : He.DefD := ⟨("steps_of", none), "steps_of", "steps_of", defArgs s_steps_of, defBody s_steps_of, defScope s_steps_of, [], []⟩
abbrev s_work_of : Stmt := top 6
def d_work_of : He.DefD := ⟨("work_of", none), "work_of", "work_of", defArgs s_work_of, defBody s_work_of, defScope s_work_of, [], []⟩
abbrev s_Share_init : Stmt := inClass (top 8) 0
def d_Share_init : He.DefD := ⟨("Share", some "__init__"), "__init__", "Share.__init__", defArgs s_Share_init, defBody s_Share_init, defScope s_Share_init, [], []⟩
abbrev s_shares_answered : Stmt := top 9
def d_shares_answered : He.DefD := ⟨("shares_answered", none), "shares_answered", "shares_answered", defArgs s_shares_answered, defBody s_shares_answered, defScope s_shares_answered, [], []⟩
abbrev s_steps_in_order : Stmt := top 10
def d_steps_in_order : He.DefD := ⟨("steps_in_order", none), "steps_in_order", "steps_in_order", defArgs s_steps_in_order, defBody s_steps_in_order, defScope s_steps_in_order, [], []⟩
abbrev s_cells_in_order : Stmt := top 11
def d_cells_in_order : He.DefD := ⟨("cells_in_order", none), "cells_in_order", "cells_in_order", defArgs s_cells_in_order, defBody s_cells_in_order, defScope s_cells_in_order, [], []⟩
abbrev s_first_shares : Stmt := top 12
def d_first_shares : He.DefD := ⟨("first_shares", none), "first_shares", "first_shares", defArgs s_first_shares, defBody s_first_shares, defScope s_first_shares, [], []⟩
abbrev s_Run_init : Stmt := inClass (top 15) 0
def d_Run_init : He.DefD := ⟨("Run", some "__init__"), "__init__", "Run.__init__", defArgs s_Run_init, defBody s_Run_init, defScope s_Run_init, [], []⟩
abbrev s_run_of : Stmt := top 16
def d_run_of : He.DefD := ⟨("run_of", none), "run_of", "run_of", defArgs s_run_of, defBody s_run_of, defScope s_run_of, [], []⟩
abbrev s_group_of_each_row : Stmt := top 17
def d_group_of_each_row : He.DefD := ⟨("group_of_each_row", none), "group_of_each_row", "group_of_each_row", defArgs s_group_of_each_row, defBody s_group_of_each_row, defScope s_group_of_each_row, [], []⟩
abbrev s_Group_init : Stmt := inClass (top 19) 0
def d_Group_init : He.DefD := ⟨("Group", some "__init__"), "__init__", "Group.__init__", defArgs s_Group_init, defBody s_Group_init, defScope s_Group_init, [], []⟩
abbrev s_count_rows : Stmt := top 20
def d_count_rows : He.DefD := ⟨("count_rows", none), "count_rows", "count_rows", defArgs s_count_rows, defBody s_count_rows, defScope s_count_rows, [], []⟩
abbrev s_Table_init : Stmt := inClass (top 21) 0
def d_Table_init : He.DefD := ⟨("Table", some "__init__"), "__init__", "Table.__init__", defArgs s_Table_init, defBody s_Table_init, defScope s_Table_init, [], []⟩
abbrev s_Filter_init : Stmt := inClass (top 22) 0
def d_Filter_init : He.DefD := ⟨("Filter", some "__init__"), "__init__", "Filter.__init__", defArgs s_Filter_init, defBody s_Filter_init, defScope s_Filter_init, [], []⟩
abbrev s_Filter_passes : Stmt := inClass (top 22) 1
def d_Filter_passes : He.DefD := ⟨("Filter", some "passes"), "passes", "Filter.passes", defArgs s_Filter_passes, defBody s_Filter_passes, defScope s_Filter_passes, [], []⟩
abbrev s_Filter_is_equal : Stmt := inClass (top 22) 2
def d_Filter_is_equal : He.DefD := ⟨("Filter", some "is_equal"), "is_equal", "Filter.is_equal", defArgs s_Filter_is_equal, defBody s_Filter_is_equal, defScope s_Filter_is_equal, [], []⟩
abbrev s_Filter_keeps_to : Stmt := inClass (top 22) 3
def d_Filter_keeps_to : He.DefD := ⟨("Filter", some "keeps_to"), "keeps_to", "Filter.keeps_to", defArgs s_Filter_keeps_to, defBody s_Filter_keeps_to, defScope s_Filter_keeps_to, [], []⟩
abbrev s_passes_all : Stmt := top 23
def d_passes_all : He.DefD := ⟨("passes_all", none), "passes_all", "passes_all", defArgs s_passes_all, defBody s_passes_all, defScope s_passes_all, [], []⟩
abbrev s_Question_init : Stmt := inClass (top 24) 0
def d_Question_init : He.DefD := ⟨("Question", some "__init__"), "__init__", "Question.__init__", defArgs s_Question_init, defBody s_Question_init, defScope s_Question_init, [], []⟩
abbrev s_Question_filters_on : Stmt := inClass (top 24) 1
def d_Question_filters_on : He.DefD := ⟨("Question", some "filters_on"), "filters_on", "Question.filters_on", defArgs s_Question_filters_on, defBody s_Question_filters_on, defScope s_Question_filters_on, [], []⟩
abbrev s_Question_is_equal_on : Stmt := inClass (top 24) 2
def d_Question_is_equal_on : He.DefD := ⟨("Question", some "is_equal_on"), "is_equal_on", "Question.is_equal_on", defArgs s_Question_is_equal_on, defBody s_Question_is_equal_on, defScope s_Question_is_equal_on, [], []⟩
abbrev s_Question_without_equal : Stmt := inClass (top 24) 3
def d_Question_without_equal : He.DefD := ⟨("Question", some "without_equal"), "without_equal", "Question.without_equal", defArgs s_Question_without_equal, defBody s_Question_without_equal, defScope s_Question_without_equal, [], []⟩
abbrev s_Question_needed_columns : Stmt := inClass (top 24) 4
def d_Question_needed_columns : He.DefD := ⟨("Question", some "needed_columns"), "needed_columns", "Question.needed_columns", defArgs s_Question_needed_columns, defBody s_Question_needed_columns, defScope s_Question_needed_columns, [], []⟩
abbrev s_Index_init : Stmt := inClass (top 25) 0
def d_Index_init : He.DefD := ⟨("Index", some "__init__"), "__init__", "Index.__init__", defArgs s_Index_init, defBody s_Index_init, defScope s_Index_init, [], []⟩
abbrev s_Index_own_columns : Stmt := inClass (top 25) 1
def d_Index_own_columns : He.DefD := ⟨("Index", some "own_columns"), "own_columns", "Index.own_columns", defArgs s_Index_own_columns, defBody s_Index_own_columns, defScope s_Index_own_columns, [], []⟩
abbrev s_Index_with_first_keys : Stmt := inClass (top 25) 2
def d_Index_with_first_keys : He.DefD := ⟨("Index", some "with_first_keys"), "with_first_keys", "Index.with_first_keys", defArgs s_Index_with_first_keys, defBody s_Index_with_first_keys, defScope s_Index_with_first_keys, [], []⟩
abbrev s_Index_holds : Stmt := inClass (top 25) 3
def d_Index_holds : He.DefD := ⟨("Index", some "holds"), "holds", "Index.holds", defArgs s_Index_holds, defBody s_Index_holds, defScope s_Index_holds, [], []⟩
abbrev s_serves : Stmt := top 27
def d_serves : He.DefD := ⟨("serves", none), "serves", "serves", defArgs s_serves, defBody s_serves, defScope s_serves, [], []⟩
abbrev s_first_lacking : Stmt := top 28
def d_first_lacking : He.DefD := ⟨("first_lacking", none), "first_lacking", "first_lacking", defArgs s_first_lacking, defBody s_first_lacking, defScope s_first_lacking, [], []⟩
abbrev s_covers : Stmt := top 29
def d_covers : He.DefD := ⟨("covers", none), "covers", "covers", defArgs s_covers, defBody s_covers, defScope s_covers, [], []⟩
abbrev s_first_out_of_order : Stmt := top 30
def d_first_out_of_order : He.DefD := ⟨("first_out_of_order", none), "first_out_of_order", "first_out_of_order", defArgs s_first_out_of_order, defBody s_first_out_of_order, defScope s_first_out_of_order, [], []⟩
abbrev s_is_free : Stmt := top 31
def d_is_free : He.DefD := ⟨("is_free", none), "is_free", "is_free", defArgs s_is_free, defBody s_is_free, defScope s_is_free, [], []⟩
abbrev s_is_free_by_table : Stmt := top 32
def d_is_free_by_table : He.DefD := ⟨("is_free_by_table", none), "is_free_by_table", "is_free_by_table", defArgs s_is_free_by_table, defBody s_is_free_by_table, defScope s_is_free_by_table, [], []⟩
abbrev s_count_equal_keys : Stmt := top 33
def d_count_equal_keys : He.DefD := ⟨("count_equal_keys", none), "count_equal_keys", "count_equal_keys", defArgs s_count_equal_keys, defBody s_count_equal_keys, defScope s_count_equal_keys, [], []⟩
abbrev s_next_key_filters : Stmt := top 34
def d_next_key_filters : He.DefD := ⟨("next_key_filters", none), "next_key_filters", "next_key_filters", defArgs s_next_key_filters, defBody s_next_key_filters, defScope s_next_key_filters, [], []⟩
abbrev s_groups_held : Stmt := top 35
def d_groups_held : He.DefD := ⟨("groups_held", none), "groups_held", "groups_held", defArgs s_groups_held, defBody s_groups_held, defScope s_groups_held, [], []⟩
abbrev s_groups_in_range : Stmt := top 36
def d_groups_in_range : He.DefD := ⟨("groups_in_range", none), "groups_in_range", "groups_in_range", defArgs s_groups_in_range, defBody s_groups_in_range, defScope s_groups_in_range, [], []⟩
abbrev s_Refusal_init : Stmt := inClass (top 38) 0
def d_Refusal_init : He.DefD := ⟨("Refusal", some "__init__"), "__init__", "Refusal.__init__", defArgs s_Refusal_init, defBody s_Refusal_init, defScope s_Refusal_init, [], []⟩
abbrev s_NotWhole_init : Stmt := inClass (top 39) 0
def d_NotWhole_init : He.DefD := ⟨("NotWhole", some "__init__"), "__init__", "NotWhole.__init__", defArgs s_NotWhole_init, defBody s_NotWhole_init, defScope s_NotWhole_init, [], []⟩
abbrev s_TooManyEntries_init : Stmt := inClass (top 40) 0
def d_TooManyEntries_init : He.DefD := ⟨("TooManyEntries", some "__init__"), "__init__", "TooManyEntries.__init__", defArgs s_TooManyEntries_init, defBody s_TooManyEntries_init, defScope s_TooManyEntries_init, [], []⟩
abbrev s_NoSuchWay_init : Stmt := inClass (top 41) 0
def d_NoSuchWay_init : He.DefD := ⟨("NoSuchWay", some "__init__"), "__init__", "NoSuchWay.__init__", defArgs s_NoSuchWay_init, defBody s_NoSuchWay_init, defScope s_NoSuchWay_init, [], []⟩
abbrev s_NotServing_init : Stmt := inClass (top 42) 0
def d_NotServing_init : He.DefD := ⟨("NotServing", some "__init__"), "__init__", "NotServing.__init__", defArgs s_NotServing_init, defBody s_NotServing_init, defScope s_NotServing_init, [], []⟩
abbrev s_NoIndex_init : Stmt := inClass (top 43) 0
def d_NoIndex_init : He.DefD := ⟨("NoIndex", some "__init__"), "__init__", "NoIndex.__init__", defArgs s_NoIndex_init, defBody s_NoIndex_init, defScope s_NoIndex_init, [], []⟩
abbrev s_NoTable_init : Stmt := inClass (top 44) 0
def d_NoTable_init : He.DefD := ⟨("NoTable", some "__init__"), "__init__", "NoTable.__init__", defArgs s_NoTable_init, defBody s_NoTable_init, defScope s_NoTable_init, [], []⟩
abbrev s_NoQuestion_init : Stmt := inClass (top 45) 0
def d_NoQuestion_init : He.DefD := ⟨("NoQuestion", some "__init__"), "__init__", "NoQuestion.__init__", defArgs s_NoQuestion_init, defBody s_NoQuestion_init, defScope s_NoQuestion_init, [], []⟩
abbrev s_Reader_init : Stmt := inClass (top 53) 0
def d_Reader_init : He.DefD := ⟨("Reader", some "__init__"), "__init__", "Reader.__init__", defArgs s_Reader_init, defBody s_Reader_init, defScope s_Reader_init, [], []⟩
abbrev s_Reader_take : Stmt := inClass (top 53) 1
def d_Reader_take : He.DefD := ⟨("Reader", some "take"), "take", "Reader.take", defArgs s_Reader_take, defBody s_Reader_take, defScope s_Reader_take, [], []⟩
abbrev s_Reader_finish : Stmt := inClass (top 53) 2
def d_Reader_finish : He.DefD := ⟨("Reader", some "finish"), "finish", "Reader.finish", defArgs s_Reader_finish, defBody s_Reader_finish, defScope s_Reader_finish, [], []⟩
abbrev s_read_table : Stmt := top 54
def d_read_table : He.DefD := ⟨("read_table", none), "read_table", "read_table", defArgs s_read_table, defBody s_read_table, defScope s_read_table, [], []⟩
abbrev s_read_columns : Stmt := top 55
def d_read_columns : He.DefD := ⟨("read_columns", none), "read_columns", "read_columns", defArgs s_read_columns, defBody s_read_columns, defScope s_read_columns, [], []⟩
abbrev s_refuse_repeats : Stmt := top 56
def d_refuse_repeats : He.DefD := ⟨("refuse_repeats", none), "refuse_repeats", "refuse_repeats", defArgs s_refuse_repeats, defBody s_refuse_repeats, defScope s_refuse_repeats, [], []⟩
abbrev s_read_filter : Stmt := top 57
def d_read_filter : He.DefD := ⟨("read_filter", none), "read_filter", "read_filter", defArgs s_read_filter, defBody s_read_filter, defScope s_read_filter, [], []⟩
abbrev s_read_filters : Stmt := top 58
def d_read_filters : He.DefD := ⟨("read_filters", none), "read_filters", "read_filters", defArgs s_read_filters, defBody s_read_filters, defScope s_read_filters, [], []⟩
abbrev s_read_question : Stmt := top 59
def d_read_question : He.DefD := ⟨("read_question", none), "read_question", "read_question", defArgs s_read_question, defBody s_read_question, defScope s_read_question, [], []⟩
abbrev s_read_index : Stmt := top 60
def d_read_index : He.DefD := ⟨("read_index", none), "read_index", "read_index", defArgs s_read_index, defBody s_read_index, defScope s_read_index, [], []⟩
abbrev s_Way_init : Stmt := inClass (top 64) 0
def d_Way_init : He.DefD := ⟨("Way", some "__init__"), "__init__", "Way.__init__", defArgs s_Way_init, defBody s_Way_init, defScope s_Way_init, [], []⟩
abbrev s_Way_finds : Stmt := inClass (top 64) 1
def d_Way_finds : He.DefD := ⟨("Way", some "finds"), "finds", "Way.finds", defArgs s_Way_finds, defBody s_Way_finds, defScope s_Way_finds, [], []⟩
abbrev s_Way_looks_up : Stmt := inClass (top 64) 2
def d_Way_looks_up : He.DefD := ⟨("Way", some "looks_up"), "looks_up", "Way.looks_up", defArgs s_Way_looks_up, defBody s_Way_looks_up, defScope s_Way_looks_up, [], []⟩
abbrev s_Way_found_at_end : Stmt := inClass (top 64) 3
def d_Way_found_at_end : He.DefD := ⟨("Way", some "found_at_end"), "found_at_end", "Way.found_at_end", defArgs s_Way_found_at_end, defBody s_Way_found_at_end, defScope s_Way_found_at_end, [], []⟩
abbrev s_way_by_table : Stmt := top 65
def d_way_by_table : He.DefD := ⟨("way_by_table", none), "way_by_table", "way_by_table", defArgs s_way_by_table, defBody s_way_by_table, defScope s_way_by_table, [], []⟩
abbrev s_way_by_index : Stmt := top 66
def d_way_by_index : He.DefD := ⟨("way_by_index", none), "way_by_index", "way_by_index", defArgs s_way_by_index, defBody s_way_by_index, defScope s_way_by_index, [], []⟩
abbrev s_groups_as_touched : Stmt := top 67
def d_groups_as_touched : He.DefD := ⟨("groups_as_touched", none), "groups_as_touched", "groups_as_touched", defArgs s_groups_as_touched, defBody s_groups_as_touched, defScope s_groups_as_touched, [], []⟩
abbrev s_Bench_init : Stmt := inClass (top 71) 0
def d_Bench_init : He.DefD := ⟨("Bench", some "__init__"), "__init__", "Bench.__init__", defArgs s_Bench_init, defBody s_Bench_init, defScope s_Bench_init, [], []⟩
abbrev s_Bench_take_table : Stmt := inClass (top 71) 1
def d_Bench_take_table : He.DefD := ⟨("Bench", some "take_table"), "take_table", "Bench.take_table", defArgs s_Bench_take_table, defBody s_Bench_take_table, defScope s_Bench_take_table, [], []⟩
abbrev s_Bench_take_question : Stmt := inClass (top 71) 2
def d_Bench_take_question : He.DefD := ⟨("Bench", some "take_question"), "take_question", "Bench.take_question", defArgs s_Bench_take_question, defBody s_Bench_take_question, defScope s_Bench_take_question, [], []⟩
abbrev s_Bench_take_index : Stmt := inClass (top 71) 3
def d_Bench_take_index : He.DefD := ⟨("Bench", some "take_index"), "take_index", "Bench.take_index", defArgs s_Bench_take_index, defBody s_Bench_take_index, defScope s_Bench_take_index, [], []⟩
abbrev s_Bench_plan : Stmt := inClass (top 71) 4
def d_Bench_plan : He.DefD := ⟨("Bench", some "plan"), "plan", "Bench.plan", defArgs s_Bench_plan, defBody s_Bench_plan, defScope s_Bench_plan, [], []⟩
abbrev s_Bench_why : Stmt := inClass (top 71) 5
def d_Bench_why : He.DefD := ⟨("Bench", some "why"), "why", "Bench.why", defArgs s_Bench_why, defBody s_Bench_why, defScope s_Bench_why, [], []⟩
abbrev s_Bench_work : Stmt := inClass (top 71) 6
def d_Bench_work : He.DefD := ⟨("Bench", some "work"), "work", "Bench.work", defArgs s_Bench_work, defBody s_Bench_work, defScope s_Bench_work, [], []⟩
abbrev s_Bench_whole : Stmt := inClass (top 71) 7
def d_Bench_whole : He.DefD := ⟨("Bench", some "whole"), "whole", "Bench.whole", defArgs s_Bench_whole, defBody s_Bench_whole, defScope s_Bench_whole, [], []⟩
abbrev s_Bench_best : Stmt := inClass (top 71) 8
def d_Bench_best : He.DefD := ⟨("Bench", some "best"), "best", "Bench.best", defArgs s_Bench_best, defBody s_Bench_best, defScope s_Bench_best, [], []⟩
abbrev s_Bench_trace : Stmt := inClass (top 71) 9
def d_Bench_trace : He.DefD := ⟨("Bench", some "trace"), "trace", "Bench.trace", defArgs s_Bench_trace, defBody s_Bench_trace, defScope s_Bench_trace, [], []⟩
abbrev s_Bench_answer : Stmt := inClass (top 71) 10
def d_Bench_answer : He.DefD := ⟨("Bench", some "answer"), "answer", "Bench.answer", defArgs s_Bench_answer, defBody s_Bench_answer, defScope s_Bench_answer, [], []⟩
abbrev s_Bench_rows : Stmt := inClass (top 71) 11
def d_Bench_rows : He.DefD := ⟨("Bench", some "rows"), "rows", "Bench.rows", defArgs s_Bench_rows, defBody s_Bench_rows, defScope s_Bench_rows, [], []⟩
abbrev s_Bench_prefixes : Stmt := inClass (top 71) 12
def d_Bench_prefixes : He.DefD := ⟨("Bench", some "prefixes"), "prefixes", "Bench.prefixes", defArgs s_Bench_prefixes, defBody s_Bench_prefixes, defScope s_Bench_prefixes, [], []⟩
abbrev s_Bench_count_in_range : Stmt := inClass (top 71) 13
def d_Bench_count_in_range : He.DefD := ⟨("Bench", some "count_in_range"), "count_in_range", "Bench.count_in_range", defArgs s_Bench_count_in_range, defBody s_Bench_count_in_range, defScope s_Bench_count_in_range, [], []⟩
abbrev s_Bench_way_by : Stmt := inClass (top 71) 14
def d_Bench_way_by : He.DefD := ⟨("Bench", some "way_by"), "way_by", "Bench.way_by", defArgs s_Bench_way_by, defBody s_Bench_way_by, defScope s_Bench_way_by, [], []⟩
abbrev s_Bench_way_told : Stmt := inClass (top 71) 15
def d_Bench_way_told : He.DefD := ⟨("Bench", some "way_told"), "way_told", "Bench.way_told", defArgs s_Bench_way_told, defBody s_Bench_way_told, defScope s_Bench_way_told, [], []⟩
abbrev s_Bench_ask_for_table : Stmt := inClass (top 71) 16
def d_Bench_ask_for_table : He.DefD := ⟨("Bench", some "ask_for_table"), "ask_for_table", "Bench.ask_for_table", defArgs s_Bench_ask_for_table, defBody s_Bench_ask_for_table, defScope s_Bench_ask_for_table, [], []⟩
abbrev s_Bench_ask_for_question : Stmt := inClass (top 71) 17
def d_Bench_ask_for_question : He.DefD := ⟨("Bench", some "ask_for_question"), "ask_for_question", "Bench.ask_for_question", defArgs s_Bench_ask_for_question, defBody s_Bench_ask_for_question, defScope s_Bench_ask_for_question, [], []⟩
abbrev s_Bench_ask_for_index : Stmt := inClass (top 71) 18
def d_Bench_ask_for_index : He.DefD := ⟨("Bench", some "ask_for_index"), "ask_for_index", "Bench.ask_for_index", defArgs s_Bench_ask_for_index, defBody s_Bench_ask_for_index, defScope s_Bench_ask_for_index, [], []⟩
abbrev s_Bench_ask_for_serving : Stmt := inClass (top 71) 19
def d_Bench_ask_for_serving : He.DefD := ⟨("Bench", some "ask_for_serving"), "ask_for_serving", "Bench.ask_for_serving", defArgs s_Bench_ask_for_serving, defBody s_Bench_ask_for_serving, defScope s_Bench_ask_for_serving, [], []⟩
abbrev s_answers : Stmt := top 86
def d_answers : He.DefD := ⟨("answers", none), "answers", "answers", defArgs s_answers, defBody s_answers, defScope s_answers, [], []⟩
abbrev s_split_calls : Stmt := top 87
def d_split_calls : He.DefD := ⟨("split_calls", none), "split_calls", "split_calls", defArgs s_split_calls, defBody s_split_calls, defScope s_split_calls, [], []⟩
abbrev s_answer_or_refusal : Stmt := top 88
def d_answer_or_refusal : He.DefD := ⟨("answer_or_refusal", none), "answer_or_refusal", "answer_or_refusal", defArgs s_answer_or_refusal, defBody s_answer_or_refusal, defScope s_answer_or_refusal, [], []⟩
abbrev s_answer_one : Stmt := top 89
def d_answer_one : He.DefD := ⟨("answer_one", none), "answer_one", "answer_one", defArgs s_answer_one, defBody s_answer_one, defScope s_answer_one, [], []⟩
def fn : List He.DefD := [d_Step_init, d_Work_init, d_steps_of, d_work_of, d_Share_init, d_shares_answered, d_steps_in_order, d_cells_in_order, d_first_shares, d_Run_init, d_run_of, d_group_of_each_row, d_Group_init, d_count_rows, d_Table_init, d_Filter_init, d_Filter_passes, d_Filter_is_equal, d_Filter_keeps_to, d_passes_all, d_Question_init, d_Question_filters_on, d_Question_is_equal_on, d_Question_without_equal, d_Question_needed_columns, d_Index_init, d_Index_own_columns, d_Index_with_first_keys, d_Index_holds, d_serves, d_first_lacking, d_covers, d_first_out_of_order, d_is_free, d_is_free_by_table, d_count_equal_keys, d_next_key_filters, d_groups_held, d_groups_in_range, d_Refusal_init, d_NotWhole_init, d_TooManyEntries_init, d_NoSuchWay_init, d_NotServing_init, d_NoIndex_init, d_NoTable_init, d_NoQuestion_init, d_Reader_init, d_Reader_take, d_Reader_finish, d_read_table, d_read_columns, d_refuse_repeats, d_read_filter, d_read_filters, d_read_question, d_read_index, d_Way_init, d_Way_finds, d_Way_looks_up, d_Way_found_at_end, d_way_by_table, d_way_by_index, d_groups_as_touched, d_Bench_init, d_Bench_take_table, d_Bench_take_question, d_Bench_take_index, d_Bench_plan, d_Bench_why, d_Bench_work, d_Bench_whole, d_Bench_best, d_Bench_trace, d_Bench_answer, d_Bench_rows, d_Bench_prefixes, d_Bench_count_in_range, d_Bench_way_by, d_Bench_way_told, d_Bench_ask_for_table, d_Bench_ask_for_question, d_Bench_ask_for_index, d_Bench_ask_for_serving, d_answers, d_split_calls, d_answer_or_refusal, d_answer_one]
def fa : List He.Fa := [.free "len", .free "sum", .free "all", .free "any", .free "min", .free "set", .free "sorted", .free "range", .free "enumerate", .free "Exception", .free "ValueError", .int "LOOK_UP_COST" 4, .int "SORT_COST" 3, .int "MOST_ROWS" 300, .int "MOST_COLUMNS" 4, .int "MOST_GROUPS" 12, .int "MOST_IN_GROUP" 1000000, .int "TOP_VALUE" 9, .int "MOST_LIMIT" 1000000, .int "MOST_ASKED" 1000, .int "TABLE_TOUCH_COST" 2, .int "INDEX_TOUCH_COST" 1, .int "BY_TABLE" 0, .int "BY_INDEX" 1, .int "TABLE" 0, .int "QUESTION" 1, .int "INDEX" 2, .int "PLAN" 3, .int "WHY" 4, .int "WORK" 5, .int "WHOLE" 6, .int "BEST" 7, .int "TRACE" 8, .int "ANSWER" 9, .int "ROWS" 10, .int "PREFIXES" 11, .glo "steps_of", .glo "work_of", .glo "shares_answered", .glo "steps_in_order", .glo "cells_in_order", .glo "first_shares", .glo "run_of", .glo "group_of_each_row", .glo "count_rows", .glo "passes_all", .glo "serves", .glo "first_lacking", .glo "covers", .glo "first_out_of_order", .glo "is_free", .glo "is_free_by_table", .glo "count_equal_keys", .glo "next_key_filters", .glo "groups_held", .glo "groups_in_range", .glo "read_table", .glo "read_columns", .glo "refuse_repeats", .glo "read_filter", .glo "read_filters", .glo "read_question", .glo "read_index", .glo "way_by_table", .glo "way_by_index", .glo "groups_as_touched", .glo "answers", .glo "split_calls", .glo "answer_or_refusal", .glo "answer_one", .glo "Step", .cls "Step", .mkr "Step", .noat "Step" "group", .noat "Step" "touched", .noat "Step" "looked_up", .noat "Step" "found", .glo "Work", .cls "Work", .mkr "Work", .noat "Work" "touched", .noat "Work" "looked_up", .noat "Work" "put_in_order", .noat "Work" "cost", .glo "Share", .cls "Share", .mkr "Share", .noat "Share" "group", .noat "Share" "size", .glo "Run", .cls "Run", .mkr "Run", .noat "Run" "touched", .noat "Run" "looked_up", .noat "Run" "put_in_order", .noat "Run" "found_groups", .glo "Group", .cls "Group", .mkr "Group", .noat "Group" "number", .noat "Group" "cells", .noat "Group" "size", .glo "Table", .cls "Table", .mkr "Table", .noat "Table" "width", .noat "Table" "groups", .glo "Filter", .cls "Filter", .mkr "Filter", .noat "Filter" "column", .noat "Filter" "low", .noat "Filter" "high", .glo "Question", .cls "Question", .mkr "Question", .noat "Question" "filters", .noat "Question" "order", .noat "Question" "backwards", .noat "Question" "wanted", .noat "Question" "limit", .noat "Question" "asked", .glo "Index", .cls "Index", .mkr "Index", .noat "Index" "key_columns", .noat "Index" "included", .noat "Index" "condition", .glo "Reader", .cls "Reader", .mkr "Reader", .noat "Reader" "numbers", .noat "Reader" "place", .glo "Way", .cls "Way", .mkr "Way", .noat "Way" "question", .noat "Way" "groups", .noat "Way" "free", .noat "Way" "touch_cost", .noat "Way" "look_up_filters", .glo "Bench", .cls "Bench", .mkr "Bench", .noat "Bench" "table", .noat "Bench" "question", .noat "Bench" "index", .meth "Filter" "passes", .meth "Filter" "is_equal", .meth "Filter" "keeps_to", .meth "Question" "filters_on", .meth "Question" "is_equal_on", .meth "Question" "without_equal", .meth "Question" "needed_columns", .meth "Index" "own_columns", .meth "Index" "with_first_keys", .meth "Index" "holds", .meth "Reader" "take", .meth "Reader" "finish", .meth "Way" "finds", .meth "Way" "looks_up", .meth "Way" "found_at_end", .meth "Bench" "take_table", .meth "Bench" "take_question", .meth "Bench" "take_index", .meth "Bench" "plan", .meth "Bench" "why", .meth "Bench" "work", .meth "Bench" "whole", .meth "Bench" "best", .meth "Bench" "trace", .meth "Bench" "answer", .meth "Bench" "rows", .meth "Bench" "prefixes", .meth "Bench" "count_in_range", .meth "Bench" "way_by", .meth "Bench" "way_told", .meth "Bench" "ask_for_table", .meth "Bench" "ask_for_question", .meth "Bench" "ask_for_index", .meth "Bench" "ask_for_serving", .glo "Refusal", .keep "Refusal", .glo "NotWhole", .keep "NotWhole", .glo "TooManyEntries", .keep "TooManyEntries", .glo "NoSuchWay", .keep "NoSuchWay", .glo "NotServing", .keep "NotServing", .glo "NoIndex", .keep "NoIndex", .glo "NoTable", .keep "NoTable", .glo "NoQuestion", .keep "NoQuestion", .glo "UnknownCall", .keep "UnknownCall", .exm "Refusal" "Refusal" true, .exm "NotWhole" "Refusal" true, .exm "TooManyEntries" "Refusal" true, .exm "NoSuchWay" "Refusal" true, .exm "NotServing" "Refusal" true, .exm "NoIndex" "Refusal" true, .exm "NoTable" "Refusal" true, .exm "NoQuestion" "Refusal" true]
def names0 : List Str := ["LOOK_UP_COST", "SORT_COST", "Step", "Work", "steps_of", "work_of", "Share", "shares_answered", "steps_in_order", "cells_in_order", "first_shares", "MOST_ROWS", "Run", "run_of", "group_of_each_row", "Group", "count_rows", "Table", "Filter", "passes_all", "Question", "Index", "serves", "first_lacking", "covers", "first_out_of_order", "is_free", "is_free_by_table", "count_equal_keys", "next_key_filters"]
def names1 : List Str := ["groups_held", "groups_in_range", "Refusal", "NotWhole", "TooManyEntries", "NoSuchWay", "NotServing", "NoIndex", "NoTable", "NoQuestion", "MOST_COLUMNS", "MOST_GROUPS", "MOST_IN_GROUP", "TOP_VALUE", "MOST_LIMIT", "MOST_ASKED", "Reader", "read_table", "read_columns", "refuse_repeats", "read_filter", "read_filters", "read_question", "read_index", "TABLE_TOUCH_COST", "INDEX_TOUCH_COST", "Way", "way_by_table", "way_by_index", "groups_as_touched"]
def names2 : List Str := ["BY_TABLE", "BY_INDEX", "Bench", "TABLE", "QUESTION", "INDEX", "PLAN", "WHY", "WORK", "WHOLE", "BEST", "TRACE", "ANSWER", "ROWS", "PREFIXES", "UnknownCall", "split_calls", "answer_or_refusal", "answer_one"]
def names : List Str := names0 ++ (names1 ++ (names2))
/-! ### facts of the errors' classes -/
def exTl : List Value := [.type "Exception", .type "BaseException", .type "object"]
def eqB (a b : Option Bool) : Bool := decide (a = b)
def eqT (a b : Option Value) : Bool := decide (a = b)
def excB (K : PySem.W.Frag) (x : Str) : Bool :=
  PySem.W.excInitIn K (He.ga K x) exTl "Exception.__new__" && (PySem.W.excOver K (He.ga K x) exTl && (PySem.W.hasDictIn K (He.ga K x) && (PySem.W.isClsIn K (He.ga K x) &&
  (He.eqO (PySem.W.findIn K (.ref (He.ga K x)) "__setattr__") (some (some (.builtin "object.__setattr__"))) && (He.eqO (PySem.W.findIn K (.ref (He.ga K x)) "__getattribute__") (some (some (.builtin "BaseException.__getattribute__"))) &&
  (He.eqO (PySem.W.findIn K (.ref (He.ga K x)) "__getattr__") (some none) && (He.eqO (PySem.W.findIn K (.ref (He.ga K x)) "number") (some none) &&
  (He.eqO (PySem.W.findIn K (.ref (He.ga K x)) "__init__") (some (some (.ref (He.ma K (He.ga K x) "__init__")))) && (PySem.W.isFn K (.ref (He.ma K (He.ga K x) "__init__")) && (eqT (PySem.W.typeIn K (.ref (He.ma K (He.ga K x) "__init__"))) (some (.type "function")) &&
  (eqB (PySem.W.subIn K (.ref (He.ga K x)) (.type "BaseException")) (some true) && (eqB (PySem.W.subIn K (.ref (He.ga K x)) (.type "Exception")) (some true) && (eqT (PySem.W.typeIn K (.ref (He.ga K x))) (some (.type "type")) && PySem.W.keepIn K (.ref (He.ga K x)))))))))))))))
def valB (c : Option PySem.W.CFound) (v : Value) : Bool := match c with
  | some (.val u) => decide (u = v)
  | _ => false
/-- the base's __init__ read off the class; Exception's read off it -/
def baseB (K : PySem.W.Frag) : Bool :=
  PySem.W.readsIn K (He.ga K "Refusal") (.type "type") && (He.eqO (PySem.W.specialIn K (.ref (He.ga K "Refusal")) "__getattribute__") (some (some (.builtin "type.__getattribute__"))) &&
  (valB (PySem.W.findCls K (.ref (He.ga K "Refusal")) (.type "type") "__init__") (.ref (He.ma K (He.ga K "Refusal") "__init__")) && valB (PySem.W.findCls K (.type "Exception") (.type "type") "__init__") (.builtin "Exception.__init__")))
def errs : List Str := ["NotWhole", "TooManyEntries", "NoSuchWay", "NotServing", "NoIndex", "NoTable", "NoQuestion"]
/-- the two tables are apart -/
def tabsNe (K : PySem.W.Frag) : Bool := !decide ((He.cT K ("steps_in_order", none)).2 = (He.cT K ("groups_as_touched", none)).2)
def more (K : PySem.W.Frag) : Bool := baseB K && (excB K "Refusal" && (errs.all (excB K) && tabsNe K))
/-- the defs that make lambdas -/
def tf : List He.Defn := [("steps_in_order", none), ("groups_as_touched", none)]
/-! ### the run -/
abbrev R : PySem.W.OpenSpec := PySem.Challenge.rw_oneindex_s01_answers
abbrev qv : Program := PySem.W.view R.prog [86]
abbrev hk : PySem.W.Hook := He.hookX 5 fa fn [] tf more
def ob (s : PySem.W.SharedT) : He.AlX := He.obsX 5 fa fn [] tf more (HeadRun.getT s)
theorem ob_eq (s : PySem.W.SharedT) : ob s = hk.obs s.abs := He.obsX_eq (HeadRun.getT_eq s)
end One
set_option maxHeartbeats 2000000
namespace Dl
open PySem PySem.Spec PyProof.Rows L2 NdefX
/-! ### values by what they hold -/
inductive D where
  | non | bl (b : Bool) | int (i : Int)
  | lst (ds : List D) | sq (ds : List D) | tup (ds : List D)
  | obj (C : Addr) (fs : List (Str × D))
mutual
inductive Rp (K : PySem.W.Frag) (G : Hp) : V → D → Prop
  | non : Rp K G .non .non
  | bl (b : Bool) : Rp K G (.bl b) (.bl b)
  | int (i : Int) : Rp K G (.int i) (.int i)
  | lst {a : Addr} {vs : List V} {ds : List D} : G a = some (.lst vs) → Rps K G vs ds → Rp K G (.ref a) (.lst ds)
  | sq {a : Addr} {vs : List V} {ds : List D} : SqL K G a vs → Rps K G vs ds → Rp K G (.ref a) (.sq ds)
  | tup {a : Addr} {vs : List V} {ds : List D} : SqT K G a vs → Rps K G vs ds → Rp K G (.ref a) (.tup ds)
  | obj {a C dx : Addr} {vs : List (Str × V)} {fs : List (Str × D)} : G a = some (.ins C dx vs) → Rpf K G vs fs → Rp K G (.ref a) (.obj C fs)
inductive Rps (K : PySem.W.Frag) (G : Hp) : List V → List D → Prop
  | nil : Rps K G [] []
  | cons {v : V} {vs : List V} {d : D} {ds : List D} : Rp K G v d → Rps K G vs ds → Rps K G (v :: vs) (d :: ds)
inductive Rpf (K : PySem.W.Frag) (G : Hp) : List (Str × V) → List (Str × D) → Prop
  | nil : Rpf K G [] []
  | cons {f : Str} {v : V} {vs : List (Str × V)} {d : D} {fs : List (Str × D)} : Rp K G v d → Rpf K G vs fs → Rpf K G ((f, v) :: vs) ((f, d) :: fs)
end
section
variable {K : PySem.W.Frag} {G G' : Hp}
theorem SqT_mono {a : Addr} {xs : List V} (e : Same G G') (h : SqT K G a xs) : SqT K G' a xs := by
  rcases h with (h | ⟨o, h⟩) | h
  · exact .inl (.inl (e _ _ h))
  · exact .inl (.inr ⟨o, e _ _ h⟩)
  · exact .inr h
mutual
theorem Rp.mono (s : Same G G') : ∀ {v : V} {d : D}, Rp K G v d → Rp K G' v d
  | _, _, .non => .non
  | _, _, .bl b => .bl b
  | _, _, .int i => .int i
  | _, _, .lst h r => .lst (s _ _ h) (Rps.mono s r)
  | _, _, .sq h r => .sq (s.seq h) (Rps.mono s r)
  | _, _, .tup h r => .tup (SqT_mono s h) (Rps.mono s r)
  | _, _, .obj h r => .obj (s _ _ h) (Rpf.mono s r)
theorem Rps.mono (s : Same G G') : ∀ {vs : List V} {ds : List D}, Rps K G vs ds → Rps K G' vs ds
  | _, _, .nil => .nil
  | _, _, .cons h r => .cons (Rp.mono s h) (Rps.mono s r)
theorem Rpf.mono (s : Same G G') : ∀ {vs : List (Str × V)} {ds : List (Str × D)}, Rpf K G vs ds → Rpf K G' vs ds
  | _, _, .nil => .nil
  | _, _, .cons h r => .cons (Rp.mono s h) (Rpf.mono s r)
end
theorem Rps.len : ∀ {vs : List V} {ds : List D}, Rps K G vs ds → vs.length = ds.length
  | _, _, .nil => rfl
  | _, _, .cons _ r => congrArg (· + 1) (Rps.len r)
theorem Rps.at_ : ∀ {vs : List V} {ds : List D}, Rps K G vs ds → ∀ {i : Nat} {v : V}, vs[i]? = some v → ∃ d, ds[i]? = some d ∧ Rp K G v d
  | _, _, .nil, i, v, h => by simp at h
  | _, _, .cons a r, 0, v, h => ⟨_, rfl, by cases (Option.some.inj h); exact a⟩
  | _, _, .cons a r, i + 1, v, h => Rps.at_ r (i := i) (by simpa using h)
theorem Rps.at2 : ∀ {vs : List V} {ds : List D}, Rps K G vs ds → ∀ {i : Nat} {d : D}, ds[i]? = some d → ∃ v, vs[i]? = some v ∧ Rp K G v d
  | _, _, .nil, i, v, h => by simp at h
  | _, _, .cons a r, 0, v, h => ⟨_, rfl, by cases (Option.some.inj h); exact a⟩
  | _, _, .cons a r, i + 1, v, h => Rps.at2 r (i := i) (by simpa using h)
theorem Rps.app : ∀ {vs ws : List V} {ds es : List D}, Rps K G vs ds → Rps K G ws es → Rps K G (vs ++ ws) (ds ++ es)
  | _, _, _, _, .nil, s => s
  | _, _, _, _, .cons h r, s => .cons h (Rps.app r s)
theorem Rps.split : ∀ {vs : List V} {ds : List D} {ws : List V} {es : List D}, vs.length = ds.length → Rps K G (vs ++ ws) (ds ++ es) → Rps K G vs ds ∧ Rps K G ws es
  | [], [], _, _, _, h => ⟨.nil, h⟩
  | v :: vs, d :: ds, _, _, e, h => by
    cases h with
    | cons a r =>
      obtain ⟨x, y⟩ := Rps.split (vs := vs) (ds := ds) (by simpa using e) r
      exact ⟨.cons a x, y⟩
theorem Rps.rev {vs : List V} {ds : List D} (h : Rps K G vs ds) : Rps K G vs.reverse ds.reverse := by
  induction vs generalizing ds with
  | nil => cases h; exact .nil
  | cons v vs ih =>
    cases h with
    | cons a r =>
      rw [List.reverse_cons, List.reverse_cons]
      exact (ih r).app (.cons a .nil)
theorem Rps.take : ∀ {vs : List V} {ds : List D} (n : Nat), Rps K G vs ds → Rps K G (vs.take n) (ds.take n)
  | _, _, 0, _ => .nil
  | _, _, _ + 1, .nil => .nil
  | _, _, n + 1, .cons h r => .cons h (Rps.take n r)
theorem Rps.drop : ∀ {vs : List V} {ds : List D} (n : Nat), Rps K G vs ds → Rps K G (vs.drop n) (ds.drop n)
  | _, _, 0, h => h
  | _, _, _ + 1, .nil => .nil
  | _, _, n + 1, .cons h r => Rps.drop n r
theorem Rps.ints : ∀ (ns : List Int) {vs : List V}, Rps K G vs (ns.map D.int) → vs = ns.map V.int
  | [], _, h => by cases h; rfl
  | n :: ns, _, h => by
    cases h with
    | cons a r =>
      cases a
      rw [Rps.ints ns r]
      rfl
theorem Rps.bls : ∀ (ns : List Bool) {vs : List V}, Rps K G vs (ns.map D.bl) → vs = ns.map V.bl
  | [], _, h => by cases h; rfl
  | n :: ns, _, h => by
    cases h with
    | cons a r =>
      cases a
      rw [Rps.bls ns r]
      rfl
theorem Rps.of_ints : ∀ (ns : List Int), Rps K G (ns.map V.int) (ns.map D.int)
  | [] => .nil
  | n :: ns => .cons (.int n) (Rps.of_ints ns)
theorem Rpf.len : ∀ {vs : List (Str × V)} {fs : List (Str × D)}, Rpf K G vs fs → vs.length = fs.length
  | _, _, .nil => rfl
  | _, _, .cons _ r => congrArg (· + 1) (Rpf.len r)
theorem look_cons {α : Type} (f g : Str) (y : α) (fs : List (Str × α)) : ((f, y) :: fs).lookup g = if g = f then some y else fs.lookup g := by
  by_cases h : g = f
  · subst h
    simp [List.lookup]
  · have e : (g == f) = false := by simpa using h
    rw [if_neg h]
    simp [List.lookup, e]
theorem Rpf.look {g : Str} {d : D} : ∀ {vs : List (Str × V)} {fs : List (Str × D)}, Rpf K G vs fs → fs.lookup g = some d → ∃ v, vs.lookup g = some v ∧ Rp K G v d
  | _, _, .nil, h => by cases h
  | _, _, .cons (f := f) a r, h => by
    rw [look_cons] at h ⊢
    by_cases e : g = f
    · rw [if_pos e] at h ⊢
      cases h
      exact ⟨_, rfl, a⟩
    · rw [if_neg e] at h ⊢
      exact Rpf.look r h
theorem Rpf.no {g : Str} : ∀ {vs : List (Str × V)} {fs : List (Str × D)}, Rpf K G vs fs → fs.lookup g = none → vs.lookup g = none
  | _, _, .nil, h => rfl
  | _, _, .cons (f := f) a r, h => by
    rw [look_cons] at h ⊢
    by_cases e : g = f
    · rw [if_pos e] at h
      cases h
    · rw [if_neg e] at h ⊢
      exact Rpf.no r h
def putD (f : Str) (d : D) : List (Str × D) → List (Str × D)
  | [] => [(f, d)]
  | (g, x) :: r => if g = f then (g, d) :: r else (g, x) :: putD f d r
theorem Rpf.put {f : Str} {v : V} {d : D} (hv : Rp K G v d) : ∀ {vs : List (Str × V)} {fs : List (Str × D)}, Rpf K G vs fs → Rpf K G (putF f v vs) (putD f d fs)
  | _, _, .nil => .cons hv .nil
  | _, _, .cons (f := g) a r => by
    unfold putF putD
    by_cases e : g = f
    · rw [if_pos e, if_pos e]
      exact .cons hv r
    · rw [if_neg e, if_neg e]
      exact .cons a (Rpf.put hv r)
end
/-! ### what a step may change -/
/-- of the tracked heap only what r says (and the tables of code objects); of the known part nothing; what is known anew was not tracked -/
structure Evo (T : List NTab) (r : Addr → Prop) (G H G' H' : Hp) : Prop where
  gg : Same G G'
  gh : Same G' H'
  nt : ∀ b ps, G' b ≠ some (.tbl ps)
  hh : ∀ b o, H b = some o → ¬ r b → (∀ ps, o ≠ .tbl ps) → H' b = some o
  gn : ∀ b, G' b ≠ none → G b ≠ none ∨ H b = none
  tk : ∀ b, H b ≠ none → H' b ≠ none
  tb : TabsN T H'
def noA : Addr → Prop := fun _ => False
/-- ahead of a step -/
structure Pre (T : List NTab) (G H : Hp) : Prop where
  gh : Same G H
  nt : ∀ b ps, G b ≠ some (.tbl ps)
  tb : TabsN T H
theorem Evo.refl {T : List NTab} {r : Addr → Prop} {G H : Hp} (p : Pre T G H) : Evo T r G H G H :=
  ⟨Same.refl _, p.gh, p.nt, fun _ _ e _ _ => e, fun _ h => .inl h, fun _ h => h, p.tb⟩
theorem Evo.pre {T : List NTab} {r : Addr → Prop} {G H G' H' : Hp} (e : Evo T r G H G' H') : Pre T G' H' := ⟨e.gh, e.nt, e.tb⟩
theorem Evo.trans {T : List NTab} {r : Addr → Prop} {G H G' H' G2 H2 : Hp} (a : Evo T r G H G' H') (b : Evo T r G' H' G2 H2) : Evo T r G H G2 H2 where
  gg := a.gg.trans b.gg
  gh := b.gh
  nt := b.nt
  hh := fun x o e n t => b.hh x o (a.hh x o e n t) n t
  gn := fun x h => (b.gn x h).elim (a.gn x) fun z => .inr (by
    cases q : H x with
    | none => rfl
    | some o => exact absurd z (a.tk x (by rw [q]; exact fun y => nomatch y)))
  tk := fun x h => b.tk x (a.tk x h)
  tb := b.tb
theorem Evo.wide {T : List NTab} {r r' : Addr → Prop} {G H G' H' : Hp} (a : Evo T r G H G' H') (h : ∀ b, r b → r' b) : Evo T r' G H G' H' :=
  ⟨a.gg, a.gh, a.nt, fun x o e n t => a.hh x o e (fun z => n (h x z)) t, a.gn, a.tk, a.tb⟩
theorem tabs_new {T : List NTab} {H : Hp} {p : Addr} {o : HO} (t : TabsN T H) (h : H p = none) : TabsN T (upd H p o) := t.ext fun b u e => by rw [upd_ne (ne_of_none e h)]; exact e
/-- a new object, known from now on -/
theorem Evo.made {T : List NTab} {G H : Hp} {p : Addr} {o : HO} (P : Pre T G H) (hp : H p = none) (no : ∀ ps, o ≠ .tbl ps) : Evo T noA G H (upd G p o) (upd H p o) where
  gg := fun b u e => by
    have : b ≠ p := fun z => by rw [z] at e; rw [P.gh _ _ e] at hp; cases hp
    rw [upd_ne this]; exact e
  gh := fun b u e => by
    by_cases hb : b = p
    · rw [hb, upd_same] at e ⊢; exact e
    · rw [upd_ne hb] at e ⊢; exact P.gh _ _ e
  nt := fun b ps e => by
    by_cases hb : b = p
    · rw [hb, upd_same] at e; exact no ps (Option.some.inj e)
    · rw [upd_ne hb] at e; exact P.nt b ps e
  hh := fun b u e _ _ => by rw [upd_ne (ne_of_none e hp)]; exact e
  gn := fun b h => by
    by_cases hb : b = p
    · exact .inr (by rw [hb]; exact hp)
    · rw [upd_ne hb] at h; exact .inl h
  tk := fun b h => by
    by_cases hb : b = p
    · rw [hb, upd_same]; exact fun z => nomatch z
    · rw [upd_ne hb]; exact h
  tb := tabs_new P.tb hp
/-- a new object, not known as yet -/
theorem Evo.laid {T : List NTab} {G H : Hp} {p : Addr} {o : HO} (P : Pre T G H) (hp : H p = none) : Evo T noA G H G (upd H p o) where
  gg := Same.refl _
  gh := fun b u e => by rw [upd_ne (ne_of_none (P.gh _ _ e) hp)]; exact P.gh _ _ e
  nt := P.nt
  hh := fun b u e _ _ => by rw [upd_ne (ne_of_none e hp)]; exact e
  gn := fun b h => .inl h
  tk := fun b h => by
    by_cases hb : b = p
    · rw [hb, upd_same]; exact fun z => nomatch z
    · rw [upd_ne hb]; exact h
  tb := tabs_new P.tb hp
theorem tabs_put {T : List NTab} {H : Hp} {p : Addr} {o u : HO} (t : TabsN T H) (h : H p = some u) (n1 : ∀ ps, u ≠ .tbl ps) (n2 : ∀ φ, u ≠ .ext φ) : TabsN T (upd H p o) := fun q hq => by
  obtain ⟨ps, h1, h2, h3⟩ := t q hq
  have np : q.1 ≠ p := fun z => by rw [z, h] at h1; exact n1 ps (Option.some.inj h1)
  refine ⟨ps, by rw [upd_ne np]; exact h1, h2, fun pos cv hc => ?_⟩
  obtain ⟨c, e1, e2⟩ := h3 pos cv hc
  have nc : c ≠ p := fun z => by
    rw [z, h] at e2
    exact n2 _ (Option.some.inj e2)
  exact ⟨c, e1, by rw [upd_ne nc]; exact e2⟩
/-- an object of one's own is changed -/
theorem Evo.put {T : List NTab} {G H : Hp} {p : Addr} {o u : HO} (P : Pre T G H) (hg : G p = none) (hp : H p = some u) (n1 : ∀ ps, u ≠ .tbl ps) (n2 : ∀ φ, u ≠ .ext φ) : Evo T (· = p) G H G (upd H p o) where
  gg := Same.refl _
  gh := fun b v e => by
    have : b ≠ p := fun z => by rw [z, hg] at e; cases e
    rw [upd_ne this]; exact P.gh _ _ e
  nt := P.nt
  hh := fun b v e n _ => by rw [upd_ne n]; exact e
  gn := fun b h => .inl h
  tk := fun b h => by
    by_cases hb : b = p
    · rw [hb, upd_same]; exact fun z => nomatch z
    · rw [upd_ne hb]; exact h
  tb := tabs_put P.tb hp n1 n2
/-! ### the state of a def's body -/
inductive Own where
  | lst (ds : List D) | obj (C : Addr) (fs : List (Str × D))
def Own.d : Own → D
  | .lst ds => .lst ds
  | .obj C fs => .obj C fs
/-- a slot: a value that stays as it is; an object that is changed (own: made here; bor: handed in) -/
inductive Ent where
  | val (d : D) | own (o : Own) | bor (o : Own)
abbrev En := List (Option Ent)
def OwnAt (K : PySem.W.Frag) (G H : Hp) (p : Addr) : Own → Prop
  | .lst ds => ∃ vs, H p = some (.lst vs) ∧ Rps K G vs ds
  | .obj C fs => ∃ dx vs, H p = some (.ins C dx vs) ∧ Rpf K G vs fs
theorem OwnAt.there {K : PySem.W.Frag} {G H : Hp} {p : Addr} {o : Own} (h : OwnAt K G H p o) : ∃ u, H p = some u ∧ (∀ ps, u ≠ .tbl ps) ∧ (∀ φ, u ≠ .ext φ) := by
  cases o with
  | lst ds => obtain ⟨vs, e, _⟩ := h; exact ⟨_, e, fun _ z => (nomatch z), fun _ z => (nomatch z)⟩
  | obj C fs => obtain ⟨dx, vs, e, _⟩ := h; exact ⟨_, e, fun _ z => (nomatch z), fun _ z => (nomatch z)⟩
theorem OwnAt.keep {K : PySem.W.Frag} {G H G' H' : Hp} {p : Addr} {o : Own} (h : OwnAt K G H p o) (gg : Same G G') (e : H' p = H p) : OwnAt K G' H' p o := by
  cases o with
  | lst ds => obtain ⟨vs, e1, r⟩ := h; exact ⟨vs, e.trans e1, r.mono gg⟩
  | obj C fs => obtain ⟨dx, vs, e1, r⟩ := h; exact ⟨dx, vs, e.trans e1, r.mono gg⟩
/-- what a body starts from: the known part, the heap, what was handed in to be changed, the errors' way out -/
structure Bs where
  K : PySem.W.Frag
  T : List NTab
  G : Hp
  H : Hp
  rb : Addr → Prop
/-- a slot holds what the entry says -/
def Slot (B : Bs) (G H : Hp) (x : Option V) : Ent → Prop
  | .val d => ∃ v, x = some v ∧ Rp B.K G v d
  | .own o => ∃ p, x = some (.ref p) ∧ OwnAt B.K G H p o ∧ G p = none ∧ B.H p = none
  | .bor o => ∃ p, x = some (.ref p) ∧ OwnAt B.K G H p o ∧ G p = none ∧ B.rb p
def Ent.mut : Ent → Prop
  | .val _ => False
  | _ => True
structure Ok (B : Bs) (G : Hp) (σ : L2.St) (H : Hp) (e : En) (vs : List V) (ds : List D) : Prop where
  ev : Evo B.T B.rb B.G B.H G H
  slot : ∀ (i : Nat) (t : Ent), e[i]? = some (some t) → ∃ x, σ[i]? = some x ∧ Slot B G H x t
  ne : ∀ (i j : Nat) (t u : Ent) (p : Addr), e[i]? = some (some t) → e[j]? = some (some u) → t.mut → u.mut → σ[i]? = some (some (.ref p)) → σ[j]? = some (some (.ref p)) → i = j
  tmp : Rps B.K G vs ds
  len : σ.length = e.length
def Sta (B : Bs) (σ : L2.St) (H : Hp) (e : En) (vs : List V) (ds : List D) : Prop := ∃ G, Ok B G σ H e vs ds
section
variable {B : Bs} {G G' H H' : Hp} {σ : L2.St} {e : En} {vs : List V} {ds : List D}
theorem Ok.pre (h : Ok B G σ H e vs ds) : Pre B.T G H := h.ev.pre
/-- what is one's own is neither known nor another's -/
theorem Slot.step {x : Option V} {t : Ent} {r : Addr → Prop} (h : Slot B G H x t) (a : Evo B.T r G H G' H') (hr : ∀ p, x = some (.ref p) → t.mut → ¬ r p) : Slot B G' H' x t := by
  have go : ∀ {p : Addr} {o : Own}, OwnAt B.K G H p o → G p = none → ¬ r p → OwnAt B.K G' H' p o ∧ G' p = none := fun {p o} w g n => by
    obtain ⟨u, e1, n1, _⟩ := w.there
    refine ⟨w.keep a.gg ((a.hh p u e1 n n1).trans e1.symm), ?_⟩
    cases q : G' p with
    | none => rfl
    | some v =>
      rcases a.gn p (by rw [q]; exact fun z => nomatch z) with z | z
      · exact absurd g z
      · rw [e1] at z; cases z
  cases t with
  | val d => obtain ⟨v, e1, r1⟩ := h; exact ⟨v, e1, r1.mono a.gg⟩
  | own o =>
    obtain ⟨p, e1, w, g, z⟩ := h
    obtain ⟨w', g'⟩ := go w g (hr p e1 trivial)
    exact ⟨p, e1, w', g', z⟩
  | bor o =>
    obtain ⟨p, e1, w, g, z⟩ := h
    obtain ⟨w', g'⟩ := go w g (hr p e1 trivial)
    exact ⟨p, e1, w', g', z⟩
/-- a step that changes nothing of one's own -/
theorem Ok.step (h : Ok B G σ H e vs ds) (a : Evo B.T noA G H G' H') : Ok B G' σ H' e vs ds where
  ev := h.ev.trans (a.wide fun _ z => z.elim)
  slot := fun i t q => let ⟨x, e1, s⟩ := h.slot i t q; ⟨x, e1, s.step a fun _ _ _ z => z⟩
  ne := h.ne
  tmp := h.tmp.mono a.gg
  len := h.len
theorem Ok.push (h : Ok B G σ H e vs ds) {v : V} {d : D} (r : Rp B.K G v d) : Ok B G σ H e (v :: vs) (d :: ds) := ⟨h.ev, h.slot, h.ne, .cons r h.tmp, h.len⟩
theorem Ok.pop (h : Ok B G σ H e (v :: vs) (d :: ds)) : Ok B G σ H e vs ds ∧ Rp B.K G v d := by
  obtain ⟨a, b, c, t, l⟩ := h
  cases t with
  | cons r t => exact ⟨⟨a, b, c, t, l⟩, r⟩
theorem Ok.temps (h : Ok B G σ H e vs ds) {ws : List V} {es : List D} (r : Rps B.K G ws es) : Ok B G σ H e ws es := ⟨h.ev, h.slot, h.ne, r, h.len⟩
/-- a slot gets a value -/
theorem Ok.set (h : Ok B G σ H e vs ds) {i : Nat} {v : V} {d : D} (hi : i < e.length) (r : Rp B.K G v d) : Ok B G (σ.set i (some v)) H (e.set i (some (.val d))) vs ds where
  ev := h.ev
  slot := fun j t q => by
    by_cases hj : i = j
    · subst hj
      rw [List.getElem?_set_self hi] at q
      cases Option.some.inj (Option.some.inj q)
      exact ⟨some v, by rw [List.getElem?_set_self (by rw [h.len]; exact hi)], v, rfl, r⟩
    · rw [List.getElem?_set_ne hj] at q
      rw [List.getElem?_set_ne hj]
      exact h.slot j t q
  ne := fun a b t u p q1 q2 m1 m2 s1 s2 => by
    have go : ∀ {c : Nat} {t : Ent}, (e.set i (some (.val d)))[c]? = some (some t) → t.mut → i ≠ c := fun {c t} q m z => by
      subst z
      rw [List.getElem?_set_self hi] at q
      cases Option.some.inj (Option.some.inj q)
      exact m
    have na := go q1 m1
    have nb := go q2 m2
    rw [List.getElem?_set_ne na] at q1 s1
    rw [List.getElem?_set_ne nb] at q2 s2
    exact h.ne a b t u p q1 q2 m1 m2 s1 s2
  tmp := h.tmp
  len := by rw [List.length_set, List.length_set]; exact h.len
/-- a slot is forgotten -/
theorem Ok.drop (h : Ok B G σ H e vs ds) {i : Nat} {x : Option V} : Ok B G (σ.set i x) H (e.set i none) vs ds where
  ev := h.ev
  slot := fun j t q => by
    by_cases hj : i = j
    · subst hj
      by_cases hi : i < e.length
      · rw [List.getElem?_set_self hi] at q
        cases Option.some.inj q
      · rw [List.getElem?_eq_none (by rw [List.length_set]; omega)] at q
        cases q
    · rw [List.getElem?_set_ne hj] at q
      rw [List.getElem?_set_ne hj]
      exact h.slot j t q
  ne := fun a b t u p q1 q2 m1 m2 s1 s2 => by
    have go : ∀ {c : Nat} {t : Ent}, (e.set i none)[c]? = some (some t) → i ≠ c := fun {c t} q z => by
      subst z
      by_cases hi : i < e.length
      · rw [List.getElem?_set_self hi] at q
        cases Option.some.inj q
      · rw [List.getElem?_eq_none (by rw [List.length_set]; omega)] at q
        cases q
    have na := go q1
    have nb := go q2
    rw [List.getElem?_set_ne na] at q1 s1
    rw [List.getElem?_set_ne nb] at q2 s2
    exact h.ne a b t u p q1 q2 m1 m2 s1 s2
  tmp := h.tmp
  len := by rw [List.length_set, List.length_set]; exact h.len
/-- what is made here and held by no slot -/
structure New (B : Bs) (G : Hp) (σ : L2.St) (H : Hp) (e : En) (p : Addr) (o : Own) : Prop where
  at_ : OwnAt B.K G H p o
  g : G p = none
  h : B.H p = none
  no : ∀ (i : Nat) (t : Ent), e[i]? = some (some t) → t.mut → σ[i]? ≠ some (some (.ref p))
/-- a slot gets an object of one's own -/
theorem Ok.setO (h : Ok B G σ H e vs ds) {i : Nat} {p : Addr} {o : Own} (hi : i < e.length) (r : New B G σ H e p o) : Ok B G (σ.set i (some (.ref p))) H (e.set i (some (.own o))) vs ds where
  ev := h.ev
  slot := fun j t q => by
    by_cases hj : i = j
    · subst hj
      rw [List.getElem?_set_self hi] at q
      cases Option.some.inj (Option.some.inj q)
      exact ⟨some (.ref p), by rw [List.getElem?_set_self (by rw [h.len]; exact hi)], p, rfl, r.at_, r.g, r.h⟩
    · rw [List.getElem?_set_ne hj] at q
      rw [List.getElem?_set_ne hj]
      exact h.slot j t q
  ne := fun a b t u q q1 q2 m1 m2 s1 s2 => by
    have hσ : i < σ.length := by rw [h.len]; exact hi
    by_cases ha : i = a
    · by_cases hb : i = b
      · exact ha.symm.trans hb
      · subst ha
        rw [List.getElem?_set_self hσ] at s1
        cases Option.some.inj (Option.some.inj s1)
        rw [List.getElem?_set_ne hb] at q2 s2
        exact absurd s2 (r.no b u q2 m2)
    · by_cases hb : i = b
      · subst hb
        rw [List.getElem?_set_self hσ] at s2
        cases Option.some.inj (Option.some.inj s2)
        rw [List.getElem?_set_ne ha] at q1 s1
        exact absurd s1 (r.no a t q1 m1)
      · rw [List.getElem?_set_ne ha] at q1 s1
        rw [List.getElem?_set_ne hb] at q2 s2
        exact h.ne a b t u q q1 q2 m1 m2 s1 s2
  tmp := h.tmp
  len := by rw [List.length_set, List.length_set]; exact h.len
end
end Dl
namespace Dl
open PySem PySem.Spec PyProof.Rows L2 NdefX
section
variable {B : Bs} {G G' H H' : Hp} {σ : L2.St} {e e1 e2 : En} {vs : List V} {ds : List D}
/-! ### what becomes known -/
theorem OwnAt.rp {K : PySem.W.Frag} {G H : Hp} {p : Addr} {o : Own} {u : HO} (h : OwnAt K G H p o) (eu : H p = some u) (g : G p = none) : Rp K (upd G p u) (.ref p) o.d := by
  have gg : Same G (upd G p u) := fun b v e => by
    have : b ≠ p := fun z => by rw [z, g] at e; cases e
    rw [upd_ne this]; exact e
  cases o with
  | lst ds =>
    obtain ⟨vs, e1, r⟩ := h
    rw [eu] at e1
    cases e1
    exact .lst upd_same (r.mono gg)
  | obj C fs =>
    obtain ⟨dx, vs, e1, r⟩ := h
    rw [eu] at e1
    cases e1
    exact .obj upd_same (r.mono gg)
theorem Evo.know {T : List NTab} {r : Addr → Prop} {G0 H0 G H : Hp} {p : Addr} {u : HO} (a : Evo T r G0 H0 G H) (g : G p = none) (eu : H p = some u) (nu : ∀ ps, u ≠ .tbl ps) (h0 : H0 p = none) : Evo T r G0 H0 (upd G p u) H where
  gg := fun b v e => by
    have e2 := a.gg b v e
    have : b ≠ p := fun z => by rw [z, g] at e2; cases e2
    rw [upd_ne this]; exact e2
  gh := fun b v e => by
    by_cases hb : b = p
    · rw [hb, upd_same] at e; rw [hb]; cases e; exact eu
    · rw [upd_ne hb] at e; exact a.gh _ _ e
  nt := fun b ps e => by
    by_cases hb : b = p
    · rw [hb, upd_same] at e; exact nu ps (Option.some.inj e)
    · rw [upd_ne hb] at e; exact a.nt b ps e
  hh := a.hh
  gn := fun b h => by
    by_cases hb : b = p
    · exact .inr (by rw [hb]; exact h0)
    · rw [upd_ne hb] at h; exact a.gn b h
  tk := a.tk
  tb := a.tb
theorem same_upd {G : Hp} {p : Addr} {u : HO} (g : G p = none) : Same G (upd G p u) := fun b v e => by
  have : b ≠ p := fun z => by rw [z, g] at e; cases e
  rw [upd_ne this]; exact e
theorem Slot.know {x : Option V} {t : Ent} {p : Addr} {u : HO} (h : Slot B G H x t) (g : G p = none) (np : t.mut → x ≠ some (.ref p)) : Slot B (upd G p u) H x t := by
  have gg := same_upd (u := u) g
  cases t with
  | val d => obtain ⟨v, e1, r1⟩ := h; exact ⟨v, e1, r1.mono gg⟩
  | own o =>
    obtain ⟨q, e1, w, g1, z⟩ := h
    exact ⟨q, e1, w.keep gg rfl, by rw [upd_ne (fun z => np trivial (by rw [e1, z]))]; exact g1, z⟩
  | bor o =>
    obtain ⟨q, e1, w, g1, z⟩ := h
    exact ⟨q, e1, w.keep gg rfl, by rw [upd_ne (fun z => np trivial (by rw [e1, z]))]; exact g1, z⟩
/-- one's own object, just made, is from now on known -/
theorem Ok.knowN (h : Ok B G σ H e vs ds) {p : Addr} {o : Own} (r : New B G σ H e p o) : ∃ G', Ok B G' σ H e (.ref p :: vs) (o.d :: ds) := by
  obtain ⟨u, eu, nu, _⟩ := r.at_.there
  refine ⟨upd G p u, h.ev.know r.g eu nu r.h, fun i t q => ?_, h.ne, .cons (r.at_.rp eu r.g) (h.tmp.mono (same_upd r.g)), h.len⟩
  obtain ⟨x, e1, s⟩ := h.slot i t q
  exact ⟨x, e1, s.know r.g fun m z => r.no i t q m (by rw [e1, z])⟩
/-- .. the slot's -/
theorem Ok.know (h : Ok B G σ H e vs ds) {i : Nat} {o : Own} (hi : e[i]? = some (some (.own o))) : ∃ G' v, Ok B G' σ H (e.set i (some (.val o.d))) (v :: vs) (o.d :: ds) ∧ σ[i]? = some (some v) := by
  obtain ⟨x, ex, p, rfl, w, g, z⟩ := h.slot i _ hi
  obtain ⟨u, eu, nu, _⟩ := w.there
  have lt : i < e.length := (List.getElem?_eq_some_iff.mp hi).1
  refine ⟨upd G p u, .ref p, ⟨h.ev.know g eu nu z, fun j t q => ?_, fun a b t t' q q1 q2 m1 m2 s1 s2 => ?_, .cons (w.rp eu g) (h.tmp.mono (same_upd g)), by rw [List.length_set]; exact h.len⟩, ex⟩
  · by_cases hj : i = j
    · subst hj
      rw [List.getElem?_set_self lt] at q
      cases Option.some.inj (Option.some.inj q)
      exact ⟨_, ex, _, rfl, w.rp eu g⟩
    · rw [List.getElem?_set_ne hj] at q
      obtain ⟨y, ey, s⟩ := h.slot j t q
      exact ⟨y, ey, s.know g fun m z2 => hj (h.ne i j _ t p hi q trivial m ex (by rw [ey, z2]))⟩
  · have go : ∀ {c : Nat} {t : Ent}, (e.set i (some (.val o.d)))[c]? = some (some t) → t.mut → e[c]? = some (some t) := fun {c t} q m => by
      by_cases hc : i = c
      · subst hc
        rw [List.getElem?_set_self lt] at q
        cases Option.some.inj (Option.some.inj q)
        exact m.elim
      · rw [List.getElem?_set_ne hc] at q
        exact q
    exact h.ne a b t t' q (go q1 m1) (go q2 m2) m1 m2 s1 s2
/-! ### judgements -/
def Ev (B : Bs) (te : TE) (e : En) (d : D) (e' : En) : Prop := ∀ (σ : L2.St) (H : Hp) (vs : List V) (ds : List D) (Q : VK), Sta B σ H e vs ds → (∀ v H', Sta B σ H' e' (v :: vs) (d :: ds) → Q v H') → te σ H Q
/-- the value is an object that no one else holds -/
def EvO (B : Bs) (te : TE) (e : En) (o : Own) (e' : En) : Prop := ∀ (σ : L2.St) (H : Hp) (vs : List V) (ds : List D) (Q : VK), Sta B σ H e vs ds → (∀ p H' G', Ok B G' σ H' e' vs ds → New B G' σ H' e' p o → Q (.ref p) H') → te σ H Q
def EvT (B : Bs) (tt : TT) (e : En) (b : Bool) (e' : En) : Prop := ∀ (σ : L2.St) (H : Hp) (vs : List V) (ds : List D) (Q : Bool → Hp → Prop), Sta B σ H e vs ds → (∀ H', Sta B σ H' e' vs ds → Q b H') → tt σ H Q
def EvA (B : Bs) (ta : TA) (e : En) (as : List D) (e' : En) : Prop := ∀ (σ : L2.St) (H : Hp) (vs : List V) (ds : List D) (Q : List V → Hp → Prop), Sta B σ H e vs ds → (∀ ws H', ws.length = as.length → Sta B σ H' e' (ws ++ vs) (as ++ ds) → Q ws H') → ta σ H Q
/-- a value that the heap doesn't bear -/
def sv : D → Option V
  | .non => some .non
  | .bl b => some (.bl b)
  | .int i => some (.int i)
  | _ => none
theorem sv_rp {K : PySem.W.Frag} {G : Hp} {d : D} {v w : V} (h : sv d = some v) (r : Rp K G w d) : w = v := by
  cases r <;> cases h <;> rfl
theorem rp_sv {K : PySem.W.Frag} {G : Hp} {d : D} {v : V} (h : sv d = some v) : Rp K G v d := by
  cases d <;> cases h
  · exact .non
  · exact .bl _
  · exact .int _
theorem ev_var {i : Nat} {d : D} (h : e[i]? = some (some (.val d))) : Ev B (tVar i) e d e := fun σ H vs ds Q ⟨G, s⟩ k => by
  obtain ⟨x, ex, v, rfl, r⟩ := s.slot i _ h
  exact ⟨v, ex, k v H ⟨G, s.push r⟩⟩
theorem ev_own {i : Nat} {o : Own} (h : e[i]? = some (some (.own o))) : Ev B (tVar i) e o.d (e.set i (some (.val o.d))) := fun σ H vs ds Q ⟨G, s⟩ k => by
  obtain ⟨G', v, s', ex⟩ := s.know h
  exact ⟨v, ex, k v H ⟨G', s'⟩⟩
theorem ev_c {v : V} {d : D} (h : sv d = some v) : Ev B (tC v) e d e := fun σ H vs ds Q ⟨G, s⟩ k => k v H ⟨G, s.push (rp_sv h)⟩
theorem ev_int {i : Int} : Ev B (tC (.int i)) e (.int i) e := ev_c rfl
theorem ev_bl {b : Bool} : Ev B (tC (.bl b)) e (.bl b) e := ev_c rfl
theorem ev_non : Ev B (tC .non) e .non e := ev_c rfl
theorem ev_ofO {te : TE} {o : Own} (h : EvO B te e o e1) : Ev B te e o.d e1 := fun σ H vs ds Q s k => h σ H vs ds Q s fun p H' G' s' n => by
  obtain ⟨G2, s2⟩ := s'.knowN n
  exact k _ _ ⟨G2, s2⟩
theorem ev_eq {te : TE} {d d' : D} (h : Ev B te e d e1) (q : d = d') : Ev B te e d' e1 := q ▸ h
theorem ev_fld {ta : TE} {C : Addr} {fs : List (Str × D)} {f : Str} {d : D} (ha : Ev B ta e (.obj C fs) e1) (c : Cls B.K C) (n : NoAttr B.K C f) (l : fs.lookup f = some d) : Ev B (tFld B.K ta f) e d e1 := fun σ H vs ds Q s k =>
  ha σ H vs ds _ s fun v H' ⟨G', s'⟩ => by
    obtain ⟨s2, r⟩ := s'.pop
    cases r with
    | obj ga rf =>
      obtain ⟨v, lv, rv⟩ := rf.look l
      exact ⟨_, C, _, _, v, rfl, s2.ev.gh _ _ ga, c, n, lv, k v H' ⟨G', s2.push rv⟩⟩
/-- an object of one's own, or handed in -/
def Ent.ob : Ent → Option (Addr × List (Str × D))
  | .own (.obj C fs) => some (C, fs)
  | .bor (.obj C fs) => some (C, fs)
  | _ => none
theorem slot_ob {x : Option V} {t : Ent} {C : Addr} {fs : List (Str × D)} (h : Slot B G H x t) (q : t.ob = some (C, fs)) : t.mut ∧ ∃ p dx ws, x = some (.ref p) ∧ H p = some (.ins C dx ws) ∧ Rpf B.K G ws fs ∧ G p = none := by
  cases t with
  | val d => cases q
  | own o =>
    cases o with
    | lst _ => cases q
    | obj C fs => cases q; obtain ⟨p, e1, ⟨dx, ws, e2, r⟩, g, _⟩ := h; exact ⟨trivial, p, dx, ws, e1, e2, r, g⟩
  | bor o =>
    cases o with
    | lst _ => cases q
    | obj C fs => cases q; obtain ⟨p, e1, ⟨dx, ws, e2, r⟩, g, _⟩ := h; exact ⟨trivial, p, dx, ws, e1, e2, r, g⟩
theorem ev_fldS {i : Nat} {t : Ent} {C : Addr} {fs : List (Str × D)} {f : Str} {d : D} (h : e[i]? = some (some t)) (o : t.ob = some (C, fs)) (c : Cls B.K C) (n : NoAttr B.K C f) (l : fs.lookup f = some d) : Ev B (tFld B.K (tVar i) f) e d e := fun σ H vs ds Q ⟨G, s⟩ k => by
  obtain ⟨x, ex, sl⟩ := s.slot i _ h
  obtain ⟨_, p, dx, ws, rfl, hp, r, _⟩ := slot_ob sl o
  obtain ⟨v, lv, rv⟩ := r.look l
  exact ⟨_, ex, p, C, dx, _, v, rfl, hp, c, n, lv, k v H ⟨G, s.push rv⟩⟩
/-! ### operators -/
theorem ev_opS {r : R2} {ta tb : TE} {x y z : D} {v w u : V} (ha : Ev B ta e x e1) (hb : Ev B tb e1 y e2) (hx : sv x = some v) (hy : sv y = some w) (hz : sv z = some u) (hr : ∀ (H : Hp) (Q : VK), Q u H → r v w H Q) : Ev B (tOp r ta tb) e z e2 := fun σ H vs ds Q s k =>
  ha σ H vs ds _ s fun v1 H1 s1 => hb σ H1 _ _ _ s1 fun w1 H2 ⟨G2, s2⟩ => by
    obtain ⟨s3, rw_⟩ := s2.pop
    obtain ⟨s4, rv⟩ := s3.pop
    obtain rfl := sv_rp hx rv
    obtain rfl := sv_rp hy rw_
    exact hr H2 Q (k u H2 ⟨G2, s4.push (rp_sv hz)⟩)
theorem ev_ii {f : Int → Int → Int} {ta tb : TE} {i j : Int} (ha : Ev B ta e (.int i) e1) (hb : Ev B tb e1 (.int j) e2) : Ev B (tOp (rI0 fun i j => .int (f i j)) ta tb) e (.int (f i j)) e2 := ev_opS ha hb rfl rfl rfl fun H Q q => ⟨i, j, rfl, rfl, q⟩
theorem ev_ib {f : Int → Int → Bool} {ta tb : TE} {i j : Int} (ha : Ev B ta e (.int i) e1) (hb : Ev B tb e1 (.int j) e2) : Ev B (tOp (rI0 fun i j => .bl (f i j)) ta tb) e (.bl (f i j)) e2 := ev_opS ha hb rfl rfl rfl fun H Q q => ⟨i, j, rfl, rfl, q⟩
theorem ev_iiC {C : Int → Int → Prop} {f : Int → Int → Int} {ta tb : TE} {i j : Int} (ha : Ev B ta e (.int i) e1) (hb : Ev B tb e1 (.int j) e2) (c : C i j) : Ev B (tOp (rI C fun i j => .int (f i j)) ta tb) e (.int (f i j)) e2 := ev_opS ha hb rfl rfl rfl fun H Q q => ⟨i, j, rfl, rfl, c, q⟩
theorem ev_eqI {ta tb : TE} {i j : Int} (ha : Ev B ta e (.int i) e1) (hb : Ev B tb e1 (.int j) e2) : Ev B (tOp rEq ta tb) e (.bl (decide (i = j))) e2 := ev_opS ha hb rfl rfl rfl fun H Q q => ⟨rfl, by
  have : decide (V.int i = V.int j) = decide (i = j) := by
    by_cases h : i = j
    · subst h; simp
    · have h2 : ¬ V.int i = V.int j := fun z => h (V.int.inj z)
      rw [decide_eq_false h, decide_eq_false h2]
  rw [this]; exact q⟩
theorem ev_neI {ta tb : TE} {i j : Int} (ha : Ev B ta e (.int i) e1) (hb : Ev B tb e1 (.int j) e2) : Ev B (tOp rNe ta tb) e (.bl (!decide (i = j))) e2 := ev_opS ha hb rfl rfl rfl fun H Q q => ⟨rfl, by
  have : decide (V.int i = V.int j) = decide (i = j) := by
    by_cases h : i = j
    · subst h; simp
    · have h2 : ¬ V.int i = V.int j := fun z => h (V.int.inj z)
      rw [decide_eq_false h, decide_eq_false h2]
  rw [this]; exact q⟩
def D.isN : D → Bool
  | .non => true
  | _ => false
theorem isN_rp {K : PySem.W.Frag} {v : V} {d : D} (r : Rp K G v d) : decide (v = .non) = d.isN := by
  cases r <;> rfl
theorem ev_isN {ta : TE} {d : D} (ha : Ev B ta e d e1) : Ev B (tIsN ta) e (.bl d.isN) e1 := fun σ H vs ds Q s k => ha σ H vs ds _ s fun v H' ⟨G', s'⟩ => by
  obtain ⟨s2, r⟩ := s'.pop
  rw [isN_rp r]
  exact k _ H' ⟨G', s2.push (.bl _)⟩
theorem ev_notN {ta : TE} {d : D} (ha : Ev B ta e d e1) : Ev B (tNotN ta) e (.bl (!d.isN)) e1 := fun σ H vs ds Q s k => ha σ H vs ds _ s fun v H' ⟨G', s'⟩ => by
  obtain ⟨s2, r⟩ := s'.pop
  rw [isN_rp r]
  exact k _ H' ⟨G', s2.push (.bl _)⟩
theorem ev_not {ta : TE} {b : Bool} (ha : Ev B ta e (.bl b) e1) : Ev B (tNotV ta) e (.bl (!b)) e1 := fun σ H vs ds Q s k => ha σ H vs ds _ s fun v H' ⟨G', s'⟩ => by
  obtain ⟨s2, r⟩ := s'.pop
  cases r
  exact ⟨b, rfl, k _ H' ⟨G', s2.push (.bl _)⟩⟩
theorem ev_and {ta tb : TE} {a b : Bool} (ha : Ev B ta e (.bl a) e1) (hb : a = true → Ev B tb e1 (.bl b) e1) : Ev B (tAndV ta tb) e (.bl (a && b)) e1 := fun σ H vs ds Q s k => ha σ H vs ds _ s fun v H' ⟨G', s'⟩ => by
  obtain ⟨s2, r⟩ := s'.pop
  cases r
  refine ⟨a, rfl, ?_⟩
  cases a with
  | true => exact iteT (hb rfl σ H' vs ds Q ⟨G', s2⟩ k)
  | false => exact iteF (k _ H' ⟨G', s2.push (.bl _)⟩)
theorem ev_or {ta tb : TE} {a b : Bool} (ha : Ev B ta e (.bl a) e1) (hb : a = false → Ev B tb e1 (.bl b) e1) : Ev B (tOrV ta tb) e (.bl (a || b)) e1 := fun σ H vs ds Q s k => ha σ H vs ds _ s fun v H' ⟨G', s'⟩ => by
  obtain ⟨s2, r⟩ := s'.pop
  cases r
  refine ⟨a, rfl, ?_⟩
  cases a with
  | true => exact iteT (k _ H' ⟨G', s2.push (.bl _)⟩)
  | false => exact iteF (hb rfl σ H' vs ds Q ⟨G', s2⟩ k)
/-- a <= b <= c -/
theorem ev_chain {ta tb tc : TE} {f f' : Int → Int → Bool} {i j l : Int} (ha : Ev B ta e (.int i) e) (hb : Ev B tb e (.int j) e) (hc : Ev B tc e (.int l) e) :
    Ev B (tChain (rI0 fun i j => .bl (f i j)) (rI0 fun i j => .bl (f' i j)) ta tb tc) e (.bl (f i j && f' j l)) e := fun σ H vs ds Q s k =>
  ha σ H vs ds _ s fun v1 H1 s1 => hb σ H1 _ _ _ s1 fun w1 H2 ⟨G2, s2⟩ => by
    obtain ⟨s3, rw_⟩ := s2.pop
    obtain ⟨s4, rv⟩ := s3.pop
    cases rv
    cases rw_
    refine ⟨i, j, rfl, rfl, f i j, rfl, ?_⟩
    cases h : f i j with
    | false =>
      rw [h] at k
      exact iteF (k _ H2 ⟨G2, s4.push (.bl _)⟩)
    | true =>
      rw [h] at k
      refine iteT (hc σ H2 vs ds _ ⟨G2, s4⟩ fun v3 H3 ⟨G3, s5⟩ => ?_)
      obtain ⟨s6, r3⟩ := s5.pop
      cases r3
      exact ⟨j, l, rfl, rfl, k _ H3 ⟨G3, s6.push (.bl _)⟩⟩
theorem et_B {te : TE} {b : Bool} (h : Ev B te e (.bl b) e1) : EvT B (tB te) e b e1 := fun σ H vs ds Q s k => h σ H vs ds _ s fun v H' ⟨G', s'⟩ => by
  obtain ⟨s2, r⟩ := s'.pop
  cases r
  exact ⟨b, rfl, k H' ⟨G', s2⟩⟩
theorem et_yes : EvT B tYes e true e := fun σ H vs ds Q s k => k H s
theorem ev_if {t : TT} {ta tb : TE} {b : Bool} {d : D} (h : EvT B t e b e1) (h1 : b = true → Ev B ta e1 d e2) (h2 : b = false → Ev B tb e1 d e2) : Ev B (tIf t ta tb) e d e2 := fun σ H vs ds Q s k => h σ H vs ds _ s fun H' s' => by
  cases b with
  | true => exact iteT (h1 rfl σ H' vs ds Q s' k)
  | false => exact iteF (h2 rfl σ H' vs ds Q s' k)
theorem ev_if2 {t : TT} {ta tb : TE} {b : Bool} {d1 d2 : D} (h : EvT B t e b e1) (h1 : b = true → Ev B ta e1 d1 e2) (h2 : b = false → Ev B tb e1 d2 e2) : Ev B (tIf t ta tb) e (if b = true then d1 else d2) e2 :=
  ev_if h (fun z => by rw [if_pos z]; exact h1 z) (fun z => by rw [if_neg (by rw [z]; decide)]; exact h2 z)
/-! ### arguments -/
theorem ea_nil : EvA B tNil e [] e := fun σ H vs ds Q s k => k [] H rfl s
theorem ea_cons {ta : TE} {tr : TA} {d : D} {as : List D} (h : Ev B ta e d e1) (hr : EvA B tr e1 as e2) : EvA B (tCons ta tr) e (d :: as) e2 := fun σ H vs ds Q s k =>
  h σ H vs ds _ s fun v H1 s1 => hr σ H1 _ _ _ s1 fun ws H2 lw ⟨G2, s2⟩ => by
    refine k (v :: ws) H2 (by simp [lw]) ⟨G2, s2.temps ?_⟩
    obtain ⟨x, y⟩ := Rps.split lw s2.tmp
    cases y with
    | cons a b => exact (Rps.cons a x).app b
/-- the arguments, taken off -/
theorem Ok.args {ws : List V} {as : List D} (s : Ok B G σ H e (ws ++ vs) (as ++ ds)) (l : ws.length = as.length) : Ok B G σ H e vs ds ∧ Rps B.K G ws as := by
  obtain ⟨x, y⟩ := Rps.split l s.tmp
  exact ⟨s.temps y, x⟩
/-! ### displays -/
theorem Ok.made (s : Ok B G σ H e vs ds) {p : Addr} {o : Own} {u : HO} (hp : H p = none) (w : OwnAt B.K G (upd H p u) p o) : Ok B G σ (upd H p u) e vs ds ∧ New B G σ (upd H p u) e p o := by
  have h0 : B.H p = none := by
    cases q : B.H p with
    | none => rfl
    | some o => exact absurd hp (s.ev.tk p (by rw [q]; exact fun z => nomatch z))
  have g0 : G p = none := by
    cases q : G p with
    | none => rfl
    | some o => rw [s.ev.gh _ _ q] at hp; cases hp
  refine ⟨s.step (Evo.laid s.pre hp), w, g0, h0, fun i t q m z => ?_⟩
  obtain ⟨x, ex, sl⟩ := s.slot i t q
  rw [ex] at z
  cases Option.some.inj z
  cases t with
  | val d => exact m
  | own o =>
    obtain ⟨p', e1, w', _⟩ := sl
    cases Option.some.inj e1
    obtain ⟨u', eu, _⟩ := w'.there
    rw [hp] at eu
    cases eu
  | bor o =>
    obtain ⟨p', e1, w', _⟩ := sl
    cases Option.some.inj e1
    obtain ⟨u', eu, _⟩ := w'.there
    rw [hp] at eu
    cases eu
theorem eo_lst {ta : TA} {as : List D} (h : EvA B ta e as e1) (hl : as.length ≤ 1000) : EvO B (tLst ta) e (.lst as) e1 := fun σ H vs ds Q s k => h σ H vs ds _ s fun ws H' lw ⟨G', s'⟩ => by
  obtain ⟨s2, r⟩ := s'.args lw
  refine ⟨by rw [lw]; exact Nat.le_of_lt (small1000 hl), fun p hp => ?_⟩
  obtain ⟨a, b⟩ := s2.made (o := .lst as) hp ⟨ws, upd_same, r⟩
  exact k p _ _ a b
theorem ev_lst {ta : TA} {as : List D} (h : EvA B ta e as e1) (hl : as.length ≤ 1000) : Ev B (tLst ta) e (.lst as) e1 := ev_ofO (eo_lst h hl)
theorem ev_tup {ta : TA} {as : List D} (h : EvA B ta e as e1) (hl : as.length ≤ 1000) : Ev B (tTup ta) e (.tup as) e1 := fun σ H vs ds Q s k => h σ H vs ds _ s fun ws H' lw ⟨G', s'⟩ => by
  obtain ⟨s2, r⟩ := s'.args lw
  refine ⟨by rw [lw]; exact Nat.le_of_lt (small1000 hl), fun p hp => ?_⟩
  have a := s2.step (Evo.made (o := .tup ws) s2.pre hp fun ps z => nomatch z)
  refine k _ _ ⟨_, a.push (.tup (.inl (.inl upd_same)) (r.mono fun b u eb => ?_))⟩
  have : b ≠ p := fun z => by rw [z] at eb; rw [s2.ev.gh _ _ eb] at hp; cases hp
  rw [upd_ne this]; exact eb
end
end Dl
namespace Dl
open PySem PySem.Spec PyProof.Rows L2 NdefX
/-! ### errors: what their classes must have -/
/-- C is a class of the program's own errors, CR their base -/
structure Exn (K : PySem.W.Frag) (CR C : Addr) : Prop where
  te : PySem.W.exmOne K (.ref C) (.ref CR) = some true
  ga : PySem.W.findIn K (.ref C) "__getattribute__" = some (some (.builtin "BaseException.__getattribute__"))
  gg : PySem.W.findIn K (.ref C) "__getattr__" = some none
  exC : PySem.W.subIn K (.ref C) (.type "BaseException") = some true
  hdC : PySem.W.hasDictIn K C = true
  noN : PySem.W.findIn K (.ref C) "number" = some none
abbrev numX (n : Int) : HO := .xd [(("number" : Str), .int n)]
/-- what a call comes to: a value, or an error's number -/
abbrev Res := Except Int D
/-! ### promises -/
/-- a def that changes nothing -/
def SpP (K : PySem.W.Frag) (T : List NTab) (f : List D → D → Prop) : Sp := fun vs H Q _ => ∃ (G : Hp) (as : List D) (d : D), f as d ∧ Pre T G H ∧ Rps K G vs as ∧ ∀ v G' H', Evo T noA G H G' H' → Rp K G' v d → Q v H'
/-- .. that may raise -/
def SpX (K : PySem.W.Frag) (T : List NTab) (CR : Addr) (f : List D → Res → Prop) : Sp := fun vs H Q E => ∃ (G : Hp) (as : List D) (r : Res), f as r ∧ Pre T G H ∧ Rps K G vs as ∧
  (∀ d, r = .ok d → ∀ v G' H', Evo T noA G H G' H' → Rp K G' v d → Q v H') ∧
  (∀ n, r = .error n → ∀ C dd G' H', Evo T noA G H G' H' → Exn K CR C → H' dd = some (numX n) → E (.ref C) (some dd) H')
/-- .. that changes its first argument, an object of the class at C -/
def SpB (K : PySem.W.Frag) (T : List NTab) (CR C : Addr) (f : List (Str × D) → List D → Res → List (Str × D) → Prop) : Sp := fun vs H Q E => ∃ (G : Hp) (p dx : Addr) (ws : List (Str × V)) (fs : List (Str × D)) (us : List V) (as : List D) (r : Res) (fs' : List (Str × D)),
  vs = .ref p :: us ∧ H p = some (.ins C dx ws) ∧ G p = none ∧ Rpf K G ws fs ∧ Rps K G us as ∧ f fs as r fs' ∧ Pre T G H ∧
  (∀ d, r = .ok d → ∀ v G' H' dx' ws', Evo T (· = p) G H G' H' → H' p = some (.ins C dx' ws') → Rpf K G' ws' fs' → Rp K G' v d → Q v H') ∧
  (∀ n, r = .error n → ∀ C' dd G' H' dx' ws', Evo T (· = p) G H G' H' → H' p = some (.ins C dx' ws') → Rpf K G' ws' fs' → Exn K CR C' → H' dd = some (numX n) → E (.ref C') (some dd) H')
section
variable {B : Bs} {G G' H H' : Hp} {σ : L2.St} {e e1 e2 : En} {vs : List V} {ds : List D}
/-- an error may leave here -/
def Xo (B : Bs) (CR : Addr) (E : XK) (n : Int) (e : En) : Prop := ∀ (σ : L2.St) (H : Hp) (vs : List V) (ds : List D) (C dd : Addr), Sta B σ H e vs ds → Exn B.K CR C → H dd = some (numX n) → E (.ref C) (some dd) H
theorem ev_call {sp : Sp} {f : List D → D → Prop} {E : XK} {ta : TA} {as : List D} {d : D} (h : EvA B ta e as e1) (hf : f as d) (hs : sp = SpP B.K B.T f := by rfl) : Ev B (tCall sp [] E ta) e d e1 := fun σ H vs ds Q s k => h σ H vs ds _ s fun ws H' lw ⟨G', s'⟩ => by
  subst hs
  obtain ⟨s2, r⟩ := s'.args lw
  refine ⟨G', as, d, hf, s2.pre, by rw [List.append_nil]; exact r, fun v G2 H2 a rv => ?_⟩
  exact k v H2 ⟨G2, (s2.step a).push rv⟩
theorem ev_meth {sp : Sp} {f : List D → D → Prop} {E : XK} {to : TE} {ta : TA} {C : Addr} {m : Str} {fs : List (Str × D)} {as : List D} {d : D} (ho : Ev B to e (.obj C fs) e1) (hm : fs.lookup m = none) (h : EvA B ta e1 as e2) (hf : f (.obj C fs :: as) d) (hs : sp = SpP B.K B.T f := by rfl) :
    Ev B (tMeth C m sp [] E to ta) e d e2 := fun σ H vs ds Q s k => ho σ H vs ds _ s fun v H1 ⟨G1, s1⟩ => by
  subst hs
  obtain ⟨s2, r⟩ := s1.pop
  cases r with
  | obj ga rf =>
    refine ⟨_, _, _, rfl, s2.ev.gh _ _ ga, rf.no hm, ?_⟩
    refine h σ H1 _ _ _ ⟨G1, s1⟩ fun ws H2 lw ⟨G2, s3⟩ => ?_
    obtain ⟨s4, rw_⟩ := s3.args lw
    obtain ⟨s5, r5⟩ := s4.pop
    refine ⟨G2, .obj C fs :: as, d, hf, s5.pre, by rw [List.append_nil]; exact .cons r5 rw_, fun v G3 H3 a rv => ?_⟩
    exact k v H3 ⟨G3, (s5.step a).push rv⟩
/-- a call that may raise -/
theorem ev_callX {sp : Sp} {CR : Addr} {f : List D → Res → Prop} {E : XK} {ta : TA} {as : List D} {r : Res} (h : EvA B ta e as e1) (hf : f as r) (hx : ∀ n, r = .error n → Xo B CR E n e1) (hs : sp = SpX B.K B.T CR f := by rfl) :
    ∀ (σ : L2.St) (H : Hp) (vs : List V) (ds : List D) (Q : VK), Sta B σ H e vs ds → (∀ v H' d, r = .ok d → Sta B σ H' e1 (v :: vs) (d :: ds) → Q v H') → tCall sp [] E ta σ H Q := fun σ H vs ds Q s k => h σ H vs ds _ s fun ws H' lw ⟨G', s'⟩ => by
  subst hs
  obtain ⟨s2, rr⟩ := s'.args lw
  refine ⟨G', as, r, hf, s2.pre, by rw [List.append_nil]; exact rr, fun d er v G2 H2 a rv => ?_, fun n er C dd G2 H2 a x ed => ?_⟩
  · exact k v H2 d er ⟨G2, (s2.step a).push rv⟩
  · exact hx n er σ H2 vs ds C dd ⟨G2, s2.step a⟩ x ed
/-- the entry of an object that a call has changed -/
def Ent.put (t : Ent) (C : Addr) (fs : List (Str × D)) : Ent := match t with
  | .own _ => .own (.obj C fs)
  | .bor _ => .bor (.obj C fs)
  | .val d => .val d
/-- .. behind the call -/
theorem Ok.back (s : Ok B G σ H e vs ds) {i : Nat} {t : Ent} {C p dx : Addr} {fs fs' : List (Str × D)} {ws' : List (Str × V)} (hi : e[i]? = some (some t)) (q : t.ob = some (C, fs)) (hp : σ[i]? = some (some (.ref p)))
    (a : Evo B.T (· = p) G H G' H') (h' : H' p = some (.ins C dx ws')) (r' : Rpf B.K G' ws' fs') (g : G p = none) (th : H p ≠ none) : Ok B G' σ H' (e.set i (some (t.put C fs'))) vs ds := by
  have lt : i < e.length := (List.getElem?_eq_some_iff.mp hi).1
  have g' : G' p = none := by
    cases z : G' p with
    | none => rfl
    | some o => rcases a.gn p (by rw [z]; exact fun y => nomatch y) with y | y
                · exact absurd g y
                · exact absurd y th
  obtain ⟨x, ex, sl⟩ := s.slot i t hi
  rw [hp] at ex
  obtain rfl := Option.some.inj ex
  have tm := (slot_ob sl q).1
  have hrb : B.H p = none ∨ B.rb p := by
    cases t with
    | val d => exact tm.elim
    | own o => obtain ⟨p', e1, _, _, z⟩ := sl; cases Option.some.inj e1; exact .inl z
    | bor o => obtain ⟨p', e1, _, _, z⟩ := sl; cases Option.some.inj e1; exact .inr z
  refine ⟨⟨s.ev.gg.trans a.gg, a.gh, a.nt, fun b o eb n nt => a.hh b o (s.ev.hh b o eb n nt) (fun z => ?_) nt, fun b hb => ?_, fun b hb => a.tk b (s.ev.tk b hb), a.tb⟩, fun j t' q' => ?_, fun a1 a2 t1 t2 p' q1 q2 m1 m2 s1 s2 => ?_, s.tmp.mono a.gg, by rw [List.length_set]; exact s.len⟩
  · have z' : b = p := z
    rcases hrb with y | y
    · rw [z'] at eb; rw [y] at eb; cases eb
    · rw [z'] at n; exact n y
  · rcases a.gn b hb with z | z
    · exact s.ev.gn b z
    · refine .inr ?_
      cases y : B.H b with
      | none => rfl
      | some o => exact absurd z (s.ev.tk b (by rw [y]; exact fun w => nomatch w))
  · by_cases hj : i = j
    · subst hj
      rw [List.getElem?_set_self lt] at q'
      obtain rfl := Option.some.inj (Option.some.inj q')
      refine ⟨_, hp, ?_⟩
      cases t with
      | val d => exact tm.elim
      | own o => obtain ⟨p', e1, _, _, z⟩ := sl; cases Option.some.inj e1; exact ⟨p, rfl, ⟨dx, ws', h', r'⟩, g', z⟩
      | bor o => obtain ⟨p', e1, _, _, z⟩ := sl; cases Option.some.inj e1; exact ⟨p, rfl, ⟨dx, ws', h', r'⟩, g', z⟩
    · rw [List.getElem?_set_ne hj] at q'
      obtain ⟨y, ey, sy⟩ := s.slot j t' q'
      exact ⟨y, ey, sy.step a fun p' e1 m z => by
        have z' : p' = p := z
        rw [e1, z'] at ey
        exact hj (s.ne i j t t' p hi q' tm m hp ey)⟩
  · have go : ∀ {c : Nat} {t' : Ent}, (e.set i (some (t.put C fs')))[c]? = some (some t') → t'.mut → ∃ t2, e[c]? = some (some t2) ∧ t2.mut := fun {c t'} q' m => by
      by_cases hc : i = c
      · subst hc
        exact ⟨t, hi, tm⟩
      · rw [List.getElem?_set_ne hc] at q'
        exact ⟨t', q', m⟩
    obtain ⟨u1, v1, w1⟩ := go q1 m1
    obtain ⟨u2, v2, w2⟩ := go q2 m2
    exact s.ne a1 a2 u1 u2 p' v1 v2 w1 w2 s1 s2
/-- a method of one's own object, or of one handed in; it may change it, and may raise -/
theorem ev_methB {sp : Sp} {CR C : Addr} {f : List (Str × D) → List D → Res → List (Str × D) → Prop} {E : XK} {ta : TA} {m : Str} {i : Nat} {t : Ent} {fs fs' : List (Str × D)} {as : List D} {r : Res} (h : EvA B ta e as e1) (h0 : e[i]? = some (some t)) (hi : e1[i]? = some (some t)) (q : t.ob = some (C, fs)) (hm : fs.lookup m = none)
    (hf : f fs as r fs') (hx : ∀ n, r = .error n → Xo B CR E n (e1.set i (some (t.put C fs')))) (hs : sp = SpB B.K B.T CR C f := by rfl) :
    ∀ (σ : L2.St) (H : Hp) (vs : List V) (ds : List D) (Q : VK), Sta B σ H e vs ds → (∀ v H' d, r = .ok d → Sta B σ H' (e1.set i (some (t.put C fs'))) (v :: vs) (d :: ds) → Q v H') → tMeth C m sp [] E (tVar i) ta σ H Q := fun σ H vs ds Q ⟨G0, s0⟩ k => by
  subst hs
  obtain ⟨x, ex, sl⟩ := s0.slot i t h0
  obtain ⟨_, p, dx, ws, rfl, hp, rf, g⟩ := slot_ob sl q
  refine ⟨_, ex, p, dx, _, rfl, hp, rf.no hm, ?_⟩
  refine h σ H vs ds _ ⟨G0, s0⟩ fun us H1 lw ⟨G1, s1⟩ => ?_
  obtain ⟨s2, rr⟩ := s1.args lw
  obtain ⟨x1, ex1, sl1⟩ := s2.slot i t hi
  rw [ex] at ex1
  obtain rfl := Option.some.inj ex1
  obtain ⟨_, p1, dx1, ws1, e1', hp1, rf1, g1⟩ := slot_ob sl1 q
  cases Option.some.inj e1'
  have th : H1 p ≠ none := by rw [hp1]; exact fun z => nomatch z
  refine ⟨G1, p, dx1, ws1, fs, us, as, r, fs', by rw [List.append_nil], hp1, g1, rf1, rr, hf, s2.pre, fun d er v G2 H2 dx' ws' a h2 r2 rv => ?_, fun n er C' dd G2 H2 dx' ws' a h2 r2 xx ed => ?_⟩
  · have s3 := s2.back hi q ex a h2 r2 g1 th
    exact k v H2 d er ⟨G2, s3.push rv⟩
  · exact hx n er σ H2 vs ds C' dd ⟨G2, s2.back hi q ex a h2 r2 g1 th⟩ xx ed
/-- a def's call whose first argument it may change -/
theorem ev_callB {sp : Sp} {CR C : Addr} {f : List (Str × D) → List D → Res → List (Str × D) → Prop} {E : XK} {ta : TA} {i : Nat} {t : Ent} {fs fs' : List (Str × D)} {as : List D} {r : Res} (h : EvA B ta e as e1) (h0 : e[i]? = some (some t)) (hi : e1[i]? = some (some t)) (q : t.ob = some (C, fs))
    (hf : f fs as r fs') (hx : ∀ n, r = .error n → Xo B CR E n (e1.set i (some (t.put C fs')))) (hs : sp = SpB B.K B.T CR C f := by rfl) :
    ∀ (σ : L2.St) (H : Hp) (vs : List V) (ds : List D) (Q : VK), Sta B σ H e vs ds → (∀ v H' d, r = .ok d → Sta B σ H' (e1.set i (some (t.put C fs'))) (v :: vs) (d :: ds) → Q v H') → tCall sp [] E (tCons (tVar i) ta) σ H Q := fun σ H vs ds Q ⟨G0, s0⟩ k => by
  subst hs
  obtain ⟨x, ex, sl⟩ := s0.slot i t h0
  obtain ⟨_, p, dx, ws, rfl, hp, rf, g⟩ := slot_ob sl q
  refine ⟨_, ex, ?_⟩
  refine h σ H vs ds _ ⟨G0, s0⟩ fun us H1 lw ⟨G1, s1⟩ => ?_
  obtain ⟨s2, rr⟩ := s1.args lw
  obtain ⟨x1, ex1, sl1⟩ := s2.slot i t hi
  rw [ex] at ex1
  obtain rfl := Option.some.inj ex1
  obtain ⟨_, p1, dx1, ws1, e1', hp1, rf1, g1⟩ := slot_ob sl1 q
  cases Option.some.inj e1'
  have th : H1 p ≠ none := by rw [hp1]; exact fun z => nomatch z
  refine ⟨G1, p, dx1, ws1, fs, us, as, r, fs', by rw [List.append_nil], hp1, g1, rf1, rr, hf, s2.pre, fun d er v G2 H2 dx' ws' a h2 r2 rv => ?_, fun n er C' dd G2 H2 dx' ws' a h2 r2 xx ed => ?_⟩
  · have s3 := s2.back hi q ex a h2 r2 g1 th
    exact k v H2 d er ⟨G2, s3.push rv⟩
  · exact hx n er σ H2 vs ds C' dd ⟨G2, s2.back hi q ex a h2 r2 g1 th⟩ xx ed
/-- .. that comes to a value -/
theorem ev_ok {te : TE} {d : D} (h : ∀ (σ : L2.St) (H : Hp) (vs : List V) (ds : List D) (Q : VK), Sta B σ H e vs ds → (∀ v H' d', (Except.ok d : Res) = .ok d' → Sta B σ H' e1 (v :: vs) (d' :: ds) → Q v H') → te σ H Q) : Ev B te e d e1 :=
  fun σ H vs ds Q s k => h σ H vs ds Q s fun v H' d' q s' => by cases q; exact k v H' s'
/-! ### objects made -/
theorem Evo.hide {T : List NTab} {p : Addr} {o : HO} (P : Pre T G H) (hp : H p = none) (a : Evo T (· = p) G (upd H p o) G' H') : Evo T noA G H G' H' where
  gg := a.gg
  gh := a.gh
  nt := a.nt
  hh := fun b u eb _ nt => by
    have nb : b ≠ p := ne_of_none eb hp
    exact a.hh b u (by rw [upd_ne nb]; exact eb) (fun z => nb z) nt
  gn := fun b h => (a.gn b h).elim .inl fun z => by
    by_cases hb : b = p
    · rw [hb, upd_same] at z; cases z
    · rw [upd_ne hb] at z; exact .inr z
  tk := fun b h => a.tk b (by
    by_cases hb : b = p
    · rw [hb, upd_same]; exact fun z => nomatch z
    · rw [upd_ne hb]; exact h)
  tb := a.tb
theorem eo_make {sp : Sp} {CR C : Addr} {f : List (Str × D) → List D → Res → List (Str × D) → Prop} {E : XK} {ta : TA} {fs : List (Str × D)} {as : List D} (h : EvA B ta e as e1) (hf : f [] as (.ok .non) fs) (hs : sp = SpB B.K B.T CR C f := by rfl) : EvO B (tMake C sp [] E ta) e (.obj C fs) e1 := fun σ H vs ds Q s k => h σ H vs ds _ s fun ws H1 lw ⟨G1, s1⟩ => by
  subst hs
  obtain ⟨s2, rr⟩ := s1.args lw
  intro x dx nx nd ne
  have nx1 : upd H1 dx (.own x) x = none := by rw [upd_ne (Ne.symm ne)]; exact nx
  have P1 : Pre B.T G1 (upd H1 dx (.own x)) := (Evo.laid (o := .own x) s2.pre nd).pre
  have P2 : Pre B.T G1 (upd (upd H1 dx (.own x)) x (.ins C dx [])) := (Evo.laid (o := .ins C dx []) P1 nx1).pre
  have g1 : G1 x = none := by
    cases z : G1 x with
    | none => rfl
    | some o => rw [s2.ev.gh _ _ z] at nx; cases nx
  refine ⟨G1, x, dx, [], [], ws, as, .ok .non, fs, by rw [List.append_nil], upd_same, g1, .nil, rr, hf, P2, fun d er v G2 H2 dx' ws' a h2 r2 rv => ?_, fun n er => nomatch er⟩
  cases er
  cases rv
  refine ⟨rfl, ?_⟩
  have a1 : Evo B.T noA G1 (upd H1 dx (.own x)) G2 H2 := Evo.hide P1 nx1 a
  have a2 : Evo B.T noA G1 H1 G2 H2 := (Evo.laid (o := .own x) s2.pre nd).trans a1
  have s3 := s2.step a2
  have g2 : G2 x = none := by
    cases z : G2 x with
    | none => rfl
    | some o => rcases a.gn x (by rw [z]; exact fun y => nomatch y) with y | y
                · exact absurd g1 y
                · rw [upd_same] at y; cases y
  have h0 : B.H x = none := by
    cases z : B.H x with
    | none => rfl
    | some o => exact absurd nx (s2.ev.tk x (by rw [z]; exact fun y => nomatch y))
  refine k x H2 G2 s3 ⟨⟨dx', ws', h2, r2⟩, g2, h0, fun i t q m z => ?_⟩
  obtain ⟨y, ey, sl⟩ := s2.slot i t q
  rw [z] at ey
  obtain rfl := Option.some.inj ey
  cases t with
  | val d => exact m
  | own o => obtain ⟨p', e1, w, _⟩ := sl; cases Option.some.inj e1; obtain ⟨u, eu, _⟩ := w.there; rw [nx] at eu; cases eu
  | bor o => obtain ⟨p', e1, w, _⟩ := sl; cases Option.some.inj e1; obtain ⟨u, eu, _⟩ := w.there; rw [nx] at eu; cases eu
theorem ev_make {sp : Sp} {CR C : Addr} {f : List (Str × D) → List D → Res → List (Str × D) → Prop} {E : XK} {ta : TA} {fs : List (Str × D)} {as : List D} (h : EvA B ta e as e1) (hf : f [] as (.ok .non) fs) (hs : sp = SpB B.K B.T CR C f := by rfl) : Ev B (tMake C sp [] E ta) e (.obj C fs) e1 := ev_ofO (eo_make h hf hs)
/-! ### built-in functions, items, parts -/
theorem seq_of {K : PySem.W.Frag} {a : D} {xs : List D} (h : a = .lst xs ∨ a = .sq xs) {v : V} (r : Rp K G v a) (gh : Same G H) : ∃ p ws, v = .ref p ∧ SqL K H p ws ∧ Rps K G ws xs := by
  rcases h with rfl | rfl
  · cases r with
    | lst g r => exact ⟨_, _, rfl, .inl (.inl (gh _ _ g)), r⟩
  · cases r with
    | sq g r => exact ⟨_, _, rfl, gh.seq g, r⟩
theorem ev_len {ta : TE} {a : D} {xs : List D} (h : Ev B ta e a e1) (hx : a = .lst xs ∨ a = .sq xs := by first | exact .inl rfl | exact .inr rfl) : Ev B (tCB (fun ws H Q => ∃ p ys, ws = [.ref p] ∧ (SqL B.K H p ys ∨ SqT B.K H p ys) ∧ Q (.int ys.length) H) (tCons ta tNil)) e (.int xs.length) e1 := fun σ H vs ds Q s k => h σ H vs ds _ s fun v H1 ⟨G1, s1⟩ => by
  obtain ⟨s2, r⟩ := s1.pop
  obtain ⟨p, ws, rfl, hq, r2⟩ := seq_of hx r s2.ev.gh
  refine ⟨p, ws, rfl, .inl hq, ?_⟩
  rw [r2.len]
  exact k _ H1 ⟨G1, s2.push (.int _)⟩
theorem ev_sum {ta : TE} {ns : List Int} (h : Ev B ta e (.lst (ns.map D.int)) e1) : Ev B (tCB (rSum B.K) (tCons ta tNil)) e (.int ns.sum) e1 := fun σ H vs ds Q s k => h σ H vs ds _ s fun v H1 ⟨G1, s1⟩ => by
  obtain ⟨s2, r⟩ := s1.pop
  cases r with
  | lst g r =>
    obtain rfl := Rps.ints ns r
    exact ⟨_, ns, rfl, .inl (.inl (s2.ev.gh _ _ g)), k _ H1 ⟨G1, s2.push (.int _)⟩⟩
theorem ev_all {ta : TE} {bs : List Bool} (h : Ev B ta e (.lst (bs.map D.bl)) e1) : Ev B (tCB (rAll B.K) (tCons ta tNil)) e (.bl (bs.all id)) e1 := fun σ H vs ds Q s k => h σ H vs ds _ s fun v H1 ⟨G1, s1⟩ => by
  obtain ⟨s2, r⟩ := s1.pop
  cases r with
  | lst g r =>
    obtain rfl := Rps.bls bs r
    exact ⟨_, bs, rfl, .inl (.inl (s2.ev.gh _ _ g)), k _ H1 ⟨G1, s2.push (.bl _)⟩⟩
theorem ev_any {ta : TE} {bs : List Bool} (h : Ev B ta e (.lst (bs.map D.bl)) e1) : Ev B (tCB (rAny B.K) (tCons ta tNil)) e (.bl (bs.any id)) e1 := fun σ H vs ds Q s k => h σ H vs ds _ s fun v H1 ⟨G1, s1⟩ => by
  obtain ⟨s2, r⟩ := s1.pop
  cases r with
  | lst g r =>
    obtain rfl := Rps.bls bs r
    exact ⟨_, bs, rfl, .inl (.inl (s2.ev.gh _ _ g)), k _ H1 ⟨G1, s2.push (.bl _)⟩⟩
theorem ev_min {ta tb : TE} {i j : Int} (ha : Ev B ta e (.int i) e1) (hb : Ev B tb e1 (.int j) e2) : Ev B (tCB (fun xs H Q => ∃ i j, xs = [.int i, .int j] ∧ Q (.int (if j < i then j else i)) H) (tCons ta (tCons tb tNil))) e (.int (if j < i then j else i)) e2 := fun σ H vs ds Q s k =>
  ha σ H vs ds _ s fun v1 H1 s1 => hb σ H1 _ _ _ s1 fun w1 H2 ⟨G2, s2⟩ => by
    obtain ⟨s3, r2⟩ := s2.pop
    obtain ⟨s4, r1⟩ := s3.pop
    cases r1
    cases r2
    exact ⟨i, j, rfl, k _ H2 ⟨G2, s4.push (.int _)⟩⟩
theorem ev_ix {ta tb : TE} {a : D} {xs : List D} {j : Nat} {d : D} (ha : Ev B ta e a e1) (hb : Ev B tb e1 (.int (j : Int)) e2) (hj : xs[j]? = some d) (hx : a = .lst xs ∨ a = .sq xs := by first | exact .inl rfl | exact .inr rfl) : Ev B (tOp (rIxL B.K) ta tb) e d e2 := fun σ H vs ds Q s k =>
  ha σ H vs ds _ s fun v1 H1 s1 => hb σ H1 _ _ _ s1 fun w1 H2 ⟨G2, s2⟩ => by
    obtain ⟨s3, r2⟩ := s2.pop
    obtain ⟨s4, r1⟩ := s3.pop
    cases r2
    obtain ⟨p, ws, rfl, hq, r3⟩ := seq_of hx r1 s4.ev.gh
    obtain ⟨v, hv, rv⟩ := r3.at2 hj
    exact ⟨p, ws, _, v, rfl, rfl, hq, atI_nat hv, k v H2 ⟨G2, s4.push rv⟩⟩
/-- part lo:hi by places -/
def cutD (xs : List D) (lo hi : Option Int) : List D := (xs.drop (HT.sIx xs.length 0 lo)).take (HT.sIx xs.length xs.length hi - HT.sIx xs.length 0 lo)
theorem cut_rp {K : PySem.W.Frag} {ws : List V} {xs : List D} {lo hi : Option Int} (r : Rps K G ws xs) : Rps K G (cutV ws lo hi) (cutD xs lo hi) := by
  unfold cutV cutD
  rw [r.len]
  exact (r.drop _).take _
def EvP (B : Bs) (tp : TO) (e : En) (o : Option Int) (e' : En) : Prop := ∀ (σ : L2.St) (H : Hp) (vs : List V) (ds : List D) (Q : Option Int → Hp → Prop), Sta B σ H e vs ds → (∀ H', Sta B σ H' e' vs ds → Q o H') → tp σ H Q
theorem ep_no : EvP B tNoPart e none e := fun σ H vs ds Q s k => k H s
theorem ep_at {ta : TE} {i : Int} (h : Ev B ta e (.int i) e1) : EvP B (tPart ta) e (some i) e1 := fun σ H vs ds Q s k => h σ H vs ds _ s fun v H1 ⟨G1, s1⟩ => by
  obtain ⟨s2, r⟩ := s1.pop
  cases r
  exact ⟨i, rfl, k H1 ⟨G1, s2⟩⟩
theorem eo_slice {ta : TE} {tl th : TO} {a : D} {xs : List D} {lo hi : Option Int} (ha : Ev B ta e a e1) (hl : EvP B tl e1 lo e1) (hh : EvP B th e1 hi e1) (hx : a = .lst xs ∨ a = .sq xs := by first | exact .inl rfl | exact .inr rfl) : EvO B (tSl (rSlL B.K) ta tl th) e (.lst (cutD xs lo hi)) e1 := fun σ H vs ds Q s k =>
  ha σ H vs ds _ s fun v1 H1 s1 => hl σ H1 _ _ _ s1 fun H2 s2 => hh σ H2 _ _ _ s2 fun H3 ⟨G3, s3⟩ => by
    obtain ⟨s4, r⟩ := s3.pop
    obtain ⟨p, ws, rfl, hq, r3⟩ := seq_of hx r s4.ev.gh
    refine ⟨p, ws, rfl, hq, fun p hp => ?_⟩
    obtain ⟨a, b⟩ := s4.made (o := .lst (cutD xs lo hi)) hp ⟨_, upd_same, cut_rp r3⟩
    exact k p _ _ a b
theorem eo_cat {ta tb : TE} {xs ys : List D} (ha : Ev B ta e (.lst xs) e1) (hb : Ev B tb e1 (.lst ys) e2) (hl : xs.length + ys.length ≤ 1000) : EvO B (tOp rCat ta tb) e (.lst (xs ++ ys)) e2 := fun σ H vs ds Q s k =>
  ha σ H vs ds _ s fun v1 H1 s1 => hb σ H1 _ _ _ s1 fun w1 H2 ⟨G2, s2⟩ => by
    obtain ⟨s3, r2⟩ := s2.pop
    obtain ⟨s4, r1⟩ := s3.pop
    cases r1 with
    | lst g1 r1 =>
      cases r2 with
      | lst g2 r2 =>
        refine ⟨_, _, _, _, rfl, rfl, s4.ev.gh _ _ g1, s4.ev.gh _ _ g2, by rw [r1.len, r2.len]; exact Nat.le_of_lt (small1000 hl), fun p hp => ?_⟩
        obtain ⟨a, b⟩ := s4.made (o := .lst (xs ++ ys)) hp ⟨_, upd_same, r1.app r2⟩
        exact k p _ _ a b
theorem rep_rp {K : PySem.W.Frag} {ws : List V} {xs : List D} (r : Rps K G ws xs) : ∀ n : Nat, Rps K G (List.replicate n ws).flatten (List.replicate n xs).flatten
  | 0 => .nil
  | n + 1 => by
    rw [List.replicate_succ, List.replicate_succ, List.flatten_cons, List.flatten_cons]
    exact r.app (rep_rp r n)
theorem eo_rep {ta tb : TE} {xs : List D} {n : Nat} (ha : Ev B ta e (.lst xs) e1) (hb : Ev B tb e1 (.int (n : Int)) e2) (hx : xs.length ≠ 0) (hl : xs.length * n ≤ 1000000) : EvO B (tOp rRep ta tb) e (.lst (List.replicate n xs).flatten) e2 := fun σ H vs ds Q s k =>
  ha σ H vs ds _ s fun v1 H1 s1 => hb σ H1 _ _ _ s1 fun w1 H2 ⟨G2, s2⟩ => by
    obtain ⟨s3, r2⟩ := s2.pop
    obtain ⟨s4, r1⟩ := s3.pop
    cases r2
    cases r1 with
    | lst g1 r1 =>
      have hn : n ≤ 1000000 := Nat.le_trans (Nat.le_mul_of_pos_left n (by omega)) hl
      refine ⟨_, _, _, rfl, rfl, s4.ev.gh _ _ g1, by omega, by omega, ?_, fun p hp => ?_⟩
      · rw [r1.len, Int.toNat_natCast]
        exact Nat.le_trans hl (by decide)
      · obtain ⟨a, b⟩ := s4.made (o := .lst (List.replicate n xs).flatten) hp ⟨_, upd_same, rep_rp r1 n⟩
        exact k p _ _ a b
end
end Dl
namespace Dl
open PySem PySem.Spec PyProof.Rows L2 NdefX
section
variable {B : Bs} {G G' H H' : Hp} {σ : L2.St} {e e1 e2 : En} {vs : List V} {ds : List D}
/-! ### in -/
theorem eqV_int (i j : Int) : eqV (.int i) (.int j) = decide (i = j) := by
  show (i == j) = decide (i = j)
  by_cases h : i = j
  · subst h; simp
  · rw [decide_eq_false h]; exact beq_eq_false_iff_ne.mpr h
theorem inV_ints (i : Int) : ∀ ns : List Int, inV (.int i) (ns.map V.int) = decide (i ∈ ns)
  | [] => rfl
  | n :: ns => by
    show (eqV (.int n) (.int i) || inV (.int i) (ns.map V.int)) = _
    rw [eqV_int, inV_ints i ns]
    by_cases h : i = n
    · subst h; simp
    · have h2 : ¬ n = i := fun z => h z.symm
      simp [h, h2]
theorem flat_ints : ∀ ns : List Int, (ns.map V.int).all flatV = true
  | [] => rfl
  | n :: ns => by
    show (true && (ns.map V.int).all flatV) = true
    rw [flat_ints ns]; rfl
/-- i in a list | a tuple of ints -/
theorem ev_in {neg : Bool} {ta tb : TE} {i : Int} {a : D} {ns : List Int} (ha : Ev B ta e (.int i) e1) (hb : Ev B tb e1 a e2) (hx : a = .lst (ns.map D.int) ∨ a = .tup (ns.map D.int)) : Ev B (tOp (rIn B.K neg) ta tb) e (.bl (if neg then !decide (i ∈ ns) else decide (i ∈ ns))) e2 := fun σ H vs ds Q s k =>
  ha σ H vs ds _ s fun v1 H1 s1 => hb σ H1 _ _ _ s1 fun w1 H2 ⟨G2, s2⟩ => by
    obtain ⟨s3, r2⟩ := s2.pop
    obtain ⟨s4, r1⟩ := s3.pop
    cases r1
    have fin : ∀ p, w1 = .ref p → (SqL B.K H2 p (ns.map V.int) ∨ SqT B.K H2 p (ns.map V.int)) → rIn B.K neg (.int i) w1 H2 Q := fun p hp hq => by
      refine ⟨p, ns.map V.int, hp, hq, rfl, flat_ints ns, ?_⟩
      rw [inV_ints]
      exact k _ H2 ⟨G2, s4.push (.bl _)⟩
    rcases hx with rfl | rfl
    · cases r2 with
      | lst g r => obtain rfl := Rps.ints ns r; exact fin _ rfl (.inl (.inl (.inl (s4.ev.gh _ _ g))))
    · cases r2 with
      | tup g r => obtain rfl := Rps.ints ns r; exact fin _ rfl (.inr (SqT_mono s4.ev.gh g))
/-- lists of ints as data -/
def pdI (ns : List Int) : PyData := .list (ns.map PyData.int)
theorem dp_ints {K : PySem.W.Frag} : ∀ ns : List Int, DpAll K H (ns.map V.int) (ns.map PyData.int)
  | [] => .nil
  | n :: ns => .cons (.int n) (dp_ints ns)
theorem dp_rows {K : PySem.W.Frag} (gh : Same G H) : ∀ {ws : List V} (ls : List (List Int)), Rps K G ws (ls.map fun ns => D.lst (ns.map D.int)) → DpAll K H ws (ls.map pdI)
  | _, [], r => by cases r; exact .nil
  | _, ns :: ls, r => by
    cases r with
    | cons a b =>
      cases a with
      | lst g r =>
        obtain rfl := Rps.ints ns r
        exact .cons (.lst (.inl (.inl (gh _ _ g))) (dp_ints ns)) (dp_rows gh ls b)
theorem lay_ints : ∀ ns : List Int, PyData.canLayAll0 (ns.map PyData.int) = true
  | [] => by simp [PyData.canLayAll0]
  | n :: ns => by simp [PyData.canLayAll0, PyData.canLay0, lay_ints ns]
theorem depth_ints : ∀ ns : List Int, PyData.depthAll (ns.map PyData.int) ≤ 1
  | [] => by simp [PyData.depthAll]
  | n :: ns => by
    have := depth_ints ns
    simp only [List.map_cons, PyData.depthAll, PyData.depth]
    omega
theorem lay_rows : ∀ ls : List (List Int), PyData.canLayAll0 (ls.map pdI) = true
  | [] => by simp [PyData.canLayAll0]
  | ns :: ls => by simp [PyData.canLayAll0, PyData.canLay0, pdI, lay_ints ns, lay_rows ls]
theorem depth_rows : ∀ ls : List (List Int), PyData.depthAll (ls.map pdI) ≤ 3
  | [] => by simp [PyData.depthAll]
  | ns :: ls => by
    have h1 := depth_rows ls
    have h2 := depth_ints ns
    simp only [List.map_cons, PyData.depthAll, pdI, PyData.depth]
    omega
theorem shaped_ints (ns : List Int) : SeqAt.shaped (pdI ns) = true := by
  have h := depth_ints ns
  show ((pdI ns).canLay0 && decide ((pdI ns).depth ≤ 64)) = true
  rw [Bool.and_eq_true]
  refine ⟨by simp only [pdI, PyData.canLay0]; exact lay_ints ns, decide_eq_true ?_⟩
  simp only [pdI, PyData.depth]
  omega
theorem shaped_rows (ls : List (List Int)) : SeqAt.shaped (.list (ls.map pdI)) = true := by
  have h := depth_rows ls
  show (PyData.canLay0 (.list (ls.map pdI)) && decide (PyData.depth (.list (ls.map pdI)) ≤ 64)) = true
  rw [Bool.and_eq_true]
  refine ⟨by simp only [PyData.canLay0]; exact lay_rows ls, decide_eq_true ?_⟩
  simp only [PyData.depth]
  omega
theorem eqv_ints : ∀ (ns ms : List Int), PyData.eqvAll (ns.map PyData.int) (ms.map PyData.int) = decide (ns = ms)
  | [], [] => by simp [PyData.eqvAll]
  | [], m :: ms => by simp [PyData.eqvAll]
  | n :: ns, [] => by simp [PyData.eqvAll]
  | n :: ns, m :: ms => by
    have ih := eqv_ints ns ms
    simp only [List.map_cons, PyData.eqvAll, PyData.eqv, ih]
    by_cases h : n = m
    · subst h
      simp
    · have h2 : (n == m) = false := beq_eq_false_iff_ne.mpr h
      rw [h2, Bool.false_and, decide_eq_false (fun z => h (List.cons.inj z).1)]
theorem any_rows (ns : List Int) : ∀ ls : List (List Int), ((ls.map pdI).any fun z => PyData.eqv z (pdI ns)) = decide (ns ∈ ls)
  | [] => rfl
  | l :: ls => by
    rw [List.map_cons, List.any_cons, any_rows ns ls]
    have e0 : PyData.eqv (pdI l) (pdI ns) = decide (l = ns) := by
      simp only [pdI, PyData.eqv]
      exact eqv_ints l ns
    rw [e0]
    by_cases h : l = ns
    · subst h; simp
    · have h2 : ¬ ns = l := fun z => h z.symm
      simp [h, h2]
/-- a list of ints in a list of such -/
theorem ev_inD {ta tb : TE} {ns : List Int} {ls : List (List Int)} (ha : Ev B ta e (.lst (ns.map D.int)) e1) (hb : Ev B tb e1 (.lst (ls.map fun ns => D.lst (ns.map D.int))) e2) : Ev B (tOp (rInD B.K) ta tb) e (.bl (decide (ns ∈ ls))) e2 := fun σ H vs ds Q s k =>
  ha σ H vs ds _ s fun v1 H1 s1 => hb σ H1 _ _ _ s1 fun w1 H2 ⟨G2, s2⟩ => by
    obtain ⟨s3, r2⟩ := s2.pop
    obtain ⟨s4, r1⟩ := s3.pop
    cases r1 with
    | lst g1 r1 =>
      cases r2 with
      | lst g2 r2 =>
        obtain rfl := Rps.ints ns r1
        refine ⟨pdI ns, ls.map pdI, .lst (.inl (.inl (s4.ev.gh _ _ g1))) (dp_ints ns), .lst (.inl (.inl (s4.ev.gh _ _ g2))) (dp_rows s4.ev.gh ls r2), shaped_ints ns, shaped_rows ls, ?_⟩
        rw [any_rows]
        exact k _ H2 ⟨G2, s4.push (.bl _)⟩
/-! ### a look that keeps nothing: one's own list as it stands -/
abbrev Bs.at_ (B : Bs) (G H : Hp) : Bs := ⟨B.K, B.T, G, H, noA⟩
/-- the values among the slots -/
def valE : Option Ent → Option Ent
  | some (.val d) => some (.val d)
  | _ => none
def vals (e : En) : En := e.map valE
theorem vals_at {i : Nat} {t : Ent} (h : (vals e)[i]? = some (some t)) : ∃ d, t = .val d ∧ e[i]? = some (some (.val d)) := by
  unfold vals at h
  rw [List.getElem?_map] at h
  cases q : e[i]? with
  | none => rw [q] at h; cases h
  | some x =>
    rw [q] at h
    have h2 : valE x = some t := Option.some.inj h
    cases x with
    | none => cases h2
    | some u =>
      cases u with
      | val d => cases h2; exact ⟨d, rfl, rfl⟩
      | own o => cases h2
      | bor o => cases h2
theorem Ok.vals (s : Ok B G σ H e vs ds) {r : Addr → Prop} (a : Evo B.T r G H G' H') : Ok (B.at_ G' H') G' σ H' (vals e) [] [] where
  ev := Evo.refl a.pre
  slot := fun i t q => by
    obtain ⟨d, rfl, q'⟩ := vals_at q
    obtain ⟨x, ex, v, ev, r⟩ := s.slot i _ q'
    exact ⟨x, ex, v, ev, r.mono a.gg⟩
  ne := fun i j t u p q _ m _ _ _ => by
    obtain ⟨d, rfl, _⟩ := vals_at q
    exact m.elim
  tmp := .nil
  len := by rw [s.len]; unfold Dl.vals; rw [List.length_map]
/-! ### comprehensions over lists -/
theorem wipe1 (σ : L2.St) (j : Nat) : wipe σ [j] = σ.set j none := rfl
theorem eo_lc {α : Type} {tl : TE} {tt : TT} {te : TE} {j : Nat} {enc : α → D} {l : List α} {p : α → Bool} {g : α → D} (hl : Ev B tl e (.lst (l.map enc)) e1) (hj : j < e1.length) (hz : l.length ≤ 1000000)
    (ht : ∀ (G2 H2 : Hp), ∀ a ∈ l, EvT (B.at_ G2 H2) tt ((vals e1).set j (some (.val (enc a)))) (p a) ((vals e1).set j (some (.val (enc a)))))
    (he : ∀ (G2 H2 : Hp), ∀ a ∈ l, p a = true → Ev (B.at_ G2 H2) te ((vals e1).set j (some (.val (enc a)))) (g a) ((vals e1).set j (some (.val (enc a))))) :
    EvO B (tLc (iList B.K tl) (gName j) tt te [j]) e (.lst ((l.filter p).map g)) e1 := fun σ H vs ds Q s k =>
  hl σ H vs ds _ s fun v1 H1 ⟨G1, s1⟩ => by
    obtain ⟨s2, r⟩ := s1.pop
    cases r with
    | @lst a ws _ ga ra =>
      have la : SqL B.K H1 a ws := .inl (.inl (s2.ev.gh _ _ ga))
      have lw : ws.length = l.length := by rw [ra.len, List.length_map]
      refine ⟨a, rfl, ⟨ws, la⟩, fun Dl hD => ?_⟩
      have P1 : Pre B.T G1 (upd H1 Dl (.lst [])) := (Evo.laid (o := .lst []) s2.pre hD).pre
      have g1 : G1 Dl = none := by
        cases z : G1 Dl with
        | none => rfl
        | some o => rw [s2.ev.gh _ _ z] at hD; cases hD
      refine lc_list (K := B.K) (a := a) (xs := ws) (fun i H' => ∃ (G' : Hp) (acc : List V), Evo B.T (· = Dl) G1 (upd H1 Dl (.lst [])) G' H' ∧ H' Dl = some (.lst acc) ∧ Rps B.K G' acc (((l.take i).filter p).map g) ∧ G' Dl = none)
        ⟨G1, [], Evo.refl P1, upd_same, .nil, g1⟩ (fun i H' _ ⟨G', acc, ev, _⟩ => .inl (.inl (ev.gh _ _ (ev.gg _ _ ga)))) (fun i x H' hx ⟨G', acc, ev, hd, hr, hg⟩ => ?_) (fun H' ⟨G', acc, ev, hd, hr, hg⟩ => ?_)
      · -- one turn
        obtain ⟨dx, hdx, rx⟩ := (ra.mono ev.gg).at_ hx
        rw [List.getElem?_map] at hdx
        obtain ⟨y, hy, rfl⟩ := Option.map_eq_some_iff.mp hdx
        have ym : y ∈ l := List.mem_of_getElem? hy
        have st : (l.take (i + 1)).filter p = (l.take i).filter p ++ (if p y then [y] else []) := by
          rw [List.take_add_one, hy, List.filter_append]
          congr 1
          show [y].filter p = _
          rw [List.filter_cons]
          by_cases h : p y = true
          · rw [if_pos h, if_pos h]; rfl
          · rw [if_neg h, if_neg h]; rfl
        have sv0 : Ok (B.at_ G' H') G' σ H' (vals e1) [] [] := by
          have a0 : Evo B.T noA G1 H1 G' H' := Evo.hide s2.pre hD ev
          exact s2.vals a0
        have jl : j < (vals e1).length := by unfold vals; rw [List.length_map]; exact hj
        have ssl : ((wipe σ [j]).set j (some x)) = σ.set j (some x) := by rw [wipe1, List.set_set]
        have sv1 : Ok (B.at_ G' H') G' (σ.set j (some x)) H' ((vals e1).set j (some (.val (enc y)))) [] [] := sv0.set jl rx
        show wipe ((wipe σ [j]).set j (some x)) [j] = wipe σ [j] ∧ _
        refine ⟨by rw [ssl, wipe1, wipe1, List.set_set], ?_⟩
        rw [ssl]
        refine ht G' H' y ym (σ.set j (some x)) H' [] [] _ ⟨G', sv1⟩ fun H2 ⟨G2, s3⟩ => ?_
        have e3 : Evo B.T noA G' H' G2 H2 := s3.ev
        have hd2 : H2 Dl = some (.lst acc) := e3.hh Dl _ hd (fun z => z) (fun ps z => nomatch z)
        have hg2 : G2 Dl = none := by
          cases z : G2 Dl with
          | none => rfl
          | some o => rcases e3.gn Dl (by rw [z]; exact fun y => nomatch y) with w | w
                      · exact absurd hg w
                      · rw [hd] at w; cases w
        cases hp : p y with
        | false =>
          refine iteF ⟨G2, acc, ev.trans (e3.wide fun _ z => z.elim), hd2, ?_, hg2⟩
          rw [st, hp]
          simpa using hr.mono e3.gg
        | true =>
          refine iteT (he G' H' y ym hp (σ.set j (some x)) H2 [] [] _ ⟨G2, s3⟩ fun v3 H3 ⟨G3, s4⟩ => ?_)
          obtain ⟨s5, rv⟩ := s4.pop
          have e4 : Evo B.T noA G' H' G3 H3 := s5.ev
          have hd3 : H3 Dl = some (.lst acc) := e4.hh Dl _ hd (fun z => z) (fun ps z => nomatch z)
          have hg3 : G3 Dl = none := by
            cases z : G3 Dl with
            | none => rfl
            | some o => rcases e4.gn Dl (by rw [z]; exact fun y => nomatch y) with w | w
                        · exact absurd hg w
                        · rw [hd] at w; cases w
          have e5 : Evo B.T (· = Dl) G3 H3 G3 (upd H3 Dl (.lst (acc ++ [v3]))) := Evo.put s5.pre hg3 hd3 (fun _ z => nomatch z) (fun _ z => nomatch z)
          have hi : i < l.length := (List.getElem?_eq_some_iff.mp hy).1
          refine ⟨acc, hd3, ?_, G3, acc ++ [v3], (ev.trans (e4.wide fun _ z => z.elim)).trans e5, upd_same, ?_, hg3⟩
          · have l1 : acc.length ≤ i := by
              rw [hr.len, List.length_map]
              exact Nat.le_trans (List.length_filter_le _ _) (by rw [List.length_take]; omega)
            have : (1000000 : Nat) < sizeLine := by decide
            omega
          · rw [st, hp, if_pos rfl, List.map_append]
            exact (hr.mono e4.gg).app (.cons rv .nil)
      · -- the end
        rw [lw, List.take_length] at hr
        have a0 : Evo B.T noA G1 H1 G' H' := Evo.hide s2.pre hD ev
        have s3 := s2.step a0
        have h0 : B.H Dl = none := by
          cases z : B.H Dl with
          | none => rfl
          | some o => exact absurd hD (s2.ev.tk Dl (by rw [z]; exact fun y => nomatch y))
        refine k Dl H' G' s3 ⟨⟨acc, hd, hr⟩, hg, h0, fun i t q m z => ?_⟩
        obtain ⟨y, ey, sl⟩ := s2.slot i t q
        rw [z] at ey
        obtain rfl := Option.some.inj ey
        cases t with
        | val d => exact m
        | own o => obtain ⟨p', e1, w, _⟩ := sl; cases Option.some.inj e1; obtain ⟨u, eu, _⟩ := w.there; rw [hD] at eu; cases eu
        | bor o => obtain ⟨p', e1, w, _⟩ := sl; cases Option.some.inj e1; obtain ⟨u, eu, _⟩ := w.there; rw [hD] at eu; cases eu
/-- .. of every item -/
theorem eo_lcM {α : Type} {tl : TE} {te : TE} {j : Nat} {enc : α → D} {l : List α} {g : α → D} (hl : Ev B tl e (.lst (l.map enc)) e1) (hj : j < e1.length) (hz : l.length ≤ 1000000)
    (he : ∀ (G2 H2 : Hp), ∀ a ∈ l, Ev (B.at_ G2 H2) te ((vals e1).set j (some (.val (enc a)))) (g a) ((vals e1).set j (some (.val (enc a))))) :
    EvO B (tLc (iList B.K tl) (gName j) tYes te [j]) e (.lst (l.map g)) e1 := by
  have h := eo_lc (p := fun _ => true) hl hj hz (fun _ _ a _ => et_yes) (fun G2 H2 a m _ => he G2 H2 a m)
  rw [List.filter_eq_self.mpr (fun _ _ => rfl)] at h
  exact h
/-- what comes to a plain value may be looked at with one's own list taken for a value -/
theorem ev_peek {te : TE} {i : Nat} {o : Own} {d : D} {v : V} (hi : e[i]? = some (some (.own o))) (hd : sv d = some v)
    (h : ∀ (G2 H2 : Hp), ∃ e3, Ev (B.at_ G2 H2) te ((vals e).set i (some (.val o.d))) d e3) : Ev B te e d e := fun σ H vs ds Q ⟨G, s⟩ k => by
  obtain ⟨x, ex, p, rfl, w, g, z⟩ := s.slot i _ hi
  obtain ⟨u, eu, nu, _⟩ := w.there
  have gg := same_upd (u := u) g
  have P : Pre B.T (upd G p u) H := ⟨fun b o' eb => by
      by_cases hb : b = p
      · rw [hb, upd_same] at eb; rw [hb]; cases eb; exact eu
      · rw [upd_ne hb] at eb; exact s.ev.gh _ _ eb, fun b ps eb => by
      by_cases hb : b = p
      · rw [hb, upd_same] at eb; exact nu ps (Option.some.inj eb)
      · rw [upd_ne hb] at eb; exact s.ev.nt b ps eb, s.ev.tb⟩
  have s1 : Ok (B.at_ (upd G p u) H) (upd G p u) σ H (vals e) [] [] := ⟨Evo.refl P, fun j t q => by
      obtain ⟨d', rfl, q'⟩ := vals_at q
      obtain ⟨y, ey, v', ev, r⟩ := s.slot j _ q'
      exact ⟨y, ey, v', ev, r.mono gg⟩, fun a b t t' q q1 _ m _ _ _ => by
      obtain ⟨d', rfl, _⟩ := vals_at q1
      exact m.elim, .nil, by rw [s.len]; unfold vals; rw [List.length_map]⟩
  have il : i < (vals e).length := by unfold vals; rw [List.length_map]; exact (List.getElem?_eq_some_iff.mp hi).1
  have s2 := s1.set il (w.rp eu g)
  have es : σ.set i (some (.ref p)) = σ := by
    apply List.ext_getElem?
    intro j
    by_cases hj : i = j
    · subst hj
      rw [List.getElem?_set_self (List.getElem?_eq_some_iff.mp ex).1, ex]
    · rw [List.getElem?_set_ne hj]
  rw [es] at s2
  obtain ⟨e3, h3⟩ := h (upd G p u) H
  refine h3 σ H [] [] Q ⟨_, s2⟩ fun v' H' ⟨G', s3⟩ => ?_
  obtain ⟨s4, rv⟩ := s3.pop
  obtain rfl := sv_rp hd rv
  have a : Evo B.T noA (upd G p u) H G' H' := s4.ev
  have a2 : Evo B.T noA G H G H' := ⟨Same.refl _, fun b o' eb => a.gh _ _ (a.gg _ _ (gg _ _ eb)), s.ev.nt, a.hh, fun b hb => .inl hb, a.tk, a.tb⟩
  exact k _ H' ⟨G, (s.step a2).push (rp_sv hd)⟩
end
end Dl
namespace Dl
open PySem PySem.Spec PyProof.Rows L2 NdefX
/-! ### statements -/
/-- what is to hold behind: the next statement, a return, a break -/
structure Bh where
  nx : En → Prop
  rt : D → En → Prop
  bk : En → Prop
def Ex (B : Bs) (ts : TS) (e : En) (P : Bh) : Prop := ∀ (σ : L2.St) (H : Hp) (vs : List V) (ds : List D) (D' : Ends), Sta B σ H e vs ds →
  (∀ σ' H' e', P.nx e' → Sta B σ' H' e' vs ds → D'.nx σ' H') → (∀ v σ' H' d e', P.rt d e' → Sta B σ' H' e' (v :: vs) (d :: ds) → D'.rt v H') → (∀ σ' H' e', P.bk e' → Sta B σ' H' e' vs ds → D'.bk σ' H') → ts D' σ H
section
variable {B : Bs} {G G' H H' : Hp} {σ : L2.St} {e e1 e2 : En} {vs : List V} {ds : List D} {P : Bh}
theorem ex_seq {t u : TS} (h : Ex B t e { P with nx := fun e' => Ex B u e' P }) : Ex B (tSeq t u) e P := fun σ H vs ds D' s n r b =>
  h σ H vs ds _ s (fun σ' H' e' q s' => q σ' H' vs ds D' s' n r b) r b
theorem ex_next (h : P.nx e) : Ex B tNext e P := fun σ H vs ds D' s n r b => n σ H e h s
theorem ex_brk (h : P.bk e) : Ex B tBreak e P := fun σ H vs ds D' s n r b => b σ H e h s
theorem ex_ret {te : TE} {d : D} (h : Ev B te e d e1) (q : P.rt d e1) : Ex B (tRet te) e P := fun σ H vs ds D' s n r b => h σ H vs ds _ s fun v H' s' => r v σ H' d e1 q s'
theorem ex_retN (q : P.rt .non e) : Ex B tRetN e P := fun σ H vs ds D' ⟨G, s⟩ n r b => r .non σ H .non e q ⟨G, s.push .non⟩
theorem ex_drop {te : TE} {d : D} (h : Ev B te e d e1) (q : P.nx e1) : Ex B (tDrop te) e P := fun σ H vs ds D' s n r b => h σ H vs ds _ s fun v H' ⟨G', s'⟩ => n σ H' e1 q ⟨G', s'.pop.1⟩
theorem ex_if {tc : TT} {t u : TS} {c : Bool} (h : EvT B tc e c e1) (h1 : c = true → Ex B t e1 P) (h2 : c = false → Ex B u e1 P) : Ex B (tIfS tc t u) e P := fun σ H vs ds D' s n r b => h σ H vs ds _ s fun H' s' => by
  cases c with
  | true => exact iteT (h1 rfl σ H' vs ds D' s' n r b)
  | false => exact iteF (h2 rfl σ H' vs ds D' s' n r b)
theorem ex_set {te : TE} {i : Nat} {d : D} (h : Ev B te e d e1) (hi : i < e1.length) (q : P.nx (e1.set i (some (.val d)))) : Ex B (tAsg te (gName i)) e P := fun σ H vs ds D' s n r b => h σ H vs ds _ s fun v H' ⟨G', s'⟩ => by
  obtain ⟨s2, rv⟩ := s'.pop
  exact n _ H' _ q ⟨G', s2.set hi rv⟩
theorem ex_setO {te : TE} {i : Nat} {o : Own} (h : EvO B te e o e1) (hi : i < e1.length) (q : P.nx (e1.set i (some (.own o)))) : Ex B (tAsg te (gName i)) e P := fun σ H vs ds D' s n r b => h σ H vs ds _ s fun p H' G' s' w => n _ H' _ q ⟨G', s'.setO hi w⟩
theorem ex_mono {t : TS} {P' : Bh} (h : Ex B t e P') (h1 : ∀ e', P'.nx e' → P.nx e') (h2 : ∀ d e', P'.rt d e' → P.rt d e') (h3 : ∀ e', P'.bk e' → P.bk e') : Ex B t e P := fun σ H vs ds D' s n r b =>
  h σ H vs ds D' s (fun σ' H' e' q => n σ' H' e' (h1 e' q)) (fun v σ' H' d e' q => r v σ' H' d e' (h2 d e' q)) fun σ' H' e' q => b σ' H' e' (h3 e' q)
/-- what an expression that may raise comes to -/
def EvX (B : Bs) (te : TE) (e : En) (r : Res) (e' : En) : Prop := ∀ (σ : L2.St) (H : Hp) (vs : List V) (ds : List D) (Q : VK), Sta B σ H e vs ds → (∀ v H' d, r = .ok d → Sta B σ H' e' (v :: vs) (d :: ds) → Q v H') → te σ H Q
theorem ex_setX {te : TE} {i : Nat} {r : Res} (h : EvX B te e r e1) (hi : i < e1.length) (q : ∀ d, r = .ok d → P.nx (e1.set i (some (.val d)))) : Ex B (tAsg te (gName i)) e P := fun σ H vs ds D' s n _ b => h σ H vs ds _ s fun v H' d er ⟨G', s'⟩ => by
  obtain ⟨s2, rv⟩ := s'.pop
  exact n _ H' _ (q d er) ⟨G', s2.set hi rv⟩
theorem ex_dropX {te : TE} {r : Res} (h : EvX B te e r e1) (q : ∀ d, r = .ok d → P.nx e1) : Ex B (tDrop te) e P := fun σ H vs ds D' s n _ b => h σ H vs ds _ s fun v H' d er ⟨G', s'⟩ => n σ H' e1 (q d er) ⟨G', s'.pop.1⟩
theorem ex_retX {te : TE} {r : Res} (h : EvX B te e r e1) (q : ∀ d, r = .ok d → P.rt d e1) : Ex B (tRet te) e P := fun σ H vs ds D' s n rr b => h σ H vs ds _ s fun v H' d er s' => rr v σ H' d e1 (q d er) s'
/-- an expression of an error or a value, then more -/
theorem evx_ok {te : TE} {d : D} (h : Ev B te e d e1) : EvX B te e (.ok d) e1 := fun σ H vs ds Q s k => h σ H vs ds Q s fun v H' s' => k v H' d rfl s'
/-! ### one's own list grows -/
theorem own_lst {i : Nat} {xs : List D} (s : Ok B G σ H e vs ds) (hi : e[i]? = some (some (.own (.lst xs)))) : ∃ p ws, σ[i]? = some (some (.ref p)) ∧ H p = some (.lst ws) ∧ Rps B.K G ws xs ∧ G p = none := by
  obtain ⟨x, ex, p, rfl, ⟨ws, hp, r⟩, g, _⟩ := s.slot i _ hi
  exact ⟨p, ws, ex, hp, r, g⟩
/-- the slot's list is another now -/
theorem Ok.lst (s : Ok B G σ H e vs ds) {i : Nat} {xs ys : List D} {p : Addr} {us : List V} (hi : e[i]? = some (some (.own (.lst xs)))) (hp : σ[i]? = some (some (.ref p))) (g : G p = none) {ws : List V} (hw : H p = some (.lst ws)) (r : Rps B.K G us ys) :
    Ok B G σ (upd H p (.lst us)) (e.set i (some (.own (.lst ys)))) vs ds := by
  have lt : i < e.length := (List.getElem?_eq_some_iff.mp hi).1
  have a : Evo B.T (· = p) G H G (upd H p (.lst us)) := Evo.put s.pre g hw (fun _ z => nomatch z) (fun _ z => nomatch z)
  obtain ⟨x, ex, sl⟩ := s.slot i _ hi
  rw [hp] at ex
  obtain rfl := Option.some.inj ex
  obtain ⟨p', e1, _, _, h0⟩ := sl
  cases Option.some.inj e1
  refine ⟨⟨s.ev.gg, a.gh, a.nt, fun b o eb n nt => a.hh b o (s.ev.hh b o eb n nt) (fun z => by have z' : b = p := z; rw [z', h0] at eb; cases eb) nt, s.ev.gn, fun b hb => a.tk b (s.ev.tk b hb), a.tb⟩, fun j t q => ?_, fun a1 a2 t1 t2 p' q1 q2 m1 m2 s1 s2 => ?_, s.tmp, by rw [List.length_set]; exact s.len⟩
  · by_cases hj : i = j
    · subst hj
      rw [List.getElem?_set_self lt] at q
      obtain rfl := Option.some.inj (Option.some.inj q)
      exact ⟨_, hp, p, rfl, ⟨us, upd_same, r⟩, g, h0⟩
    · rw [List.getElem?_set_ne hj] at q
      obtain ⟨y, ey, sy⟩ := s.slot j t q
      exact ⟨y, ey, sy.step a fun p' e1 m z => by
        have z' : p' = p := z
        rw [e1, z'] at ey
        exact hj (s.ne i j _ t p hi q trivial m hp ey)⟩
  · have go : ∀ {c : Nat} {t' : Ent}, (e.set i (some (.own (.lst ys))))[c]? = some (some t') → t'.mut → ∃ t2, e[c]? = some (some t2) ∧ t2.mut := fun {c t'} q' m => by
      by_cases hc : i = c
      · subst hc
        exact ⟨_, hi, trivial⟩
      · rw [List.getElem?_set_ne hc] at q'
        exact ⟨t', q', m⟩
    obtain ⟨u1, v1, w1⟩ := go q1 m1
    obtain ⟨u2, v2, w2⟩ := go q2 m2
    exact s.ne a1 a2 u1 u2 p' v1 v2 w1 w2 s1 s2
theorem ty_lst {K : PySem.W.Frag} {p : Addr} {ws : List V} (h : H p = some (.lst ws)) : tyV K "list" (.ref p) H := .inl ⟨rfl, ws, .inl (.inl h)⟩
/-- the list's name, then an argument that leaves the slot -/
theorem ex_app {te : TE} {i : Nat} {xs : List D} {r : Res} (h0 : e[i]? = some (some (.own (.lst xs)))) (h : EvX B te e r e1) (hi : e1[i]? = some (some (.own (.lst xs)))) (hl : xs.length < 1000000)
    (q : ∀ d, r = .ok d → P.nx (e1.set i (some (.own (.lst (xs ++ [d])))))) : Ex B (tDrop (tBM B.K "list" rAppend (tVar i) (tCons te tNil))) e P := fun σ H vs ds D' ⟨G0, s0⟩ n _ b => by
  obtain ⟨p, ws, ep, hp, _, _⟩ := own_lst s0 h0
  refine ⟨.ref p, ep, ty_lst hp, h σ H vs ds _ ⟨G0, s0⟩ fun v H' d er ⟨G1, s1⟩ => ?_⟩
  obtain ⟨s2, rv⟩ := s1.pop
  obtain ⟨p1, ws1, ep1, hp1, rs, g⟩ := own_lst s2 hi
  rw [ep] at ep1
  cases Option.some.inj (Option.some.inj ep1)
  have : (1000000 : Nat) < sizeLine := by decide
  exact ⟨p, ws1, v, rfl, rfl, hp1, by rw [rs.len]; omega, n _ _ _ (q d er) ⟨G1, s2.lst hi ep g hp1 (rs.app (.cons rv .nil))⟩⟩
theorem ex_ext {te : TE} {i : Nat} {xs ys : List D} (h0 : e[i]? = some (some (.own (.lst xs)))) (h : Ev B te e (.lst ys) e1) (hi : e1[i]? = some (some (.own (.lst xs)))) (hl : xs.length + ys.length ≤ 16000000)
    (q : P.nx (e1.set i (some (.own (.lst (xs ++ ys)))))) : Ex B (tDrop (tBM B.K "list" rExtend (tVar i) (tCons te tNil))) e P := fun σ H vs ds D' ⟨G0, s0⟩ n _ b => by
  obtain ⟨p, ws, ep, hp, _, _⟩ := own_lst s0 h0
  refine ⟨.ref p, ep, ty_lst hp, h σ H vs ds _ ⟨G0, s0⟩ fun v H' ⟨G1, s1⟩ => ?_⟩
  obtain ⟨s2, rv⟩ := s1.pop
  obtain ⟨p1, ws1, ep1, hp1, rs, g⟩ := own_lst s2 hi
  rw [ep] at ep1
  cases Option.some.inj (Option.some.inj ep1)
  cases rv with
  | lst gy ry =>
    have : (16000000 : Nat) ≤ sizeLine := by decide
    exact ⟨p, _, ws1, _, rfl, rfl, hp1, s2.ev.gh _ _ gy, by rw [rs.len, ry.len]; omega, n _ _ _ q ⟨G1, s2.lst hi ep g hp1 (rs.app ry)⟩⟩
theorem ex_rev {i : Nat} {xs : List D} (hi : e[i]? = some (some (.own (.lst xs)))) (q : P.nx (e.set i (some (.own (.lst xs.reverse))))) : Ex B (tDrop (tBM0 B.K "list" rReverse (tVar i))) e P := fun σ H vs ds D' ⟨G0, s0⟩ n _ b => by
  obtain ⟨p, ws, ep, hp, rs, g⟩ := own_lst s0 hi
  exact ⟨.ref p, ep, ty_lst hp, p, ws, rfl, rfl, hp, n _ _ _ q ⟨G0, s0.lst hi ep g hp rs.rev⟩⟩
/-! ### fields -/
theorem ex_fld {te : TE} {i : Nat} {t : Ent} {C : Addr} {fs : List (Str × D)} {f : Str} {r : Res} (h : EvX B te e r e1) (hi : e1[i]? = some (some t)) (o : t.ob = some (C, fs)) (c : Cls B.K C) (na : NoAttr B.K C f) (hl : fs.length < 100)
    (q : ∀ d, r = .ok d → P.nx (e1.set i (some (t.put C (putD f d fs))))) : Ex B (sFld B.K (tVar i) te f) e P := fun σ H vs ds D' s n _ b => h σ H vs ds _ s fun v H' d er ⟨G1, s1⟩ => by
  obtain ⟨s2, rv⟩ := s1.pop
  obtain ⟨x, ex, sl⟩ := s2.slot i _ hi
  obtain ⟨tm, p, dx, ws, rfl, hp, rf, g⟩ := slot_ob sl o
  refine ⟨_, ex, p, C, dx, ws, rfl, hp, c, na, by rw [rf.len]; omega, n _ _ _ (q d er) ⟨G1, ?_⟩⟩
  exact s2.back hi o ex (Evo.put s2.pre g hp (fun _ z => nomatch z) (fun _ z => nomatch z)) upd_same (rf.put rv) g (by rw [hp]; exact fun z => nomatch z)
theorem ex_fldAug {te : TE} {i : Nat} {t : Ent} {C : Addr} {fs : List (Str × D)} {f : Str} {a b : Int} (hi : e[i]? = some (some t)) (o : t.ob = some (C, fs)) (c : Cls B.K C) (na : NoAttr B.K C f) (hl : fs.length < 100) (l : fs.lookup f = some (.int a)) (h : Ev B te e (.int b) e)
    (q : P.nx (e.set i (some (t.put C (putD f (.int (a + b)) fs))))) : Ex B (sFldAug B.K (tVar i) te rAdd f) e P := fun σ H vs ds D' ⟨G0, s0⟩ n _ _ => by
  obtain ⟨x, ex, sl⟩ := s0.slot i _ hi
  obtain ⟨tm, p, dx, ws, rfl, hp, rf, g⟩ := slot_ob sl o
  obtain ⟨v, lv, rv⟩ := rf.look l
  cases rv
  refine ⟨_, ex, p, C, dx, ws, _, rfl, hp, c, na, lv, h σ H vs ds _ ⟨G0, s0⟩ fun v' H' ⟨G1, s1⟩ => ?_⟩
  obtain ⟨s2, rv2⟩ := s1.pop
  cases rv2
  obtain ⟨x1, ex1, sl1⟩ := s2.slot i _ hi
  rw [ex] at ex1
  obtain rfl := Option.some.inj ex1
  obtain ⟨_, p1, dx1, ws1, e1', hp1, rf1, g1⟩ := slot_ob sl1 o
  cases Option.some.inj e1'
  refine ⟨a, b, rfl, rfl, dx1, ws1, hp1, by rw [rf1.len]; omega, n _ _ _ q ⟨G1, ?_⟩⟩
  exact s2.back hi o ex (Evo.put s2.pre g1 hp1 (fun _ z => nomatch z) (fun _ z => nomatch z)) upd_same (rf1.put (.int _)) g1 (by rw [hp1]; exact fun z => nomatch z)
/-- x op= y -/
theorem ex_aug {te : TE} {i : Nat} {f : Int → Int → Int} {a b : Int} (hi : e[i]? = some (some (.val (.int a)))) (h : Ev B te e (.int b) e1) (hj : i < e1.length) (q : P.nx (e1.set i (some (.val (.int (f a b)))))) : Ex B (tAug i te (ipI f)) e P := fun σ H vs ds D' ⟨G0, s0⟩ n _ _ => by
  obtain ⟨x, ex, v, rfl, r⟩ := s0.slot i _ hi
  cases r
  refine ⟨_, ex, h σ H vs ds _ ⟨G0, s0⟩ fun w H' ⟨G1, s1⟩ => ?_⟩
  obtain ⟨s2, rw_⟩ := s1.pop
  cases rw_
  exact ⟨a, b, rfl, rfl, n _ _ _ q ⟨G1, s2.set hj (.int _)⟩⟩
/-! ### loops -/
theorem at_list {K : PySem.W.Frag} {α : Type} {enc : α → D} {l : List α} {a : Addr} (s : Ok B G σ H e (.ref a :: vs) (.lst (l.map enc) :: ds)) : ∃ ws, G a = some (.lst ws) ∧ H a = some (.lst ws) ∧ Rps B.K G ws (l.map enc) ∧ ws.length = l.length := by
  obtain ⟨s2, r⟩ := s.pop
  cases r with
  | lst g r => exact ⟨_, g, s2.ev.gh _ _ g, r, by rw [r.len, List.length_map]⟩
/-- for .. in a list, the target by g -/
theorem ex_forG {α : Type} {tl : TE} {tb : TS} {g : TG} {enc : α → D} {l : List α} (hl : Ev B tl e (.lst (l.map enc)) e1) (Iv : Nat → En → Prop) (h0 : Iv 0 e1)
    (hs : ∀ i a e', l[i]? = some a → Iv i e' → ∀ (σ : L2.St) (H : Hp) (vs : List V) (ds : List D) (G : Hp) (v : V) (D' : Ends), Ok B G σ H e' vs ds → Rp B.K G v (enc a) →
      (∀ σ' H' e', Iv (i + 1) e' → Sta B σ' H' e' vs ds → D'.nx σ' H') → (∀ v σ' H' d e', P.rt d e' → Sta B σ' H' e' (v :: vs) (d :: ds) → D'.rt v H') → (∀ σ' H' e', P.nx e' → Sta B σ' H' e' vs ds → D'.bk σ' H') → g v σ H fun σ2 H2 => tb D' σ2 H2)
    (hd : ∀ e', Iv l.length e' → P.nx e') : Ex B (tFor (iList B.K tl) g tb) e P := fun σ H vs ds D' s n r b =>
  hl σ H vs ds _ s fun v1 H1 ⟨G1, s1⟩ => by
    have s1' := s1
    obtain ⟨s2, rl⟩ := s1.pop
    cases rl with
    | @lst a ws _ ga ra =>
      refine ⟨a, rfl, ⟨ws, .inl (.inl (s2.ev.gh _ _ ga))⟩, fun i m σ' H' => m = l.length - i ∧ i ≤ l.length ∧ ∃ e', Iv i e' ∧ Sta B σ' H' e' (.ref a :: vs) (.lst (l.map enc) :: ds), ⟨_, rfl, Nat.zero_le _, e1, h0, G1, s1'⟩, ?_⟩
      rintro i m σ' H' ⟨rfl, hi, e', iv, G', s'⟩
      obtain ⟨ws', g', h', r', lw⟩ := at_list (K := B.K) s'
      by_cases hlt : i < l.length
      · refine .inr ⟨?_, fun σ2 H2 => ∃ e2, Iv (i + 1) e2 ∧ Sta B σ2 H2 e2 (.ref a :: vs) (.lst (l.map enc) :: ds), fun σ2 H2 ⟨e2, iv2, s3⟩ => ⟨l.length - (i + 1), by omega, rfl, hlt, e2, iv2, s3⟩, fun x H2 hy => ?_⟩
        · obtain ⟨x, hx⟩ : ∃ x, ws'[i]? = some x := ⟨ws'[i]'(by omega), List.getElem?_eq_getElem (by omega)⟩
          exact ⟨ws', x, .inl (.inl h'), hx⟩
        · obtain ⟨rfl, hy⟩ := hy
          have hx := hy ws' (.inl (.inl h'))
          obtain ⟨d, hdx, rx⟩ := r'.at_ hx
          rw [List.getElem?_map] at hdx
          obtain ⟨y, hy2, rfl⟩ := Option.map_eq_some_iff.mp hdx
          refine hs i y e' hy2 iv σ' H2 _ _ G' x _ s' rx (fun σ3 H3 e3 q s3 => ⟨e3, q, s3⟩) (fun v σ3 H3 d e3 q ⟨G3, s3⟩ => r v σ3 H3 d e3 q ⟨G3, ?_⟩) (fun σ3 H3 e3 q ⟨G3, s3⟩ => n σ3 H3 e3 q ⟨G3, s3.pop.1⟩)
          obtain ⟨s4, r4⟩ := s3.pop
          exact s4.pop.1.push r4
      · have : i = l.length := by omega
        subst this
        exact .inl ⟨⟨ws', .inl (.inl h'), by omega⟩, n σ' H' e' (hd e' iv) ⟨G', s'.pop.1⟩⟩
/-- for x in a list -/
theorem ex_for {α : Type} {tl : TE} {tb : TS} {j : Nat} {enc : α → D} {l : List α} (hl : Ev B tl e (.lst (l.map enc)) e1) (Iv : Nat → En → Prop) (h0 : Iv 0 e1) (hj : ∀ i e', Iv i e' → j < e'.length)
    (hs : ∀ i a e', l[i]? = some a → Iv i e' → Ex B tb (e'.set j (some (.val (enc a)))) ⟨Iv (i + 1), P.rt, P.nx⟩) (hd : ∀ e', Iv l.length e' → P.nx e') : Ex B (tFor (iList B.K tl) (gName j) tb) e P :=
  ex_forG hl Iv h0 (fun i a e' ha iv σ H vs ds G v D' s rv n r b => hs i a e' ha iv _ H vs ds D' ⟨G, s.set (hj i e' iv) rv⟩ n r b) hd
/-- for x, y in a list of pairs -/
theorem ex_for2 {α : Type} {tl : TE} {tb : TS} {j k : Nat} {ea eb : α → D} {l : List α} (hl : Ev B tl e (.lst (l.map fun a => .tup [ea a, eb a])) e1) (Iv : Nat → En → Prop) (h0 : Iv 0 e1) (hj : ∀ i e', Iv i e' → j < e'.length ∧ k < e'.length)
    (hs : ∀ i a e', l[i]? = some a → Iv i e' → Ex B tb ((e'.set j (some (.val (ea a)))).set k (some (.val (eb a)))) ⟨Iv (i + 1), P.rt, P.nx⟩) (hd : ∀ e', Iv l.length e' → P.nx e') : Ex B (tFor (iList B.K tl) (gTup B.K 2 (gCons (gName j) (gCons (gName k) gNil))) tb) e P :=
  ex_forG hl Iv h0 (fun i a e' ha iv σ H vs ds G v D' s rv n r b => by
    cases rv with
    | tup g rs =>
      cases rs with
      | cons r1 rs =>
        cases rs with
        | cons r2 rs =>
          cases rs
          refine ⟨_, _, rfl, SqT_mono s.ev.gh g, rfl, _, _, rfl, _, _, rfl, rfl, ?_⟩
          have s1 := s.set (hj i e' iv).1 r1
          have s2 := s1.set (i := k) (by rw [List.length_set]; exact (hj i e' iv).2) r2
          exact hs i a e' ha iv _ H vs ds D' ⟨G, s2⟩ n r b) hd
/-- for i, x in enumerate(a list) -/
theorem ex_enum {α : Type} {ta : TE} {tb : TS} {j k : Nat} {enc : α → D} {l : List α} (hl : Ev B ta e (.lst (l.map enc)) e1) (Iv : Nat → En → Prop) (h0 : Iv 0 e1) (hj : ∀ i e', Iv i e' → j < e'.length ∧ k < e'.length)
    (hs : ∀ i a e', l[i]? = some a → Iv i e' → Ex B tb ((e'.set j (some (.val (.int (i : Int))))).set k (some (.val (enc a)))) ⟨Iv (i + 1), P.rt, P.nx⟩) (hd : ∀ e', Iv l.length e' → P.nx e') : Ex B (tFor (iEnum B.K (tCons ta tNil)) (gTup B.K 2 (gCons (gName j) (gCons (gName k) gNil))) tb) e P := fun σ H vs ds D' s n r b =>
  hl σ H vs ds _ s fun v1 H1 ⟨G1, s1⟩ => by
    have s1' := s1
    obtain ⟨s2, rl⟩ := s1.pop
    cases rl with
    | @lst a ws _ ga ra =>
      refine ⟨a, ws, rfl, .inl (.inl (s2.ev.gh _ _ ga)), fun i m σ' H' => m = l.length - i ∧ i ≤ l.length ∧ ∃ e', Iv i e' ∧ Sta B σ' H' e' (.ref a :: vs) (.lst (l.map enc) :: ds), ⟨_, rfl, Nat.zero_le _, e1, h0, G1, s1'⟩, ?_⟩
      rintro i m σ' H' ⟨rfl, hi, e', iv, G', s'⟩
      obtain ⟨ws', g', h', r', lw⟩ := at_list (K := B.K) s'
      by_cases hlt : i < l.length
      · refine .inr ⟨?_, fun σ2 H2 => ∃ e2, Iv (i + 1) e2 ∧ Sta B σ2 H2 e2 (.ref a :: vs) (.lst (l.map enc) :: ds), fun σ2 H2 ⟨e2, iv2, s3⟩ => ⟨l.length - (i + 1), by omega, rfl, hlt, e2, iv2, s3⟩, fun x H2 hy => ?_⟩
        · obtain ⟨x, hx⟩ : ∃ x, ws'[i]? = some x := ⟨ws'[i]'(by omega), List.getElem?_eq_getElem (by omega)⟩
          exact ⟨ws', x, .inl (.inl h'), hx⟩
        · obtain ⟨T, x, rfl, hT, rfl, hy⟩ := hy
          have hx := hy ws' (.inl (.inl h'))
          obtain ⟨d, hdx, rx⟩ := r'.at_ hx
          rw [List.getElem?_map] at hdx
          obtain ⟨y, hy2, rfl⟩ := Option.map_eq_some_iff.mp hdx
          have s3 : Ok B G' σ' (upd H' T (.tup [.int (i : Nat), x])) e' (.ref a :: vs) (.lst (l.map enc) :: ds) := s'.step (Evo.laid s'.pre hT)
          refine ⟨T, _, rfl, .inl (.inl upd_same), rfl, _, _, rfl, _, _, rfl, rfl, ?_⟩
          have s4 := s3.set (i := j) (hj i e' iv).1 (.int (i : Int))
          have s5 := s4.set (i := k) (by rw [List.length_set]; exact (hj i e' iv).2) rx
          refine hs i y e' hy2 iv _ _ _ _ _ ⟨G', s5⟩ (fun σ3 H3 e3 q s3 => ⟨e3, q, s3⟩) (fun v σ3 H3 d e3 q ⟨G3, s3⟩ => r v σ3 H3 d e3 q ⟨G3, ?_⟩) (fun σ3 H3 e3 q ⟨G3, s3⟩ => n σ3 H3 e3 q ⟨G3, s3.pop.1⟩)
          obtain ⟨s6, r6⟩ := s3.pop
          exact s6.pop.1.push r6
      · have : i = l.length := by omega
        subst this
        exact .inl ⟨⟨ws', .inl (.inl h'), by omega⟩, n σ' H' e' (hd e' iv) ⟨G', s'.pop.1⟩⟩
/-- for i in range(n) -/
theorem ex_range {ta : TE} {tb : TS} {j n : Nat} (ha : Ev B ta e (.int (n : Int)) e1) (hn : n ≤ 1000000) (Iv : Nat → En → Prop) (h0 : Iv 0 e1) (hj : ∀ i e', Iv i e' → j < e'.length)
    (hs : ∀ i e', i < n → Iv i e' → Ex B tb (e'.set j (some (.val (.int (i : Int))))) ⟨Iv (i + 1), P.rt, P.nx⟩) (hd : ∀ e', Iv n e' → P.nx e') : Ex B (tFor (iRng1 (tCons ta tNil)) (gName j) tb) e P := fun σ H vs ds D' s nx r b =>
  ha σ H vs ds _ s fun v1 H1 ⟨G1, s1⟩ => by
    obtain ⟨s2, rl⟩ := s1.pop
    cases rl
    refine ⟨(n : Int), rfl, by omega, by omega, fun i m σ' H' => m = n - i ∧ i ≤ n ∧ ∃ e', Iv i e' ∧ Sta B σ' H' e' vs ds, ⟨_, rfl, Nat.zero_le _, e1, h0, G1, s2⟩, ?_⟩
    rintro i m σ' H' ⟨rfl, hi, e', iv, G', s'⟩
    rw [Int.toNat_natCast]
    by_cases hlt : i < n
    · refine .inr ⟨hlt, fun σ2 H2 => ∃ e2, Iv (i + 1) e2 ∧ Sta B σ2 H2 e2 vs ds, fun σ2 H2 ⟨e2, iv2, s3⟩ => ⟨n - (i + 1), by omega, rfl, hlt, e2, iv2, s3⟩, fun x H2 hy => ?_⟩
      obtain ⟨rfl, rfl⟩ := hy
      have s4 := s'.set (i := j) (hj i e' iv) (.int (0 + (i : Int)))
      rw [Int.zero_add] at s4
      have q := hs i e' hlt iv (σ'.set j (some (.int (i : Int)))) H2 vs ds { D' with nx := fun σ2 H2 => ∃ e2, Iv (i + 1) e2 ∧ Sta B σ2 H2 e2 vs ds, ct := fun σ2 H2 => ∃ e2, Iv (i + 1) e2 ∧ Sta B σ2 H2 e2 vs ds, bk := D'.nx } ⟨G', s4⟩ (fun σ3 H3 e3 q s3 => ⟨e3, q, s3⟩) r nx
      show tb _ (σ'.set j (some (.int (0 + (i : Int))))) H2
      rw [Int.zero_add]
      exact q
    · have : i = n := by omega
      subst this
      exact .inl ⟨Nat.le_refl _, nx σ' H' e' (hd e' iv) ⟨G', s'⟩⟩
/-- for i in range(a, n) -/
theorem ex_range2 {ta tc : TE} {tb : TS} {j a n : Nat} (ha : Ev B ta e (.int (a : Int)) e1) (hc : Ev B tc e1 (.int (n : Int)) e2) (hn : a ≤ n ∧ n ≤ 1000000) (Iv : Nat → En → Prop) (h0 : Iv a e2) (hj : ∀ i e', Iv i e' → j < e'.length)
    (hs : ∀ i e', i < n → Iv i e' → Ex B tb (e'.set j (some (.val (.int (i : Int))))) ⟨Iv (i + 1), P.rt, P.nx⟩) (hd : ∀ e', Iv n e' → P.nx e') : Ex B (tFor (iRng2 (tCons ta (tCons tc tNil))) (gName j) tb) e P := fun σ H vs ds D' s nx r b =>
  ha σ H vs ds _ s fun v1 H1 s1 => hc σ H1 _ _ _ s1 fun v2 H2 ⟨G2, s2⟩ => by
    obtain ⟨s3, r2⟩ := s2.pop
    obtain ⟨s4, r1⟩ := s3.pop
    cases r1
    cases r2
    refine ⟨(a : Int), (n : Int), rfl, by omega, fun i m σ' H' => m = n - a - i ∧ a + i ≤ n ∧ ∃ e', Iv (a + i) e' ∧ Sta B σ' H' e' vs ds, ⟨_, rfl, hn.1, e2, h0, G2, s4⟩, ?_⟩
    rintro i m σ' H' ⟨rfl, hi, e', iv, G', s'⟩
    have et : ((n : Int) - (a : Int)).toNat = n - a := by omega
    rw [et]
    by_cases hlt : a + i < n
    · refine .inr ⟨show i < n - a by omega, fun σ2 H2 => ∃ e2, Iv (a + i + 1) e2 ∧ Sta B σ2 H2 e2 vs ds, fun σ2 H2 ⟨e2, iv2, s3⟩ => ⟨n - a - (i + 1), by omega, rfl, by omega, e2, iv2, s3⟩, fun x H2 hy => ?_⟩
      obtain ⟨rfl, rfl⟩ := hy
      have e0 : (a : Int) + (i : Int) = ((a + i : Nat) : Int) := by omega
      have s4 := s'.set (i := j) (hj _ e' iv) (.int ((a + i : Nat) : Int))
      have q := hs (a + i) e' hlt iv (σ'.set j (some (.int ((a + i : Nat) : Int)))) H2 vs ds { D' with nx := fun σ2 H2 => ∃ e2, Iv (a + i + 1) e2 ∧ Sta B σ2 H2 e2 vs ds, ct := fun σ2 H2 => ∃ e2, Iv (a + i + 1) e2 ∧ Sta B σ2 H2 e2 vs ds, bk := D'.nx } ⟨G', s4⟩ (fun σ3 H3 e3 q s3 => ⟨e3, q, s3⟩) r nx
      show tb _ (σ'.set j (some (.int ((a : Int) + (i : Int))))) H2
      rw [e0]
      exact q
    · have : a + i = n := by omega
      subst this
      exact .inl ⟨show a + i - a ≤ i by omega, nx σ' H' e' (hd e' iv) ⟨G', s'⟩⟩
end
end Dl
namespace Dl
open PySem PySem.Spec PyProof.Rows L2 NdefX
section
variable {B : Bs} {G G' H H' : Hp} {σ : L2.St} {e e1 e2 : En} {vs : List V} {ds : List D} {P : Bh}
/-- while -/
theorem ex_while {tc : TT} {tb : TS} (Iv : Nat → En → Prop) (m0 : Nat) (h0 : Iv m0 e)
    (hs : ∀ m e', Iv m e' → ∃ c, EvT B tc e' c e' ∧ (c = true → Ex B tb e' ⟨fun e2 => ∃ m', m' < m ∧ Iv m' e2, P.rt, P.nx⟩) ∧ (c = false → P.nx e')) : Ex B (tWhile tc tb) e P := fun σ H vs ds D' s n r b => by
  refine ⟨fun m σ' H' => ∃ e', Iv m e' ∧ Sta B σ' H' e' vs ds, ⟨m0, e, h0, s⟩, ?_⟩
  rintro m σ' H' ⟨e', iv, s'⟩
  obtain ⟨c, hc, h1, h2⟩ := hs m e' iv
  refine hc σ' H' vs ds _ s' fun H2 s2 => ?_
  cases c with
  | true =>
    refine iteT ⟨fun σ2 H2 => ∃ m', m' < m ∧ ∃ e', Iv m' e' ∧ Sta B σ2 H2 e' vs ds, fun σ2 H2 q => q, ?_⟩
    exact h1 rfl σ' H2 vs ds _ s2 (fun σ3 H3 e3 ⟨m', l, iv3⟩ s3 => ⟨m', l, e3, iv3, s3⟩) r n
  | false => exact iteF (n σ' H2 e' (h2 rfl) s2)
/-! ### a def's promise from its body -/
def args (as : List D) : En := as.map fun a => some (.val a)
/-- the slots at a def's entry -/
def entry (n : Nat) (es : En) : En := es ++ List.replicate (n - es.length) none
theorem start_at {N : List Str} {i : Nat} {x : Option V} (h : (L2.start N vs)[i]? = some x) : vs[i]? = x ∨ x = none := by
  unfold L2.start at h
  rw [List.getElem?_append] at h
  split at h
  · rw [List.getElem?_map] at h
    obtain ⟨v, hv, rfl⟩ := Option.map_eq_some_iff.mp h
    exact .inl hv
  · exact .inr ((List.eq_of_mem_replicate (List.mem_of_getElem? h)))
theorem entry_at {n i : Nat} {es : En} {t : Ent} (h : (entry n es)[i]? = some (some t)) : es[i]? = some (some t) := by
  unfold entry at h
  rw [List.getElem?_append] at h
  split at h
  · exact h
  · have z : (some t : Option Ent) = none := List.eq_of_mem_replicate (List.mem_of_getElem? h)
    cases z
theorem start_get {N : List Str} {i : Nat} {v : V} (h : vs[i]? = some v) : (L2.start N vs)[i]? = some (some v) := by
  have lt : i < vs.length := (List.getElem?_eq_some_iff.mp h).1
  unfold L2.start
  rw [List.getElem?_append_left (by rw [List.length_map]; exact lt), List.getElem?_map, h]
  rfl
theorem start_len {N : List Str} (h : vs.length ≤ N.length) : (L2.start N vs).length = N.length := by
  unfold L2.start
  rw [List.length_append, List.length_map, List.length_replicate]
  omega
theorem entry_len {n : Nat} {es : En} (h : es.length ≤ n) : (entry n es).length = n := by
  unfold entry
  rw [List.length_append, List.length_replicate]
  omega
theorem args_at {as : List D} {i : Nat} {t : Ent} (h : (args as)[i]? = some (some t)) : ∃ d, t = .val d ∧ as[i]? = some d := by
  unfold args at h
  rw [List.getElem?_map] at h
  obtain ⟨d, hd, q⟩ := Option.map_eq_some_iff.mp h
  cases q
  exact ⟨d, rfl, hd⟩
theorem ok_start {K : PySem.W.Frag} {T : List NTab} {N : List Str} {as : List D} (pr : Pre T G H) (r : Rps K G vs as) (hN : as.length ≤ N.length) : Sta ⟨K, T, G, H, noA⟩ (L2.start N vs) H (entry N.length (args as)) [] [] :=
  ⟨G, Evo.refl pr, fun i t q => by
    obtain ⟨d, rfl, hd⟩ := args_at (entry_at q)
    obtain ⟨v, hv, rv⟩ := r.at2 hd
    exact ⟨some v, start_get hv, v, rfl, rv⟩, fun i j t u p q _ m _ _ _ => by
    obtain ⟨d, rfl, _⟩ := args_at (entry_at q)
    exact m.elim, .nil, by
    have l1 : (args as).length = as.length := by unfold args; rw [List.length_map]
    rw [start_len (by rw [r.len]; exact hN), entry_len (by rw [l1]; exact hN)]⟩
theorem body_P {K : PySem.W.Frag} {T : List NTab} {f : List D → D → Prop} {t : TS} {N : List Str} (n : Nat) (hn : N.length = n) (hl : ∀ as d, f as d → as.length ≤ n)
    (h : ∀ (B : Bs) (as : List D) (d : D), B.K = K → B.T = T → f as d → Ex B t (entry n (args as)) ⟨fun _ => d = .non, fun d' _ => d' = d, fun _ => False⟩) (vs : List V) (H : Hp) (Q : VK) (E : XK) (hs : SpP K T f vs H Q E) :
    t { nx := fun _ H' => Q .non H', rt := Q } (L2.start N vs) H := by
  obtain ⟨G, as, d, hf, pr, r, k⟩ := hs
  have s0 := ok_start (N := N) pr r (by rw [hn]; exact hl as d hf)
  rw [hn] at s0
  refine h ⟨K, T, G, H, noA⟩ as d rfl rfl hf _ H [] [] _ s0 (fun σ' H' e' q ⟨G', s'⟩ => ?_) (fun v σ' H' d' e' q ⟨G', s'⟩ => ?_) (fun σ' H' e' q _ => q.elim)
  · have q' : d = .non := q
    subst q'
    exact k _ G' H' s'.ev .non
  · have q' : d' = d := q
    subst q'
    obtain ⟨s2, rv⟩ := s'.pop
    exact k _ G' H' s2.ev rv
theorem body_X {K : PySem.W.Frag} {T : List NTab} {CR : Addr} {f : List D → Res → Prop} {t : TS} {N : List Str} {E : XK} (n : Nat) (hn : N.length = n) (hl : ∀ as d, f as d → as.length ≤ n)
    (h : ∀ (B : Bs) (as : List D) (r : Res), B.K = K → B.T = T → f as r → (∀ n, r = .error n → ∀ e', Xo B CR E n e') → Ex B t (entry n (args as)) ⟨fun _ => r = .ok .non, fun d' _ => r = .ok d', fun _ => False⟩) (vs : List V) (H : Hp) (Q : VK) (hs : SpX K T CR f vs H Q E) :
    t { nx := fun _ H' => Q .non H', rt := Q } (L2.start N vs) H := by
  obtain ⟨G, as, d, hf, pr, r, k, kx⟩ := hs
  have s0 := ok_start (N := N) pr r (by rw [hn]; exact hl as d hf)
  rw [hn] at s0
  refine h ⟨K, T, G, H, noA⟩ as d rfl rfl hf (fun n en e' σ' H' vs' ds' C dd ⟨G', s'⟩ x ed => kx n en C dd G' H' s'.ev x ed) _ H [] [] _ s0 (fun σ' H' e' q ⟨G', s'⟩ => ?_) (fun v σ' H' d' e' q ⟨G', s'⟩ => ?_) (fun σ' H' e' q _ => q.elim)
  · exact k _ q _ G' H' s'.ev .non
  · obtain ⟨s2, rv⟩ := s'.pop
    exact k _ q _ G' H' s2.ev rv
theorem body_B {K : PySem.W.Frag} {T : List NTab} {CR C : Addr} {f : List (Str × D) → List D → Res → List (Str × D) → Prop} {t : TS} {N : List Str} {E : XK} (n : Nat) (hn : N.length = n) (hl : ∀ fs as r fs', f fs as r fs' → as.length + 1 ≤ n)
    (h : ∀ (B : Bs) (fs : List (Str × D)) (as : List D) (r : Res) (fs' : List (Str × D)), B.K = K → B.T = T → f fs as r fs' → (∀ n, r = .error n → ∀ e', e'[0]? = some (some (.bor (.obj C fs'))) → Xo B CR E n e') →
      Ex B t (entry n (some (.bor (.obj C fs)) :: args as)) ⟨fun e' => r = .ok .non ∧ e'[0]? = some (some (.bor (.obj C fs'))), fun d' e' => r = .ok d' ∧ e'[0]? = some (some (.bor (.obj C fs'))), fun _ => False⟩) (vs : List V) (H : Hp) (Q : VK) (hs : SpB K T CR C f vs H Q E) :
    t { nx := fun _ H' => Q .non H', rt := Q } (L2.start N vs) H := by
  obtain ⟨G, p, dx, ws, fs, us, as, r, fs', rfl, hp, g, rf, ra, hf, pr, k, kx⟩ := hs
  have l1 : (args as).length = as.length := by unfold args; rw [List.length_map]
  have s0 : Sta ⟨K, T, G, H, (· = p)⟩ (L2.start N (.ref p :: us)) H (entry n (some (.bor (.obj C fs)) :: args as)) [] [] := ⟨G, Evo.refl pr, fun i t q => by
      have q' := entry_at q
      cases i with
      | zero =>
        cases Option.some.inj (Option.some.inj q')
        exact ⟨some (.ref p), start_get rfl, p, rfl, ⟨dx, ws, hp, rf⟩, g, rfl⟩
      | succ i =>
        obtain ⟨d, rfl, hd⟩ := args_at (show (args as)[i]? = some (some t) by simpa using q')
        obtain ⟨v, hv, rv⟩ := ra.at2 hd
        exact ⟨some v, start_get (by simpa using hv), v, rfl, rv⟩, fun i j t u p' q1 q2 m1 m2 _ _ => by
      have go : ∀ {i : Nat} {t : Ent}, (entry n (some (.bor (.obj C fs)) :: args as))[i]? = some (some t) → t.mut → i = 0 := fun {i t} q m => by
        have q' := entry_at q
        cases i with
        | zero => rfl
        | succ i =>
          obtain ⟨d, rfl, hd⟩ := args_at (show (args as)[i]? = some (some t) by simpa using q')
          exact m.elim
      rw [go q1 m1, go q2 m2], .nil, by
      have := hl fs as r fs' hf
      rw [start_len (by rw [hn]; simp [ra.len]; omega), hn, entry_len (by simp [l1]; omega)]⟩
  have at0 : ∀ {σ' : L2.St} {H' : Hp} {e' : En} {vs' : List V} {ds' : List D} {G' : Hp}, Ok ⟨K, T, G, H, (· = p)⟩ G' σ' H' e' vs' ds' → e'[0]? = some (some (.bor (.obj C fs'))) → ∃ dx' ws', H' p = some (.ins C dx' ws') ∧ Rpf K G' ws' fs' := fun {σ' H' e' vs' ds' G'} s' q => by
    obtain ⟨x, ex, p', rfl, ⟨dx', ws', h1, h2⟩, _, z⟩ := s'.slot 0 _ q
    have z' : p' = p := z
    subst z'
    exact ⟨dx', ws', h1, h2⟩
  refine h ⟨K, T, G, H, (· = p)⟩ fs as r fs' rfl rfl hf (fun n en e' e0 σ' H' vs' ds' C' dd ⟨G', s'⟩ x ed => ?_) _ H [] [] _ s0 (fun σ' H' e' q ⟨G', s'⟩ => ?_) (fun v σ' H' d' e' q ⟨G', s'⟩ => ?_) (fun σ' H' e' q _ => q.elim)
  · obtain ⟨dx', ws', h1, h2⟩ := at0 s' e0
    exact kx n en C' dd G' H' dx' ws' s'.ev h1 h2 x ed
  · obtain ⟨er, e0⟩ := q
    obtain ⟨dx', ws', h1, h2⟩ := at0 s' e0
    exact k _ er _ G' H' dx' ws' s'.ev h1 h2 .non
  · obtain ⟨er, e0⟩ := q
    obtain ⟨s2, rv⟩ := s'.pop
    obtain ⟨dx', ws', h1, h2⟩ := at0 s2 e0
    exact k _ er _ G' H' dx' ws' s2.ev h1 h2 rv
theorem sp_lenP {K : PySem.W.Frag} {T : List NTab} {f : List D → D → Prop} {n : Nat} (hl : ∀ as d, f as d → as.length = n) (vs : List V) (H : Hp) (Q : VK) (E : XK) (h : SpP K T f vs H Q E) : vs.length = n := by
  obtain ⟨G, as, d, hf, pr, r, k⟩ := h
  rw [r.len]; exact hl as d hf
theorem sp_lenX {K : PySem.W.Frag} {T : List NTab} {CR : Addr} {f : List D → Res → Prop} {n : Nat} (hl : ∀ as d, f as d → as.length = n) (vs : List V) (H : Hp) (Q : VK) (E : XK) (h : SpX K T CR f vs H Q E) : vs.length = n := by
  obtain ⟨G, as, d, hf, pr, r, k⟩ := h
  rw [r.len]; exact hl as d hf
theorem sp_lenB {K : PySem.W.Frag} {T : List NTab} {CR C : Addr} {f : List (Str × D) → List D → Res → List (Str × D) → Prop} {n : Nat} (hl : ∀ fs as r fs', f fs as r fs' → as.length + 1 = n) (vs : List V) (H : Hp) (Q : VK) (E : XK) (h : SpB K T CR C f vs H Q E) : vs.length = n := by
  obtain ⟨G, p, dx, ws, fs, us, as, r, fs', rfl, hp, g, rf, ra, hf, _⟩ := h
  have := hl fs as r fs' hf
  simp [ra.len]; omega
end
end Dl
set_option maxHeartbeats 4000000
namespace One
open PySem PySem.Spec PyProof.Rows L2 NdefX Dl
/-- what the program's top has left -/
structure Txt (K : PySem.W.Frag) (mg : Str → Option Value) : Prop where
  ex : ∃ (w : World) (h : Heap), K.In h ∧ h.Ns mainGlobals mg ∧ He.SaysD fa fn K
  ext : more K = true
section
variable {K : PySem.W.Frag} {mg : Str → Option Value}
theorem Txt.fact (T : Txt K mg) {i : Nat} {f : He.Fa} (e : fa[i]? = some f) : f.ok K = true := by
  obtain ⟨_, _, _, _, c⟩ := T.ex
  exact c.fact i e
theorem Txt.glo (T : Txt K mg) {x : Str} {i : Nat} (e : fa[i]? = some (.glo x)) : mg x = some (.ref (He.ga K x)) := by
  obtain ⟨_, _, X, G, c⟩ := T.ex
  exact He.glo_ok X G (c.fact i e)
theorem Txt.free (T : Txt K mg) {x : Str} {i : Nat} (e : fa[i]? = some (.free x)) : mg x = none := by
  obtain ⟨_, _, X, G, c⟩ := T.ex
  exact He.free_ok X G (c.fact i e)
theorem Txt.int (T : Txt K mg) {x : Str} {z : Int} {i : Nat} (e : fa[i]? = some (.int x z)) : ∃ t, mg x = some (.int z t) := by
  obtain ⟨_, _, X, G, c⟩ := T.ex
  exact He.int_ok X G (c.fact i e)
theorem Txt.cls (T : Txt K mg) {x : Str} {i : Nat} (e : fa[i]? = some (.cls x)) : Cls K (He.ga K x) := He.cls_ok (T.fact e)
theorem Txt.noat (T : Txt K mg) {x f : Str} {i : Nat} (e : fa[i]? = some (.noat x f)) : NoAttr K (He.ga K x) f := He.noat_ok (T.fact e)
theorem Txt.meth (T : Txt K mg) {x f : Str} {i : Nat} (e : fa[i]? = some (.meth x f)) : Meth K (He.ga K x) f (He.ma K (He.ga K x) f) := He.meth_ok (T.fact e)
theorem Txt.mkr (T : Txt K mg) {x : Str} {i : Nat} (e : fa[i]? = some (.mkr x)) : Mk K (He.ga K x) (He.ma K (He.ga K x) "__init__") := He.mkr_ok (T.fact e)

theorem Txt.int_LOOK_UP_COST (T : Txt K mg) : ∃ t, mg "LOOK_UP_COST" = some (.int 4 t) := T.int (i := 11) rfl
theorem Txt.int_SORT_COST (T : Txt K mg) : ∃ t, mg "SORT_COST" = some (.int 3 t) := T.int (i := 12) rfl
theorem Txt.int_MOST_ROWS (T : Txt K mg) : ∃ t, mg "MOST_ROWS" = some (.int 300 t) := T.int (i := 13) rfl
theorem Txt.int_MOST_COLUMNS (T : Txt K mg) : ∃ t, mg "MOST_COLUMNS" = some (.int 4 t) := T.int (i := 14) rfl
theorem Txt.int_MOST_GROUPS (T : Txt K mg) : ∃ t, mg "MOST_GROUPS" = some (.int 12 t) := T.int (i := 15) rfl
theorem Txt.int_MOST_IN_GROUP (T : Txt K mg) : ∃ t, mg "MOST_IN_GROUP" = some (.int 1000000 t) := T.int (i := 16) rfl
theorem Txt.int_TOP_VALUE (T : Txt K mg) : ∃ t, mg "TOP_VALUE" = some (.int 9 t) := T.int (i := 17) rfl
theorem Txt.int_MOST_LIMIT (T : Txt K mg) : ∃ t, mg "MOST_LIMIT" = some (.int 1000000 t) := T.int (i := 18) rfl
theorem Txt.int_MOST_ASKED (T : Txt K mg) : ∃ t, mg "MOST_ASKED" = some (.int 1000 t) := T.int (i := 19) rfl
theorem Txt.int_TABLE_TOUCH_COST (T : Txt K mg) : ∃ t, mg "TABLE_TOUCH_COST" = some (.int 2 t) := T.int (i := 20) rfl
theorem Txt.int_INDEX_TOUCH_COST (T : Txt K mg) : ∃ t, mg "INDEX_TOUCH_COST" = some (.int 1 t) := T.int (i := 21) rfl
theorem Txt.int_BY_TABLE (T : Txt K mg) : ∃ t, mg "BY_TABLE" = some (.int 0 t) := T.int (i := 22) rfl
theorem Txt.int_BY_INDEX (T : Txt K mg) : ∃ t, mg "BY_INDEX" = some (.int 1 t) := T.int (i := 23) rfl
theorem Txt.int_TABLE (T : Txt K mg) : ∃ t, mg "TABLE" = some (.int 0 t) := T.int (i := 24) rfl
theorem Txt.int_QUESTION (T : Txt K mg) : ∃ t, mg "QUESTION" = some (.int 1 t) := T.int (i := 25) rfl
theorem Txt.int_INDEX (T : Txt K mg) : ∃ t, mg "INDEX" = some (.int 2 t) := T.int (i := 26) rfl
theorem Txt.int_PLAN (T : Txt K mg) : ∃ t, mg "PLAN" = some (.int 3 t) := T.int (i := 27) rfl
theorem Txt.int_WHY (T : Txt K mg) : ∃ t, mg "WHY" = some (.int 4 t) := T.int (i := 28) rfl
theorem Txt.int_WORK (T : Txt K mg) : ∃ t, mg "WORK" = some (.int 5 t) := T.int (i := 29) rfl
theorem Txt.int_WHOLE (T : Txt K mg) : ∃ t, mg "WHOLE" = some (.int 6 t) := T.int (i := 30) rfl
theorem Txt.int_BEST (T : Txt K mg) : ∃ t, mg "BEST" = some (.int 7 t) := T.int (i := 31) rfl
theorem Txt.int_TRACE (T : Txt K mg) : ∃ t, mg "TRACE" = some (.int 8 t) := T.int (i := 32) rfl
theorem Txt.int_ANSWER (T : Txt K mg) : ∃ t, mg "ANSWER" = some (.int 9 t) := T.int (i := 33) rfl
theorem Txt.int_ROWS (T : Txt K mg) : ∃ t, mg "ROWS" = some (.int 10 t) := T.int (i := 34) rfl
theorem Txt.int_PREFIXES (T : Txt K mg) : ∃ t, mg "PREFIXES" = some (.int 11 t) := T.int (i := 35) rfl
theorem Txt.free_len (T : Txt K mg) : mg "len" = none := T.free (i := 0) rfl
theorem Txt.free_sum (T : Txt K mg) : mg "sum" = none := T.free (i := 1) rfl
theorem Txt.free_all (T : Txt K mg) : mg "all" = none := T.free (i := 2) rfl
theorem Txt.free_any (T : Txt K mg) : mg "any" = none := T.free (i := 3) rfl
theorem Txt.free_min (T : Txt K mg) : mg "min" = none := T.free (i := 4) rfl
theorem Txt.free_set (T : Txt K mg) : mg "set" = none := T.free (i := 5) rfl
theorem Txt.free_sorted (T : Txt K mg) : mg "sorted" = none := T.free (i := 6) rfl
theorem Txt.free_range (T : Txt K mg) : mg "range" = none := T.free (i := 7) rfl
theorem Txt.free_enumerate (T : Txt K mg) : mg "enumerate" = none := T.free (i := 8) rfl
theorem Txt.free_Exception (T : Txt K mg) : mg "Exception" = none := T.free (i := 9) rfl
theorem Txt.free_ValueError (T : Txt K mg) : mg "ValueError" = none := T.free (i := 10) rfl
theorem Txt.glo_steps_of (T : Txt K mg) : mg "steps_of" = some (.ref (He.ga K "steps_of")) := T.glo (i := 36) rfl
theorem Txt.glo_work_of (T : Txt K mg) : mg "work_of" = some (.ref (He.ga K "work_of")) := T.glo (i := 37) rfl
theorem Txt.glo_shares_answered (T : Txt K mg) : mg "shares_answered" = some (.ref (He.ga K "shares_answered")) := T.glo (i := 38) rfl
theorem Txt.glo_steps_in_order (T : Txt K mg) : mg "steps_in_order" = some (.ref (He.ga K "steps_in_order")) := T.glo (i := 39) rfl
theorem Txt.glo_cells_in_order (T : Txt K mg) : mg "cells_in_order" = some (.ref (He.ga K "cells_in_order")) := T.glo (i := 40) rfl
theorem Txt.glo_first_shares (T : Txt K mg) : mg "first_shares" = some (.ref (He.ga K "first_shares")) := T.glo (i := 41) rfl
theorem Txt.glo_run_of (T : Txt K mg) : mg "run_of" = some (.ref (He.ga K "run_of")) := T.glo (i := 42) rfl
theorem Txt.glo_group_of_each_row (T : Txt K mg) : mg "group_of_each_row" = some (.ref (He.ga K "group_of_each_row")) := T.glo (i := 43) rfl
theorem Txt.glo_count_rows (T : Txt K mg) : mg "count_rows" = some (.ref (He.ga K "count_rows")) := T.glo (i := 44) rfl
theorem Txt.glo_passes_all (T : Txt K mg) : mg "passes_all" = some (.ref (He.ga K "passes_all")) := T.glo (i := 45) rfl
theorem Txt.glo_serves (T : Txt K mg) : mg "serves" = some (.ref (He.ga K "serves")) := T.glo (i := 46) rfl
theorem Txt.glo_first_lacking (T : Txt K mg) : mg "first_lacking" = some (.ref (He.ga K "first_lacking")) := T.glo (i := 47) rfl
theorem Txt.glo_covers (T : Txt K mg) : mg "covers" = some (.ref (He.ga K "covers")) := T.glo (i := 48) rfl
theorem Txt.glo_first_out_of_order (T : Txt K mg) : mg "first_out_of_order" = some (.ref (He.ga K "first_out_of_order")) := T.glo (i := 49) rfl
theorem Txt.glo_is_free (T : Txt K mg) : mg "is_free" = some (.ref (He.ga K "is_free")) := T.glo (i := 50) rfl
theorem Txt.glo_is_free_by_table (T : Txt K mg) : mg "is_free_by_table" = some (.ref (He.ga K "is_free_by_table")) := T.glo (i := 51) rfl
theorem Txt.glo_count_equal_keys (T : Txt K mg) : mg "count_equal_keys" = some (.ref (He.ga K "count_equal_keys")) := T.glo (i := 52) rfl
theorem Txt.glo_next_key_filters (T : Txt K mg) : mg "next_key_filters" = some (.ref (He.ga K "next_key_filters")) := T.glo (i := 53) rfl
theorem Txt.glo_groups_held (T : Txt K mg) : mg "groups_held" = some (.ref (He.ga K "groups_held")) := T.glo (i := 54) rfl
theorem Txt.glo_groups_in_range (T : Txt K mg) : mg "groups_in_range" = some (.ref (He.ga K "groups_in_range")) := T.glo (i := 55) rfl
theorem Txt.glo_read_table (T : Txt K mg) : mg "read_table" = some (.ref (He.ga K "read_table")) := T.glo (i := 56) rfl
theorem Txt.glo_read_columns (T : Txt K mg) : mg "read_columns" = some (.ref (He.ga K "read_columns")) := T.glo (i := 57) rfl
theorem Txt.glo_refuse_repeats (T : Txt K mg) : mg "refuse_repeats" = some (.ref (He.ga K "refuse_repeats")) := T.glo (i := 58) rfl
theorem Txt.glo_read_filter (T : Txt K mg) : mg "read_filter" = some (.ref (He.ga K "read_filter")) := T.glo (i := 59) rfl
theorem Txt.glo_read_filters (T : Txt K mg) : mg "read_filters" = some (.ref (He.ga K "read_filters")) := T.glo (i := 60) rfl
theorem Txt.glo_read_question (T : Txt K mg) : mg "read_question" = some (.ref (He.ga K "read_question")) := T.glo (i := 61) rfl
theorem Txt.glo_read_index (T : Txt K mg) : mg "read_index" = some (.ref (He.ga K "read_index")) := T.glo (i := 62) rfl
theorem Txt.glo_way_by_table (T : Txt K mg) : mg "way_by_table" = some (.ref (He.ga K "way_by_table")) := T.glo (i := 63) rfl
theorem Txt.glo_way_by_index (T : Txt K mg) : mg "way_by_index" = some (.ref (He.ga K "way_by_index")) := T.glo (i := 64) rfl
theorem Txt.glo_groups_as_touched (T : Txt K mg) : mg "groups_as_touched" = some (.ref (He.ga K "groups_as_touched")) := T.glo (i := 65) rfl
theorem Txt.glo_answers (T : Txt K mg) : mg "answers" = some (.ref (He.ga K "answers")) := T.glo (i := 66) rfl
theorem Txt.glo_split_calls (T : Txt K mg) : mg "split_calls" = some (.ref (He.ga K "split_calls")) := T.glo (i := 67) rfl
theorem Txt.glo_answer_or_refusal (T : Txt K mg) : mg "answer_or_refusal" = some (.ref (He.ga K "answer_or_refusal")) := T.glo (i := 68) rfl
theorem Txt.glo_answer_one (T : Txt K mg) : mg "answer_one" = some (.ref (He.ga K "answer_one")) := T.glo (i := 69) rfl
theorem Txt.glo_Step (T : Txt K mg) : mg "Step" = some (.ref (He.ga K "Step")) := T.glo (i := 70) rfl
theorem Txt.cls_Step (T : Txt K mg) : Cls K (He.ga K "Step") := T.cls (i := 71) rfl
theorem Txt.mkr_Step (T : Txt K mg) : Mk K (He.ga K "Step") (He.ma K (He.ga K "Step") "__init__") := T.mkr (i := 72) rfl
theorem Txt.n_Step_group (T : Txt K mg) : NoAttr K (He.ga K "Step") "group" := T.noat (i := 73) rfl
theorem Txt.n_Step_touched (T : Txt K mg) : NoAttr K (He.ga K "Step") "touched" := T.noat (i := 74) rfl
theorem Txt.n_Step_looked_up (T : Txt K mg) : NoAttr K (He.ga K "Step") "looked_up" := T.noat (i := 75) rfl
theorem Txt.n_Step_found (T : Txt K mg) : NoAttr K (He.ga K "Step") "found" := T.noat (i := 76) rfl
theorem Txt.glo_Work (T : Txt K mg) : mg "Work" = some (.ref (He.ga K "Work")) := T.glo (i := 77) rfl
theorem Txt.cls_Work (T : Txt K mg) : Cls K (He.ga K "Work") := T.cls (i := 78) rfl
theorem Txt.mkr_Work (T : Txt K mg) : Mk K (He.ga K "Work") (He.ma K (He.ga K "Work") "__init__") := T.mkr (i := 79) rfl
theorem Txt.n_Work_touched (T : Txt K mg) : NoAttr K (He.ga K "Work") "touched" := T.noat (i := 80) rfl
theorem Txt.n_Work_looked_up (T : Txt K mg) : NoAttr K (He.ga K "Work") "looked_up" := T.noat (i := 81) rfl
theorem Txt.n_Work_put_in_order (T : Txt K mg) : NoAttr K (He.ga K "Work") "put_in_order" := T.noat (i := 82) rfl
theorem Txt.n_Work_cost (T : Txt K mg) : NoAttr K (He.ga K "Work") "cost" := T.noat (i := 83) rfl
theorem Txt.glo_Share (T : Txt K mg) : mg "Share" = some (.ref (He.ga K "Share")) := T.glo (i := 84) rfl
theorem Txt.cls_Share (T : Txt K mg) : Cls K (He.ga K "Share") := T.cls (i := 85) rfl
theorem Txt.mkr_Share (T : Txt K mg) : Mk K (He.ga K "Share") (He.ma K (He.ga K "Share") "__init__") := T.mkr (i := 86) rfl
theorem Txt.n_Share_group (T : Txt K mg) : NoAttr K (He.ga K "Share") "group" := T.noat (i := 87) rfl
theorem Txt.n_Share_size (T : Txt K mg) : NoAttr K (He.ga K "Share") "size" := T.noat (i := 88) rfl
theorem Txt.glo_Run (T : Txt K mg) : mg "Run" = some (.ref (He.ga K "Run")) := T.glo (i := 89) rfl
theorem Txt.cls_Run (T : Txt K mg) : Cls K (He.ga K "Run") := T.cls (i := 90) rfl
theorem Txt.mkr_Run (T : Txt K mg) : Mk K (He.ga K "Run") (He.ma K (He.ga K "Run") "__init__") := T.mkr (i := 91) rfl
theorem Txt.n_Run_touched (T : Txt K mg) : NoAttr K (He.ga K "Run") "touched" := T.noat (i := 92) rfl
theorem Txt.n_Run_looked_up (T : Txt K mg) : NoAttr K (He.ga K "Run") "looked_up" := T.noat (i := 93) rfl
theorem Txt.n_Run_put_in_order (T : Txt K mg) : NoAttr K (He.ga K "Run") "put_in_order" := T.noat (i := 94) rfl
theorem Txt.n_Run_found_groups (T : Txt K mg) : NoAttr K (He.ga K "Run") "found_groups" := T.noat (i := 95) rfl
theorem Txt.glo_Group (T : Txt K mg) : mg "Group" = some (.ref (He.ga K "Group")) := T.glo (i := 96) rfl
theorem Txt.cls_Group (T : Txt K mg) : Cls K (He.ga K "Group") := T.cls (i := 97) rfl
theorem Txt.mkr_Group (T : Txt K mg) : Mk K (He.ga K "Group") (He.ma K (He.ga K "Group") "__init__") := T.mkr (i := 98) rfl
theorem Txt.n_Group_number (T : Txt K mg) : NoAttr K (He.ga K "Group") "number" := T.noat (i := 99) rfl
theorem Txt.n_Group_cells (T : Txt K mg) : NoAttr K (He.ga K "Group") "cells" := T.noat (i := 100) rfl
theorem Txt.n_Group_size (T : Txt K mg) : NoAttr K (He.ga K "Group") "size" := T.noat (i := 101) rfl
theorem Txt.glo_Table (T : Txt K mg) : mg "Table" = some (.ref (He.ga K "Table")) := T.glo (i := 102) rfl
theorem Txt.cls_Table (T : Txt K mg) : Cls K (He.ga K "Table") := T.cls (i := 103) rfl
theorem Txt.mkr_Table (T : Txt K mg) : Mk K (He.ga K "Table") (He.ma K (He.ga K "Table") "__init__") := T.mkr (i := 104) rfl
theorem Txt.n_Table_width (T : Txt K mg) : NoAttr K (He.ga K "Table") "width" := T.noat (i := 105) rfl
theorem Txt.n_Table_groups (T : Txt K mg) : NoAttr K (He.ga K "Table") "groups" := T.noat (i := 106) rfl
theorem Txt.glo_Filter (T : Txt K mg) : mg "Filter" = some (.ref (He.ga K "Filter")) := T.glo (i := 107) rfl
theorem Txt.cls_Filter (T : Txt K mg) : Cls K (He.ga K "Filter") := T.cls (i := 108) rfl
theorem Txt.mkr_Filter (T : Txt K mg) : Mk K (He.ga K "Filter") (He.ma K (He.ga K "Filter") "__init__") := T.mkr (i := 109) rfl
theorem Txt.n_Filter_column (T : Txt K mg) : NoAttr K (He.ga K "Filter") "column" := T.noat (i := 110) rfl
theorem Txt.n_Filter_low (T : Txt K mg) : NoAttr K (He.ga K "Filter") "low" := T.noat (i := 111) rfl
theorem Txt.n_Filter_high (T : Txt K mg) : NoAttr K (He.ga K "Filter") "high" := T.noat (i := 112) rfl
theorem Txt.glo_Question (T : Txt K mg) : mg "Question" = some (.ref (He.ga K "Question")) := T.glo (i := 113) rfl
theorem Txt.cls_Question (T : Txt K mg) : Cls K (He.ga K "Question") := T.cls (i := 114) rfl
theorem Txt.mkr_Question (T : Txt K mg) : Mk K (He.ga K "Question") (He.ma K (He.ga K "Question") "__init__") := T.mkr (i := 115) rfl
theorem Txt.n_Question_filters (T : Txt K mg) : NoAttr K (He.ga K "Question") "filters" := T.noat (i := 116) rfl
theorem Txt.n_Question_order (T : Txt K mg) : NoAttr K (He.ga K "Question") "order" := T.noat (i := 117) rfl
theorem Txt.n_Question_backwards (T : Txt K mg) : NoAttr K (He.ga K "Question") "backwards" := T.noat (i := 118) rfl
theorem Txt.n_Question_wanted (T : Txt K mg) : NoAttr K (He.ga K "Question") "wanted" := T.noat (i := 119) rfl
theorem Txt.n_Question_limit (T : Txt K mg) : NoAttr K (He.ga K "Question") "limit" := T.noat (i := 120) rfl
theorem Txt.n_Question_asked (T : Txt K mg) : NoAttr K (He.ga K "Question") "asked" := T.noat (i := 121) rfl
theorem Txt.glo_Index (T : Txt K mg) : mg "Index" = some (.ref (He.ga K "Index")) := T.glo (i := 122) rfl
theorem Txt.cls_Index (T : Txt K mg) : Cls K (He.ga K "Index") := T.cls (i := 123) rfl
theorem Txt.mkr_Index (T : Txt K mg) : Mk K (He.ga K "Index") (He.ma K (He.ga K "Index") "__init__") := T.mkr (i := 124) rfl
theorem Txt.n_Index_key_columns (T : Txt K mg) : NoAttr K (He.ga K "Index") "key_columns" := T.noat (i := 125) rfl
theorem Txt.n_Index_included (T : Txt K mg) : NoAttr K (He.ga K "Index") "included" := T.noat (i := 126) rfl
theorem Txt.n_Index_condition (T : Txt K mg) : NoAttr K (He.ga K "Index") "condition" := T.noat (i := 127) rfl
theorem Txt.glo_Reader (T : Txt K mg) : mg "Reader" = some (.ref (He.ga K "Reader")) := T.glo (i := 128) rfl
theorem Txt.cls_Reader (T : Txt K mg) : Cls K (He.ga K "Reader") := T.cls (i := 129) rfl
theorem Txt.mkr_Reader (T : Txt K mg) : Mk K (He.ga K "Reader") (He.ma K (He.ga K "Reader") "__init__") := T.mkr (i := 130) rfl
theorem Txt.n_Reader_numbers (T : Txt K mg) : NoAttr K (He.ga K "Reader") "numbers" := T.noat (i := 131) rfl
theorem Txt.n_Reader_place (T : Txt K mg) : NoAttr K (He.ga K "Reader") "place" := T.noat (i := 132) rfl
theorem Txt.glo_Way (T : Txt K mg) : mg "Way" = some (.ref (He.ga K "Way")) := T.glo (i := 133) rfl
theorem Txt.cls_Way (T : Txt K mg) : Cls K (He.ga K "Way") := T.cls (i := 134) rfl
theorem Txt.mkr_Way (T : Txt K mg) : Mk K (He.ga K "Way") (He.ma K (He.ga K "Way") "__init__") := T.mkr (i := 135) rfl
theorem Txt.n_Way_question (T : Txt K mg) : NoAttr K (He.ga K "Way") "question" := T.noat (i := 136) rfl
theorem Txt.n_Way_groups (T : Txt K mg) : NoAttr K (He.ga K "Way") "groups" := T.noat (i := 137) rfl
theorem Txt.n_Way_free (T : Txt K mg) : NoAttr K (He.ga K "Way") "free" := T.noat (i := 138) rfl
theorem Txt.n_Way_touch_cost (T : Txt K mg) : NoAttr K (He.ga K "Way") "touch_cost" := T.noat (i := 139) rfl
theorem Txt.n_Way_look_up_filters (T : Txt K mg) : NoAttr K (He.ga K "Way") "look_up_filters" := T.noat (i := 140) rfl
theorem Txt.glo_Bench (T : Txt K mg) : mg "Bench" = some (.ref (He.ga K "Bench")) := T.glo (i := 141) rfl
theorem Txt.cls_Bench (T : Txt K mg) : Cls K (He.ga K "Bench") := T.cls (i := 142) rfl
theorem Txt.mkr_Bench (T : Txt K mg) : Mk K (He.ga K "Bench") (He.ma K (He.ga K "Bench") "__init__") := T.mkr (i := 143) rfl
theorem Txt.n_Bench_table (T : Txt K mg) : NoAttr K (He.ga K "Bench") "table" := T.noat (i := 144) rfl
theorem Txt.n_Bench_question (T : Txt K mg) : NoAttr K (He.ga K "Bench") "question" := T.noat (i := 145) rfl
theorem Txt.n_Bench_index (T : Txt K mg) : NoAttr K (He.ga K "Bench") "index" := T.noat (i := 146) rfl
theorem Txt.meth_Filter_passes (T : Txt K mg) : Meth K (He.ga K "Filter") "passes" (He.ma K (He.ga K "Filter") "passes") := T.meth (i := 147) rfl
theorem Txt.meth_Filter_is_equal (T : Txt K mg) : Meth K (He.ga K "Filter") "is_equal" (He.ma K (He.ga K "Filter") "is_equal") := T.meth (i := 148) rfl
theorem Txt.meth_Filter_keeps_to (T : Txt K mg) : Meth K (He.ga K "Filter") "keeps_to" (He.ma K (He.ga K "Filter") "keeps_to") := T.meth (i := 149) rfl
theorem Txt.meth_Question_filters_on (T : Txt K mg) : Meth K (He.ga K "Question") "filters_on" (He.ma K (He.ga K "Question") "filters_on") := T.meth (i := 150) rfl
theorem Txt.meth_Question_is_equal_on (T : Txt K mg) : Meth K (He.ga K "Question") "is_equal_on" (He.ma K (He.ga K "Question") "is_equal_on") := T.meth (i := 151) rfl
theorem Txt.meth_Question_without_equal (T : Txt K mg) : Meth K (He.ga K "Question") "without_equal" (He.ma K (He.ga K "Question") "without_equal") := T.meth (i := 152) rfl
theorem Txt.meth_Question_needed_columns (T : Txt K mg) : Meth K (He.ga K "Question") "needed_columns" (He.ma K (He.ga K "Question") "needed_columns") := T.meth (i := 153) rfl
theorem Txt.meth_Index_own_columns (T : Txt K mg) : Meth K (He.ga K "Index") "own_columns" (He.ma K (He.ga K "Index") "own_columns") := T.meth (i := 154) rfl
theorem Txt.meth_Index_with_first_keys (T : Txt K mg) : Meth K (He.ga K "Index") "with_first_keys" (He.ma K (He.ga K "Index") "with_first_keys") := T.meth (i := 155) rfl
theorem Txt.meth_Index_holds (T : Txt K mg) : Meth K (He.ga K "Index") "holds" (He.ma K (He.ga K "Index") "holds") := T.meth (i := 156) rfl
theorem Txt.meth_Reader_take (T : Txt K mg) : Meth K (He.ga K "Reader") "take" (He.ma K (He.ga K "Reader") "take") := T.meth (i := 157) rfl
theorem Txt.meth_Reader_finish (T : Txt K mg) : Meth K (He.ga K "Reader") "finish" (He.ma K (He.ga K "Reader") "finish") := T.meth (i := 158) rfl
theorem Txt.meth_Way_finds (T : Txt K mg) : Meth K (He.ga K "Way") "finds" (He.ma K (He.ga K "Way") "finds") := T.meth (i := 159) rfl
theorem Txt.meth_Way_looks_up (T : Txt K mg) : Meth K (He.ga K "Way") "looks_up" (He.ma K (He.ga K "Way") "looks_up") := T.meth (i := 160) rfl
theorem Txt.meth_Way_found_at_end (T : Txt K mg) : Meth K (He.ga K "Way") "found_at_end" (He.ma K (He.ga K "Way") "found_at_end") := T.meth (i := 161) rfl
theorem Txt.meth_Bench_take_table (T : Txt K mg) : Meth K (He.ga K "Bench") "take_table" (He.ma K (He.ga K "Bench") "take_table") := T.meth (i := 162) rfl
theorem Txt.meth_Bench_take_question (T : Txt K mg) : Meth K (He.ga K "Bench") "take_question" (He.ma K (He.ga K "Bench") "take_question") := T.meth (i := 163) rfl
theorem Txt.meth_Bench_take_index (T : Txt K mg) : Meth K (He.ga K "Bench") "take_index" (He.ma K (He.ga K "Bench") "take_index") := T.meth (i := 164) rfl
theorem Txt.meth_Bench_plan (T : Txt K mg) : Meth K (He.ga K "Bench") "plan" (He.ma K (He.ga K "Bench") "plan") := T.meth (i := 165) rfl
theorem Txt.meth_Bench_why (T : Txt K mg) : Meth K (He.ga K "Bench") "why" (He.ma K (He.ga K "Bench") "why") := T.meth (i := 166) rfl
theorem Txt.meth_Bench_work (T : Txt K mg) : Meth K (He.ga K "Bench") "work" (He.ma K (He.ga K "Bench") "work") := T.meth (i := 167) rfl
theorem Txt.meth_Bench_whole (T : Txt K mg) : Meth K (He.ga K "Bench") "whole" (He.ma K (He.ga K "Bench") "whole") := T.meth (i := 168) rfl
theorem Txt.meth_Bench_best (T : Txt K mg) : Meth K (He.ga K "Bench") "best" (He.ma K (He.ga K "Bench") "best") := T.meth (i := 169) rfl
theorem Txt.meth_Bench_trace (T : Txt K mg) : Meth K (He.ga K "Bench") "trace" (He.ma K (He.ga K "Bench") "trace") := T.meth (i := 170) rfl
theorem Txt.meth_Bench_answer (T : Txt K mg) : Meth K (He.ga K "Bench") "answer" (He.ma K (He.ga K "Bench") "answer") := T.meth (i := 171) rfl
theorem Txt.meth_Bench_rows (T : Txt K mg) : Meth K (He.ga K "Bench") "rows" (He.ma K (He.ga K "Bench") "rows") := T.meth (i := 172) rfl
theorem Txt.meth_Bench_prefixes (T : Txt K mg) : Meth K (He.ga K "Bench") "prefixes" (He.ma K (He.ga K "Bench") "prefixes") := T.meth (i := 173) rfl
theorem Txt.meth_Bench_count_in_range (T : Txt K mg) : Meth K (He.ga K "Bench") "count_in_range" (He.ma K (He.ga K "Bench") "count_in_range") := T.meth (i := 174) rfl
theorem Txt.meth_Bench_way_by (T : Txt K mg) : Meth K (He.ga K "Bench") "way_by" (He.ma K (He.ga K "Bench") "way_by") := T.meth (i := 175) rfl
theorem Txt.meth_Bench_way_told (T : Txt K mg) : Meth K (He.ga K "Bench") "way_told" (He.ma K (He.ga K "Bench") "way_told") := T.meth (i := 176) rfl
theorem Txt.meth_Bench_ask_for_table (T : Txt K mg) : Meth K (He.ga K "Bench") "ask_for_table" (He.ma K (He.ga K "Bench") "ask_for_table") := T.meth (i := 177) rfl
theorem Txt.meth_Bench_ask_for_question (T : Txt K mg) : Meth K (He.ga K "Bench") "ask_for_question" (He.ma K (He.ga K "Bench") "ask_for_question") := T.meth (i := 178) rfl
theorem Txt.meth_Bench_ask_for_index (T : Txt K mg) : Meth K (He.ga K "Bench") "ask_for_index" (He.ma K (He.ga K "Bench") "ask_for_index") := T.meth (i := 179) rfl
theorem Txt.meth_Bench_ask_for_serving (T : Txt K mg) : Meth K (He.ga K "Bench") "ask_for_serving" (He.ma K (He.ga K "Bench") "ask_for_serving") := T.meth (i := 180) rfl
theorem Txt.glo_Refusal (T : Txt K mg) : mg "Refusal" = some (.ref (He.ga K "Refusal")) := T.glo (i := 181) rfl
theorem Txt.glo_NotWhole (T : Txt K mg) : mg "NotWhole" = some (.ref (He.ga K "NotWhole")) := T.glo (i := 183) rfl
theorem Txt.glo_TooManyEntries (T : Txt K mg) : mg "TooManyEntries" = some (.ref (He.ga K "TooManyEntries")) := T.glo (i := 185) rfl
theorem Txt.glo_NoSuchWay (T : Txt K mg) : mg "NoSuchWay" = some (.ref (He.ga K "NoSuchWay")) := T.glo (i := 187) rfl
theorem Txt.glo_NotServing (T : Txt K mg) : mg "NotServing" = some (.ref (He.ga K "NotServing")) := T.glo (i := 189) rfl
theorem Txt.glo_NoIndex (T : Txt K mg) : mg "NoIndex" = some (.ref (He.ga K "NoIndex")) := T.glo (i := 191) rfl
theorem Txt.glo_NoTable (T : Txt K mg) : mg "NoTable" = some (.ref (He.ga K "NoTable")) := T.glo (i := 193) rfl
theorem Txt.glo_NoQuestion (T : Txt K mg) : mg "NoQuestion" = some (.ref (He.ga K "NoQuestion")) := T.glo (i := 195) rfl
theorem Txt.glo_UnknownCall (T : Txt K mg) : mg "UnknownCall" = some (.ref (He.ga K "UnknownCall")) := T.glo (i := 197) rfl
end
/-! ### a def and its promise -/
structure DefOk (P : Program) (w : World) (K : PySem.W.Frag) (mg : Str → Option Value) (base : Heap) (CX : CXT) (k : Nat) (p : Str × Option Str) (ps : List Str) (sp : Sp) : Prop where
  ex : ∃ fd, FnOk P w K mg base CX k (He.fAd K p) fd ps sp ∧ Binds K fd ps []
  kp : PySem.W.keepIn K (.ref (He.fAd K p)) = true
section
variable {P : Program} {w : World} {K : PySem.W.Frag} {mg : Str → Option Value} {base : Heap}
theorem Txt.def_ (T : Txt K mg) {d : He.DefD} {i : Nat} (e : fn[i]? = some d) : ∃ fd, FunD K d.name d.qual d.params d.body d.scope (d.dvs K) (d.kws K) (He.fAd K d.at_) fd := by
  obtain ⟨_, _, _, _, c⟩ := T.ex
  exact c.def_ i e
theorem pe_gI {X : Cx} {x : Str} {i : Int} {pos : Pos} (hg : Gl X x) (h : ∃ t, X.mg x = some (.int i t)) (hd : (x == ("__debug__" : Str)) = false := by decide) : PE X (.Name x pos) (tC (.int i)) := by
  obtain ⟨t, h⟩ := h
  exact pe_glob hg h ⟨t, rfl⟩ (hd := hd)
theorem pe_fldB {X : Cx} {s : Shared} {H : Hp} {sc : Scope} {ce : Env} {fp : List Addr} {e : Expr} {f : Str} {pos : Pos} {ta : TE} (he : PE (X.blk s H sc ce fp) e ta) (hb : attributeBase e f ce (eval e ce) = eval e ce) : PE (X.blk s H sc ce fp) (.Attribute e f pos) (tFld X.K ta f) := pe_fld he hb
theorem pe_ixB {X : Cx} {s : Shared} {H : Hp} {sc : Scope} {ce : Env} {fp : List Addr} {a b : Expr} {pos : Pos} {ta tb : TE} (ha : PE (X.blk s H sc ce fp) a ta) (hb : PE (X.blk s H sc ce fp) b tb) (hs : PlainIx b) : PE (X.blk s H sc ce fp) (.Subscript a b pos) (tOp (rIxL X.K) ta tb) := pe_ix ix_list ha hb hs
/-! ### the values of the program -/
open VaidxBase (Group Table Filter Index)
abbrev Gr := Group × Nat
def nD (n : Nat) : D := .int n
def nsD (l : List Nat) : D := .lst (l.map nD)
def fD (K : PySem.W.Frag) (f : Filter) : D := .obj (He.ga K "Filter") [("column", nD f.col), ("low", nD f.lo), ("high", nD f.hi)]
def fsD (K : PySem.W.Frag) (l : List Filter) : D := .lst (l.map (fD K))
def gD (K : PySem.W.Frag) (g : Gr) : D := .obj (He.ga K "Group") [("number", nD g.2), ("cells", nsD g.1.row), ("size", nD g.1.count)]
def gsD (K : PySem.W.Frag) (l : List Gr) : D := .lst (l.map (gD K))
def qD (K : PySem.W.Frag) (q : VaidxBase.Question) : D := .obj (He.ga K "Question") [("filters", fsD K q.filters), ("order", nsD q.order), ("backwards", .bl q.back), ("wanted", nsD q.wants), ("limit", nD q.limit), ("asked", nD q.times)]
def oD (K : PySem.W.Frag) : Option Filter → D
  | none => .non
  | some f => fD K f
def iD (K : PySem.W.Frag) (i : Index) : D := .obj (He.ga K "Index") [("key_columns", nsD i.keys), ("included", nsD i.others), ("condition", oD K i.only)]
def tD (K : PySem.W.Frag) (t : Table) : D := .obj (He.ga K "Table") [("width", nD t.cols), ("groups", gsD K t.groups.zipIdx)]
/-! ### what is known of them: of w columns -/
structure Fw (w : Nat) (f : Filter) : Prop where
  col : f.col < w
structure Gw (w : Nat) (g : Gr) : Prop where
  row : g.1.row.length = w
  cnt : 1 ≤ g.1.count ∧ g.1.count ≤ 1000000
structure Qw (w : Nat) (q : VaidxBase.Question) : Prop where
  fs : ∀ f ∈ q.filters, Fw w f
  fl : q.filters.length ≤ 4
  nd : (q.filters.map fun f => f.col).Nodup
  ord : ∀ c ∈ q.order, c < w
  ol : q.order.length ≤ 4
  wl : q.wants.length ≤ 4
structure Iw (w : Nat) (i : Index) : Prop where
  keys : ∀ c ∈ i.keys, c < w
  kl : i.keys.length ≤ 4
  ol : i.others.length ≤ 4
  only : ∀ f, i.only = some f → Fw w f
structure Tw (w : Nat) (t : Table) : Prop where
  gs : ∀ g ∈ t.groups.zipIdx, Gw w g
  len : t.groups.length ≤ 12
/-- the groups in the range, as they lie -/
def inRange (t : Table) (i : Index) (q : VaidxBase.Question) : List Gr := (t.groups.zipIdx.filter fun g => VaidxBase.isIn i g.1.row).filter fun g => (VaidxBase.rangeFilters i q).all (VaidxBase.passes g.1.row)
/-! ### numbers -/
variable {B : Bs} {e e1 e2 : En}
theorem map_nD (l : List Nat) : l.map nD = (l.map fun (n : Nat) => (n : Int)).map D.int := by
  rw [List.map_map]
  rfl
theorem getD_at {l : List Nat} {c : Nat} (h : c < l.length) : l[c]? = some (VaidxBase.valueAt l c) := by
  unfold VaidxBase.valueAt
  rw [List.getElem?_eq_getElem h]
  rfl
theorem dec_nn {p q : Prop} [Decidable p] [Decidable q] (h : p ↔ q) : decide p = decide q := by
  by_cases hp : p
  · rw [decide_eq_true hp, decide_eq_true (h.mp hp)]
  · rw [decide_eq_false hp, decide_eq_false (fun z => hp (h.mpr z))]
theorem dec_le (a b : Nat) : decide ((a : Int) ≤ (b : Int)) = decide (a ≤ b) := dec_nn (by omega)
theorem dec_lt (a b : Nat) : decide ((a : Int) < (b : Int)) = decide (a < b) := dec_nn (by omega)
theorem dec_eq (a b : Nat) : decide ((a : Int) = (b : Int)) = decide (a = b) := dec_nn (by omega)
theorem foldl_add : ∀ (l : List Nat) (a : Nat), l.foldl (fun a b => a + b) a = a + l.foldl (fun a b => a + b) 0
  | [], a => by simp
  | x :: l, a => by
    rw [List.foldl_cons, List.foldl_cons, foldl_add l (a + x), foldl_add l (0 + x)]
    omega
theorem rowsOf_cons (g : Group) (l : List Group) : VaidxBase.rowsOf (g :: l) = g.count + VaidxBase.rowsOf l := by
  unfold VaidxBase.rowsOf
  rw [List.map_cons, List.foldl_cons, foldl_add]
  omega
theorem sum_rows : ∀ l : List Gr, (l.map fun g => (g.1.count : Int)).sum = (VaidxBase.rowsOf (l.map (·.1)) : Nat)
  | [] => rfl
  | g :: l => by
    rw [List.map_cons, List.sum_cons, sum_rows l, List.map_cons, rowsOf_cons]
    omega
theorem take_more {α : Type} {l : List α} {i : Nat} {x : α} (h : l[i]? = some x) : l.take (i + 1) = l.take i ++ [x] := by
  rw [List.take_add_one, h]
  rfl
theorem find_nodup {f : VaidxBase.Filter} {c : Nat} : ∀ {l : List VaidxBase.Filter}, (l.map fun f => f.col).Nodup → l.filter (fun f => f.col == c) = (l.find? fun f => f.col == c).toList
  | [], _ => rfl
  | g :: l, h => by
    rw [List.map_cons, List.nodup_cons] at h
    rw [List.filter_cons, List.find?_cons]
    cases q : g.col == c with
    | true =>
      rw [if_pos rfl]
      have e : g.col = c := eq_of_beq q
      have : l.filter (fun f => f.col == c) = [] := by
        rw [List.filter_eq_nil_iff]
        intro x hx z
        exact h.1 (List.mem_map.mpr ⟨x, hx, (eq_of_beq z).trans e.symm⟩)
      rw [this]
      rfl
    | false =>
      rw [if_neg (by decide)]
      exact find_nodup (f := f) h.2
theorem on_nodup {q : VaidxBase.Question} {c : Nat} (h : (q.filters.map fun f => f.col).Nodup) : q.filters.filter (fun f => f.col == c) = (VaidxBase.filterOn q c).toList := by
  cases e : q.filters with
  | nil => unfold VaidxBase.filterOn; rw [e]; rfl
  | cons f l =>
    rw [e] at h
    unfold VaidxBase.filterOn
    rw [e]
    exact find_nodup (f := f) h
theorem on_more {q : VaidxBase.Question} {c i : Nat} {cs : List Nat} (hi : cs[i]? = some c) : (cs.take (i + 1)).filterMap (VaidxBase.filterOn q) = (cs.take i).filterMap (VaidxBase.filterOn q) ++ (VaidxBase.filterOn q c).toList := by
  rw [take_more hi, List.filterMap_append, List.filterMap_cons]
  cases VaidxBase.filterOn q c <;> rfl
theorem on_len {q : VaidxBase.Question} (cs : List Nat) : (cs.filterMap (VaidxBase.filterOn q)).length ≤ cs.length := List.length_filterMap_le _ _
theorem et_test {te : TE} {b : Bool} (h : Ev B te e (.bl b) e1) : EvT B (tTest te) e b e1 := et_B h
theorem et_not {t : TT} {b : Bool} (h : EvT B t e b e1) : EvT B (tNot t) e (!b) e1 := fun σ H vs ds Q s k => h σ H vs ds _ s fun H' s' => k H' s'
theorem et_and {t u : TT} {a b : Bool} (h : EvT B t e a e1) (h2 : a = true → EvT B u e1 b e1) : EvT B (tAnd t u) e (a && b) e1 := fun σ H vs ds Q s k => h σ H vs ds _ s fun H' s' => by
  cases a with
  | true => exact iteT (h2 rfl σ H' vs ds _ s' k)
  | false => exact iteF (k H' s')
theorem et_or {t u : TT} {a b : Bool} (h : EvT B t e a e1) (h2 : a = false → EvT B u e1 b e1) : EvT B (tOr t u) e (a || b) e1 := fun σ H vs ds Q s k => h σ H vs ds _ s fun H' s' => by
  cases a with
  | true => exact iteT (k H' s')
  | false => exact iteF (h2 rfl σ H' vs ds _ s' k)
theorem et_eq {t : TT} {a b : Bool} (h : EvT B t e a e1) (q : a = b) : EvT B t e b e1 := q ▸ h
theorem ev_neg {ta : TE} {i : Int} (ha : Ev B ta e (.int i) e1) : Ev B (tUn (rU fun i => V.int (-i)) ta) e (.int (-i)) e1 := fun σ H vs ds Q s k => ha σ H vs ds _ s fun v H' ⟨G', s'⟩ => by
  obtain ⟨s2, r⟩ := s'.pop
  cases r
  exact ⟨i, rfl, k _ H' ⟨G', s2.push (.int _)⟩⟩
theorem beq_nat (a b : Nat) : (a == b) = decide (a = b) := rfl
theorem cutD_to (l : List Nat) (k : Nat) : Dl.cutD (l.map nD) none (some (k : Int)) = (l.take k).map nD := by
  unfold Dl.cutD
  rw [HT.sIx_nat, HT.sIx_none, List.drop_zero, Nat.sub_zero, List.map_take, List.length_map]
  by_cases h : k ≤ l.length
  · rw [Nat.min_eq_left h]
  · rw [Nat.min_eq_right (by omega), List.take_of_length_le (by rw [List.length_map]; omega), List.take_of_length_le (by rw [List.length_map]; omega)]
theorem cutD_one (l : List Nat) (k : Nat) : Dl.cutD (l.map nD) (some (k : Int)) (some ((k + 1 : Nat) : Int)) = ((l.drop k).take 1).map nD := by
  unfold Dl.cutD
  rw [HT.sIx_nat, HT.sIx_nat, List.length_map, List.map_take, List.map_drop]
  by_cases h : k + 1 ≤ l.length
  · rw [Nat.min_eq_left (a := k) (b := l.length) (by omega), Nat.min_eq_left h]
    congr 1
    omega
  · rw [Nat.min_eq_right (a := k + 1) (b := l.length) (by omega)]
    by_cases h2 : k = l.length
    · subst h2
      rw [Nat.min_self, Nat.sub_self, List.take_zero, List.drop_of_length_le (by rw [List.length_map]; exact Nat.le_refl _), List.take_nil]
    · rw [Nat.min_eq_right (by omega), Nat.sub_self, List.take_zero, List.drop_of_length_le (by rw [List.length_map]; omega), List.take_nil]
/-! ### more on lists of whole numbers -/
theorem elem_nat (c : Nat) : ∀ l : List Nat, decide ((c : Int) ∈ l.map fun (n : Nat) => (n : Int)) = l.contains c
  | [] => rfl
  | x :: l => by
    have ih := elem_nat c l
    rw [List.map_cons, List.contains_cons, ← ih, show (c == x) = decide (c = x) from rfl, ← dec_eq]
    by_cases h : (c : Int) = (x : Int)
    · rw [decide_eq_true h, decide_eq_true (List.mem_cons.mpr (.inl h))]; rfl
    · rw [decide_eq_false h, Bool.false_or]
      exact dec_nn ⟨fun z => (List.mem_cons.mp z).resolve_left h, fun z => List.mem_cons.mpr (.inr z)⟩
theorem ev_inN {neg : Bool} {ta tb : TE} {c : Nat} {l : List Nat} (ha : Ev B ta e (nD c) e1) (hb : Ev B tb e1 (nsD l) e2) : Ev B (tOp (rIn B.K neg) ta tb) e (.bl (if neg then !l.contains c else l.contains c)) e2 := by
  refine ev_eq (ev_in (neg := neg) (ns := l.map fun (n : Nat) => (n : Int)) ha (ev_eq hb (by unfold nsD; rw [map_nD])) (.inl rfl)) ?_
  rw [elem_nat]
theorem find_some {α : Type} {p : α → Bool} {c : α} : ∀ {l : List α} {n : Nat}, l[n]? = some c → (∀ x ∈ l.take n, p x = false) → p c = true → l.find? p = some c
  | [], n, h, _, _ => by simp at h
  | x :: l, 0, h, _, hp => by
    cases h
    rw [List.find?_cons, hp]
  | x :: l, n + 1, h, hn, hp => by
    rw [List.find?_cons, hn x (by simp)]
    exact find_some (l := l) (n := n) (by simpa using h) (fun y hy => hn y (by rw [List.take_succ_cons]; exact List.mem_cons_of_mem _ hy)) hp
theorem mem_take_more {α : Type} {l : List α} {n : Nat} {c x : α} (h : l[n]? = some c) (hx : x ∈ l.take (n + 1)) : x ∈ l.take n ∨ x = c := by
  rw [take_more h] at hx
  rcases List.mem_append.mp hx with z | z
  · exact .inl z
  · exact .inr (List.mem_singleton.mp z)
theorem orNone_none (o : Option Nat) : decide (Vaidxb.orNone o = -1) = o.isNone := by
  cases o with
  | none => rfl
  | some n =>
    have : ¬ Vaidxb.orNone (some n) = -1 := by
      show ¬ (n : Int) = -1
      omega
    rw [decide_eq_false this]
    rfl
theorem covers_eq (i : Index) (q : VaidxBase.Question) : (Vaidxb.lacking i q).isNone = VaidxBase.covers i q := by
  unfold Vaidxb.lacking VaidxBase.covers
  induction VaidxBase.needed q with
  | nil => rfl
  | cons c l ih =>
    rw [List.find?_cons, List.all_cons]
    cases h : (VaidxBase.columnsOf i).contains c with
    | true => exact ih
    | false => rfl
theorem free_eq : ∀ l m : List Nat, (Vaidxb.firstOff l m).isNone = VaidxBase.startsWith l m
  | [], m => by
    unfold Vaidxb.firstOff VaidxBase.startsWith
    rfl
  | c :: l, [] => by
    unfold Vaidxb.firstOff VaidxBase.startsWith
    rfl
  | c :: l, d :: m => by
    have ih := free_eq l m
    unfold VaidxBase.startsWith at ih ⊢
    rw [List.length_cons, List.take_succ_cons, Vaidxb.firstOff]
    by_cases h : c = d
    · subst h
      rw [if_pos rfl, ih]
      simp
    · rw [if_neg h]
      have : ((d :: List.take l.length m) == (c :: l)) = false := by
        rw [List.cons_beq_cons, Bool.and_eq_false_iff]
        exact .inl (beq_eq_false_iff_ne.mpr fun z => h z.symm)
      rw [this]
      rfl
theorem drop_some {α : Type} {l : List α} {n : Nat} {c : α} (h : l[n]? = some c) : l.drop n = c :: l.drop (n + 1) := by
  obtain ⟨lt, e⟩ := List.getElem?_eq_some_iff.mp h
  rw [List.drop_eq_getElem_cons lt, e]
theorem off_step {l m : List Nat} {n c : Nat} (h : l[n]? = some c) (hm : m[n]? = some c) (iv : Vaidxb.firstOff l m = Vaidxb.firstOff (l.drop n) (m.drop n)) : Vaidxb.firstOff l m = Vaidxb.firstOff (l.drop (n + 1)) (m.drop (n + 1)) := by
  rw [iv, drop_some h, drop_some hm, Vaidxb.firstOff, if_pos rfl]
theorem off_stop {l m : List Nat} {n c : Nat} (h : l[n]? = some c) (hm : m[n]? ≠ some c) (iv : Vaidxb.firstOff l m = Vaidxb.firstOff (l.drop n) (m.drop n)) : Vaidxb.firstOff l m = some c := by
  rw [iv, drop_some h]
  cases q : m.drop n with
  | nil => rfl
  | cons d r =>
    rw [Vaidxb.firstOff, if_neg]
    rintro rfl
    apply hm
    have : (m.drop n)[0]? = some c := by rw [q]; rfl
    rw [List.getElem?_drop] at this
    exact this
end
end One
namespace One
open PySem PySem.Spec PyProof.Rows L2 NdefX Dl
/-! ### the errors' classes -/
/-- what the written part says of an error's class at C, its __init__ at fI -/
structure OxE (K : PySem.W.Frag) (C fI : Addr) : Prop where
  ini : PySem.W.excInitIn K C exTl "Exception.__new__" = true
  over : PySem.W.excOver K C exTl = true
  hd : PySem.W.hasDictIn K C = true
  cl : PySem.W.isClsIn K C = true
  sa : PySem.W.findIn K (.ref C) "__setattr__" = some (some (.builtin "object.__setattr__"))
  ga : PySem.W.findIn K (.ref C) "__getattribute__" = some (some (.builtin "BaseException.__getattribute__"))
  gg : PySem.W.findIn K (.ref C) "__getattr__" = some none
  noN : PySem.W.findIn K (.ref C) "number" = some none
  iC : PySem.W.findIn K (.ref C) "__init__" = some (some (.ref fI))
  fnI : PySem.W.isFn K (.ref fI) = true
  tI : PySem.W.typeIn K (.ref fI) = some (.type "function")
  exC : PySem.W.subIn K (.ref C) (.type "BaseException") = some true
  exE : PySem.W.subIn K (.ref C) (.type "Exception") = some true
  tyC : PySem.W.typeIn K (.ref C) = some (.type "type")
  kC : PySem.W.keepIn K (.ref C) = true
theorem ba2 {a b : Bool} (h : (a && b) = true) : a = true ∧ b = true := Bool.and_eq_true_iff.mp h
theorem oxe_of {K : PySem.W.Frag} {x : Str} (h : excB K x = true) : OxE K (He.ga K x) (He.ma K (He.ga K x) "__init__") := by
  obtain ⟨h1, h⟩ := ba2 h
  obtain ⟨h2, h⟩ := ba2 h
  obtain ⟨h3, h⟩ := ba2 h
  obtain ⟨h4, h⟩ := ba2 h
  obtain ⟨h5, h⟩ := ba2 h
  obtain ⟨h6, h⟩ := ba2 h
  obtain ⟨h7, h⟩ := ba2 h
  obtain ⟨h8, h⟩ := ba2 h
  obtain ⟨h9, h⟩ := ba2 h
  obtain ⟨h10, h⟩ := ba2 h
  obtain ⟨h11, h⟩ := ba2 h
  obtain ⟨h12, h⟩ := ba2 h
  obtain ⟨h13, h⟩ := ba2 h
  obtain ⟨h14, h15⟩ := ba2 h
  exact ⟨h1, h2, h3, h4, He.eqO_ok h5, He.eqO_ok h6, He.eqO_ok h7, He.eqO_ok h8, He.eqO_ok h9, h10, of_decide_eq_true h11, of_decide_eq_true h12, of_decide_eq_true h13, of_decide_eq_true h14, h15⟩
theorem OxE.takes {K : PySem.W.Frag} {C fI : Addr} (T : OxE K C fI) : PySem.W.takerIn K C "number" = some none := by
  unfold PySem.W.takerIn
  rw [T.noN]; rfl
section
variable {X : Cx} {pins : List (Addr × Obj)} {σ : L2.St} {H : Hp} {s : Shared} {a C fI : Addr} {y : V} {u : Value} {Q : Unit → Shared → Prop} {E : Value → Shared → Prop} {A : Around}
/-- self.number = y on an error that has no dict yet -/
theorem oxe_set (T : OxE X.K C fI) (I : Inv X pins σ H s) (e : H a = some (exo a C none)) (ry : RelV y u)
    (h : ∀ dx s', H dx = none → dx ≠ a → Inv X pins σ (upd (upd H a (exo a C (some dx))) dx (exd dx [("number", y)])) s' → Q () s') : wpAny (model X.prog X.w) A (setAttr (.ref a) "number" u) Q E s := by
  obtain ⟨t1, ho⟩ := exo_at I.hok e
  obtain ⟨hp, g, d, t, os⟩ := s
  have In : PySem.W.InstAt hp a (PySem.W.excObj C t1 none .none) C none := ⟨ho, rfl, rfl, trivial⟩
  refine PySem.W.set_plain I.kIn In T.sa (PySem.W.osa_openX (B := "Exception") PySem.F.store_Exception I.kIn In T.over T.takes fun b => ?_)
  obtain ⟨cd, hc, hd'⟩ := PySem.W.any_some T.hd
  have as : a ≠ hp.objs.size := Nat.ne_of_lt (Heap.lt_size ho)
  have ho1 : (hp.push (PySem.W.dictOf [] 0)).get? a = some (PySem.W.excObj C t1 none .none) := Heap.get?_push_of_some _ ho
  refine wpAny_bind (wpAny_pure (wpAny_bind (PySem.W.instanceDict_exc (s := ⟨hp, g, d, t + 1, os⟩) ho (PySem.W.looks_clsIn I.kIn hc) hd' ?_)))
  show wpAny _ _ (PySem.Builtin.ObjectAttr.storeInDict hp.objs.size (.str "number" t) "number" u) _ _ _
  refine PySem.HandSPX.store_in_new ⟨_, #[], _, (Heap.get?_update_ne _ _ _ _ as.symm).trans (Heap.get?_push_at rfl rfl), rfl, fun _ z => absurd z (by simp), fun _ => rfl⟩ fun h' tk' hn' hs => ?_
  have kb : ∀ b o, b ≠ a → hp.get? b = some o → h'.get? b = some o := fun b o nb eb =>
    (hs.2 b (Nat.ne_of_lt (Heap.lt_size eb))).trans ((Heap.get?_update_ne _ _ _ _ nb).trans (Heap.get?_push_of_some _ eb))
  have ha' : h'.get? a = some (PySem.W.excObj C t1 (some hp.objs.size) .none) := (hs.2 a as).trans (Heap.get?_update_self _ ho1 rfl)
  obtain ⟨G, g1, g2⟩ := restrict h' fun b => decide (b ≠ hp.objs.size)
  have gk : ∀ b, b ≠ hp.objs.size → G.get? b = h'.get? b := fun b nb => g1 b (decide_eq_true nb)
  have gd : G.get? hp.objs.size = none := g2 _ (by simp)
  have hnd : H hp.objs.size = none := I.hok.fresh (Nat.le_refl _)
  have J1 : Inv X pins σ (upd H a (exo a C (some hp.objs.size))) ⟨G, g, d, tk', os⟩ :=
    I.write (t' := tk') (x := a) (e := a) (by rw [e]; exact True.intro) (.inl rfl) (fun b o nb eb => (gk b (Nat.ne_of_lt (Heap.lt_size eb))).trans (kb b o nb eb)) ⟨_, (gk a as).trans ha'⟩ (exo_ok ((gk a as).trans ha'))
  have up : upd H a (exo a C (some hp.objs.size)) hp.objs.size = none := by rw [upd_ne as.symm]; exact hnd
  refine h hp.objs.size ⟨h', g, d, tk', os⟩ hnd as.symm (J1.laidN (t' := tk') (fun b o eb => ?_) gd up (exd_ok hn' (relO_put (fs := []) ry fun _ => True.intro)))
  by_cases nb : b = hp.objs.size
  · have eb' : G.get? b = some o := eb
    rw [nb, gd] at eb'; cases eb'
  · exact (gk b nb).symm.trans eb
/-- Exception.__init__(self, ..): nothing of it is told -/
theorem oxe_base {us : List Value} {Q : Value → Shared → Prop} (T : OxE X.K C fI) (I : Inv X pins σ H s) (e : H a = some (exo a C none)) (hl : us.length ≤ sizeLine) (h : ∀ s', Inv X pins σ H s' → Q .none s') :
    wpAny (model X.prog X.w) A (call (.builtin "Exception.__init__") (.ref a :: us)) Q E s := by
  obtain ⟨nm, N, q, bs, bm, hdct, sn, sub, ab, col, dd, k0, k1, k2, k3, k5, hC, hbm⟩ := PySem.W.excInit_of I.kIn T.ini
  obtain ⟨t1, ho⟩ := exo_at I.hok e
  obtain ⟨hp, g, d, t, os⟩ := s
  refine wpAny_call (PySem.HandSPX.init_base PySem.F.excBase_Exception hbm hC ho hl fun h' t2 k hx => ?_)
  have J := I.write (t' := t) (x := a) (e := a) (o := exo a C none) (by rw [e]; trivial) (.inl rfl) k ⟨_, hx⟩ (exo_ok hx)
  rw [show upd H a (exo a C none) = H from by funext b; unfold upd; split <;> simp_all] at J
  exact h _ J
end
/-- Exception.__init__(self, ..) -/
def tExI (K : PySem.W.Frag) (ta : TA) : TE := fun σ H Q => ta σ H fun vs H1 => ∃ (a C fI : Addr) (ws : List V), vs = .ref a :: ws ∧ ws.length ≤ 1000 ∧ OxE K C fI ∧ H1 a = some (exo a C none) ∧ Q .non H1
/-- self.number = e -/
def tOxs (K : PySem.W.Frag) (to te : TE) : TS := fun D σ H => te σ H fun y H1 => to σ H1 fun x H2 => ∃ a C fI : Addr, x = .ref a ∧ OxE K C fI ∧ H2 a = some (exo a C none) ∧ ∀ dx, H2 dx = none → dx ≠ a → D.nx σ (upd (upd H2 a (exo a C (some dx))) dx (exd dx [("number", y)]))
/-- C0.__init__(..), a def's -/
def tBase (sp : Sp) (ta : TA) : TE := fun σ H Q => ta σ H fun vs H1 => sp vs H1 Q (fun _ _ _ => False)
/-- C() -/
def tMkE (C : Addr) (sp : Sp) : L2.St → Hp → XK → Prop := fun σ H Q => ∀ a, H a = none → sp [.ref a] (upd H a (exo a C none))
  (fun v H2 => v = .non ∧ ∃ (d : Addr) (fs : List (Str × V)), H2 a = some (exo a C (some d)) ∧ H2 d = some (exd d fs) ∧ H d = none ∧ Q (.ref C) (some d) (upd (del H2 a) d (.xd fs))) (fun _ _ _ => False)
section
variable {X : Cx} {o e : Expr} {es : List Expr} {to te : TE} {ta : TA} {p p' p1 p2 pos : Pos}
theorem typ_Ex : typeOf (.type "Exception") = pure (.type "type") := by kernel_rfl
theorem pe_exI {pl : Sem Bool} (hg : Gl X "Exception") (hm : X.mg "Exception" = none) (vV : PySem.W.findCls X.K (.type "Exception") (.type "type") "__init__" = some (.val (.builtin "Exception.__init__"))) (ha : PA X (e :: es) ta)
    (hc : eval (.Call (.Attribute (.Name "Exception" p1) "__init__" p2) (e :: es) [] pos) X.env = (do
      let ov ← eval (.Name "Exception" p1) X.env
      standAt p2.atName
      let (f, first) ← holding [ov] (getMethod ov "__init__" pl)
      callWith pos f first (backTo pos (starEach (e :: es) X.env)) (backToKw pos (keywordEach [] X.env))) := by rfl)
    (he : starEach (e :: es) X.env = (false, eval e X.env) :: starEach es X.env := by rfl) (hpl : (backTo pos (starEach es X.env)).any (·.1) = false := by rfl) :
    PE X (.Call (.Attribute (.Name "Exception" p1) "__init__" p2) (e :: es) [] pos) (tExI X.K ta) := by
  refine ⟨fun pins s σ H Q I h => PySem.W.methodCall_KW (ld_blt I hg hm PyProof.Rows.Boot.«Exception» ?_ (by decide) (by decide)) hc⟩
  obtain ⟨m, fr⟩ := I.fr
  refine PySem.W.method_type fr I.ok.mod.kin typ_Ex (by decide +kernel) vV (by decide +kernel) ?_
  refine PyProof.Rows.callWith_method1 (id := "Exception.__init__") (thn (ha.run pos pins _ σ H _ (I.tok _) h) fun us s1 ⟨vs, H1, I1, r1, a, C, fI, ws, ev, hl, T, ea, q⟩ => ?_) he hpl
  subst ev
  cases r1 with
  | @cons _ u0 _ ur ra rest =>
    obtain rfl : u0 = Value.ref a := ra
    exact oxe_base T I1 ea (by rw [← Paired.length rest, sizeLine_eq]; omega) fun s' J => ⟨.non, H1, J, rfl, q⟩
theorem ps_oxs (ho : PE X o to) (he : PE X e te) (hs : swapsWith e (some (.Attribute o "number" p')) pos.line X.env = pure false := by rfl) : PS X (.Assign [.Attribute o "number" p'] e pos) (tOxs X.K to te) :=
  ⟨fun pins s σ H D I h => plainObj_wpAny_Assign_Attribute (thn (he.run pins s σ H _ I h) fun v s1 ⟨y, H1, I1, r1, q1⟩ => thn (ho.run pins s1 σ H1 _ I1 q1) fun u s2 ⟨x, H2, I2, r2, a, C, fI, ex, T, ea, q⟩ => by
    subst ex
    obtain rfl : u = Value.ref a := r2
    exact oxe_set T I2 ea r1 fun dx s' n ne J => ⟨σ, _, J, q dx n ne⟩) hs⟩
theorem pe_base {pl : Sem Bool} {CX : CXT} {x : Str} {C fI : Addr} {k : Nat} {fd : FuncData} {ps : List Str} {sp : Sp} (hg : Gl X x) (hm : X.mg x = some (.ref C)) (rd : PySem.W.readsIn X.K C (.type "type") = true)
    (sg : PySem.W.specialIn X.K (.ref C) "__getattribute__" = some (some (.builtin "type.__getattribute__"))) (vV : PySem.W.findCls X.K (.ref C) (.type "type") "__init__" = some (.val (.ref fI)))
    (hk : PySem.W.keepIn X.K (.ref fI) = true) (F : FnOk X.prog X.w X.K X.mg X.base CX k fI fd ps sp) (hr : Room k X.A) (hb : Binds X.K fd ps []) (hx : Passes CX X (fun _ _ _ => False)) (ha : PA X (e :: es) ta)
    (hd : (x == ("__debug__" : Str)) = false := by decide)
    (hc : eval (.Call (.Attribute (.Name x p1) "__init__" p2) (e :: es) [] pos) X.env = (do
      let ov ← eval (.Name x p1) X.env
      standAt p2.atName
      let (f, first) ← holding [ov] (getMethod ov "__init__" pl)
      callWith pos f first (backTo pos (starEach (e :: es) X.env)) (backToKw pos (keywordEach [] X.env))) := by rfl)
    (he : starEach (e :: es) X.env = (false, eval e X.env) :: starEach es X.env := by rfl) (hpl : (backTo pos (starEach es X.env)).any (·.1) = false := by rfl) :
    PE X (.Call (.Attribute (.Name x p1) "__init__" p2) (e :: es) [] pos) (tBase sp ta) := by
  refine ⟨fun pins s σ H Q I h => PySem.W.methodCall_KW (ld_glob I hg hm ?_ hd) hc⟩
  refine PySem.W.method_cls I.kIn sg (PySem.W.cls_value I.kIn rd vV rfl ?_)
  refine PySem.W.callWith_K (first := []) (h₀ := X.base) I.ok.mod.kin hk (thn (ha.run pos pins _ σ H _ (I.tok _) h) fun us s1 ⟨vs, H1, I1, r, q⟩ => ⟨I1.kIn, ?_⟩) he hpl
  exact run_fn (dvs := []) (E := fun _ _ _ => False) F hr hb .nil hx I1 r (by rw [List.append_nil]; exact q)
theorem pmk_e {CX : CXT} {x : Str} {C fI : Addr} {k : Nat} {fd : FuncData} {ps : List Str} {sp : Sp} (T : OxE X.K C fI) (F : FnOk X.prog X.w X.K X.mg X.base CX k fI fd ps sp) (hr : Room (k + 1) X.A) (hb : Binds X.K fd ps []) (hx : Passes CX X (fun _ _ _ => False))
    (hg : Gl X x) (hm : X.mg x = some (.ref C)) (hd : (x == ("__debug__" : Str)) = false := by decide) : PMk X (.Call (.Name x p) [] [] pos) (tMkE C sp) := by
  intro pins s σ H Q I h
  obtain ⟨nm, N, q, bs, bm, hdct, sn, sub, ab, col, dd, k0, k1, k2, k3, k5, hC, hbm⟩ := PySem.W.excInit_of I.kIn T.ini
  refine wpAny_Call_Name_kw (ld_glob I hg hm (PySem.W.callWith_K0 (first := []) I.kIn T.kC ?_) hd)
  obtain ⟨hp, g, dr, tk, os⟩ := s
  have n1 : H (hp.objs.size + 1) = none := I.hok.fresh (Nat.le_succ _)
  have hq := h (hp.objs.size + 1) n1
  have kk : ∀ b o, hp.get? b = some o → ((hp.push (PySem.W.kdv_tup [])).push (PySem.HandSPX.excO C hp.objs.size)).get? b = some o := fun b o eb => Heap.get?_push_of_some _ (Heap.get?_push_of_some _ eb)
  have I2 : Inv X pins σ (upd H (hp.objs.size + 1) (exo (hp.objs.size + 1) C none)) ⟨(hp.push (PySem.W.kdv_tup [])).push (PySem.HandSPX.excO C hp.objs.size), g, dr, tk, os⟩ :=
    I.laid (t' := tk) kk (Nat.le_succ _) (exo_ok (t1 := hp.objs.size) (by heap_get))
  have ln : ps.length = 1 := (F.len _ _ _ _ hq).symm
  refine wpAny_call (PySem.HandSPX.call_own PySem.F.excBase_Exception hbm hC (PySem.W.looks_findIn I.kIn T.iC) (fun self => PySem.W.bind_fn I.kIn self T.tI) (Nat.zero_le _)
    (codeAny_mono (F.run _ X.stack _ _ ⟨[.ref (hp.objs.size + 1)], []⟩ [.ref (hp.objs.size + 1)] [.ref (hp.objs.size + 1)] _ (fun _ _ _ => False) (hr.make C [] []) (I2.env0.make C [] []) (hb _ [.ref (hp.objs.size + 1)] I2.kIn ln.symm) (.cons rfl .nil) hq) fun r s' z => ?_))
  cases r with
  | error er => exact hx pins σ _ _ er s' I2 z
  | ok fl =>
    cases fl with
    | ret u =>
      obtain ⟨v, H2, os2, bare2, un2, hok2, rv, ev, d, fs, ea, ed, hd1, q2⟩ := z
      subst ev
      obtain ⟨h2, g2, d2, t2, os'⟩ := s'
      exact ⟨rv, mk_end (raises_own T.exC T.tyC) I (Nat.le_succ _) kk un2 hok2 os2 bare2 ea ed hd1 q2⟩
    | next => exact z.elim
    | brk => exact z.elim
    | cont => exact z.elim
end
end One
namespace One
open PySem PySem.Spec PyProof.Rows L2 NdefX Dl
/-! ### the errors' own __init__ -/
def spRI (K : PySem.W.Frag) : Sp := fun vs H Q _ => ∃ (a C fI : Addr) (n : Int), vs = [.ref a, .int n] ∧ n.natAbs < 1000 ∧ (Str.empty ++ Str.ofString "refused with " ++ Str.ofString (toString n)).length ≤ sizeLine ∧ OxE K C fI ∧ H a = some (exo a C none) ∧
  ∀ dx, H dx = none → dx ≠ a → Q .non (upd (upd H a (exo a C (some dx))) dx (exd dx [("number", .int n)]))
def spER (K : PySem.W.Frag) (n : Int) : Sp := fun vs H Q _ => ∃ a C fI : Addr, vs = [.ref a] ∧ OxE K C fI ∧ H a = some (exo a C none) ∧
  ∀ dx, H dx = none → dx ≠ a → Q .non (upd (upd H a (exo a C (some dx))) dx (exd dx [("number", .int n)]))
structure BaseOk (K : PySem.W.Frag) : Prop where
  rd : PySem.W.readsIn K (He.ga K "Refusal") (.type "type") = true
  sg : PySem.W.specialIn K (.ref (He.ga K "Refusal")) "__getattribute__" = some (some (.builtin "type.__getattribute__"))
  vR : PySem.W.findCls K (.ref (He.ga K "Refusal")) (.type "type") "__init__" = some (.val (.ref (He.ma K (He.ga K "Refusal") "__init__")))
  vE : PySem.W.findCls K (.type "Exception") (.type "type") "__init__" = some (.val (.builtin "Exception.__init__"))
theorem valB_ok {c : Option PySem.W.CFound} {v : Value} (h : valB c v = true) : c = some (.val v) := by
  unfold valB at h
  split at h
  · rw [of_decide_eq_true h]
  · cases h
section
variable {P : Program} {w : World} {K : PySem.W.Frag} {mg : Str → Option Value} {base : Heap} {TT : List NTab}
theorem Txt.bas (T : Txt K mg) : BaseOk K := by
  obtain ⟨h, _⟩ := ba2 T.ext
  obtain ⟨h1, h⟩ := ba2 h
  obtain ⟨h2, h⟩ := ba2 h
  obtain ⟨h3, h4⟩ := ba2 h
  exact ⟨h1, He.eqO_ok h2, valB_ok h3, valB_ok h4⟩
theorem Txt.err (T : Txt K mg) {x : Str} (h : x ∈ errs) : OxE K (He.ga K x) (He.ma K (He.ga K x) "__init__") := oxe_of (List.all_eq_true.mp (ba2 (ba2 (ba2 T.ext).2).2).1 x h)
theorem Txt.apart (T : Txt K mg) : (He.cT K ("steps_in_order", none)).2 ≠ (He.cT K ("groups_as_touched", none)).2 := fun z => by
  have h := (ba2 (ba2 (ba2 T.ext).2).2).2
  unfold tabsNe at h
  rw [decide_eq_true z] at h
  cases h
abbrev N_Refusal_init : List Str := ["self", "number"]
theorem sc_Refusal_init : FnScope N_Refusal_init ["self", "number"] (defScope s_Refusal_init) := ⟨rfl, rfl, rfl, by decide +kernel, rfl, by decide +kernel, by decide +kernel⟩
theorem small_log {n : Int} (h : n.natAbs < 1000) : n.natAbs.log2 < 1920 := Nat.lt_of_le_of_lt (Nat.log2_le_self _) (by omega)
theorem ok_Refusal_init (T : Txt K mg) : DefOk P w K mg base CX0 1 ("Refusal", some "__init__") ["self", "number"] (spRI K) := by
  obtain ⟨fd, F⟩ := T.def_ (i := 39) (d := d_Refusal_init) rfl
  refine ⟨⟨fd, FunD.ok F sc_Refusal_init (fun vs H Q E h => ?_) (fun cdv A outer s H vs Q E hr h => ?_), F.bindsN fun _ _ _ _ _ _ us hl => match us, hl with | [_, _], _ => rfl⟩, F.kp⟩
  · obtain ⟨a, C, fI, n, rfl, _⟩ := h
    rfl
  · refine ⟨_, pss_cons (ps_expr (pe_exI (by rfl) T.free_Exception T.bas.vE (pa_cons (pv 0) (pa_cons (pe_joined (.cons pe_str (.cons (pe_fmt (pv 1)) .nil))) pa_nil)))) (pss_one (ps_oxs (pv 0) (pv 1))), ?_⟩
    obtain ⟨a, C, fI, n, rfl, hn, hz, hT, ha, k⟩ := h
    refine ⟨.ref a, rfl, ⟨_, rfl, by first | decide | (show _ ≤ sizeLine; decide), .int n, rfl, .inr ⟨n, rfl, small_log hn, _, rfl, ?_, a, C, fI, _, rfl, by show 1 ≤ 1000; decide, hT, ha, ?_⟩⟩⟩
    · exact hz
    · exact ⟨.int n, rfl, .ref a, rfl, a, C, fI, rfl, hT, ha, fun dx h1 h2 => k dx h1 h2⟩
abbrev N_NotWhole_init : List Str := ["self"]
theorem sc_NotWhole_init : FnScope N_NotWhole_init ["self"] (defScope s_NotWhole_init) := ⟨rfl, rfl, rfl, by decide +kernel, rfl, by decide +kernel, by decide +kernel⟩
theorem ok_NotWhole_init (T : Txt K mg) : DefOk P w K mg base CX0 2 ("NotWhole", some "__init__") ["self"] (spER K (-1)) := by
  obtain ⟨⟨fd_R, F_R, b_R⟩, kp_R⟩ := ok_Refusal_init (P := P) (w := w) (base := base) T
  obtain ⟨fd, F⟩ := T.def_ (i := 40) (d := d_NotWhole_init) rfl
  refine ⟨⟨fd, FunD.ok F sc_NotWhole_init (fun vs H Q E h => ?_) (fun cdv A outer s H vs Q E hr h => ?_), F.bindsN fun _ _ _ _ _ _ us hl => match us, hl with | [_], _ => rfl⟩, F.kp⟩
  · obtain ⟨a, C, fI, rfl, _⟩ := h
    rfl
  · refine ⟨_, pss_one (ps_expr (pe_base (by rfl) T.glo_Refusal T.bas.rd T.bas.sg T.bas.vR kp_R F_R (hr.mono (by decide)) b_R pass0 (pa_cons (pv 0) (pa_cons (pe_un un_neg pe_int) pa_nil)))), ?_⟩
    obtain ⟨a, C, fI, rfl, hT, ha, k⟩ := h
    exact ⟨.ref a, rfl, 1, rfl, a, C, fI, -1, rfl, by decide, by decide +kernel, hT, ha, fun dx h1 h2 => k dx h1 h2⟩
abbrev N_TooManyEntries_init : List Str := ["self"]
theorem sc_TooManyEntries_init : FnScope N_TooManyEntries_init ["self"] (defScope s_TooManyEntries_init) := ⟨rfl, rfl, rfl, by decide +kernel, rfl, by decide +kernel, by decide +kernel⟩
theorem ok_TooManyEntries_init (T : Txt K mg) : DefOk P w K mg base CX0 2 ("TooManyEntries", some "__init__") ["self"] (spER K (-4)) := by
  obtain ⟨⟨fd_R, F_R, b_R⟩, kp_R⟩ := ok_Refusal_init (P := P) (w := w) (base := base) T
  obtain ⟨fd, F⟩ := T.def_ (i := 41) (d := d_TooManyEntries_init) rfl
  refine ⟨⟨fd, FunD.ok F sc_TooManyEntries_init (fun vs H Q E h => ?_) (fun cdv A outer s H vs Q E hr h => ?_), F.bindsN fun _ _ _ _ _ _ us hl => match us, hl with | [_], _ => rfl⟩, F.kp⟩
  · obtain ⟨a, C, fI, rfl, _⟩ := h
    rfl
  · refine ⟨_, pss_one (ps_expr (pe_base (by rfl) T.glo_Refusal T.bas.rd T.bas.sg T.bas.vR kp_R F_R (hr.mono (by decide)) b_R pass0 (pa_cons (pv 0) (pa_cons (pe_un un_neg pe_int) pa_nil)))), ?_⟩
    obtain ⟨a, C, fI, rfl, hT, ha, k⟩ := h
    exact ⟨.ref a, rfl, 4, rfl, a, C, fI, -4, rfl, by decide, by decide +kernel, hT, ha, fun dx h1 h2 => k dx h1 h2⟩
abbrev N_NoSuchWay_init : List Str := ["self"]
theorem sc_NoSuchWay_init : FnScope N_NoSuchWay_init ["self"] (defScope s_NoSuchWay_init) := ⟨rfl, rfl, rfl, by decide +kernel, rfl, by decide +kernel, by decide +kernel⟩
theorem ok_NoSuchWay_init (T : Txt K mg) : DefOk P w K mg base CX0 2 ("NoSuchWay", some "__init__") ["self"] (spER K (-5)) := by
  obtain ⟨⟨fd_R, F_R, b_R⟩, kp_R⟩ := ok_Refusal_init (P := P) (w := w) (base := base) T
  obtain ⟨fd, F⟩ := T.def_ (i := 42) (d := d_NoSuchWay_init) rfl
  refine ⟨⟨fd, FunD.ok F sc_NoSuchWay_init (fun vs H Q E h => ?_) (fun cdv A outer s H vs Q E hr h => ?_), F.bindsN fun _ _ _ _ _ _ us hl => match us, hl with | [_], _ => rfl⟩, F.kp⟩
  · obtain ⟨a, C, fI, rfl, _⟩ := h
    rfl
  · refine ⟨_, pss_one (ps_expr (pe_base (by rfl) T.glo_Refusal T.bas.rd T.bas.sg T.bas.vR kp_R F_R (hr.mono (by decide)) b_R pass0 (pa_cons (pv 0) (pa_cons (pe_un un_neg pe_int) pa_nil)))), ?_⟩
    obtain ⟨a, C, fI, rfl, hT, ha, k⟩ := h
    exact ⟨.ref a, rfl, 5, rfl, a, C, fI, -5, rfl, by decide, by decide +kernel, hT, ha, fun dx h1 h2 => k dx h1 h2⟩
abbrev N_NotServing_init : List Str := ["self"]
theorem sc_NotServing_init : FnScope N_NotServing_init ["self"] (defScope s_NotServing_init) := ⟨rfl, rfl, rfl, by decide +kernel, rfl, by decide +kernel, by decide +kernel⟩
theorem ok_NotServing_init (T : Txt K mg) : DefOk P w K mg base CX0 2 ("NotServing", some "__init__") ["self"] (spER K (-6)) := by
  obtain ⟨⟨fd_R, F_R, b_R⟩, kp_R⟩ := ok_Refusal_init (P := P) (w := w) (base := base) T
  obtain ⟨fd, F⟩ := T.def_ (i := 43) (d := d_NotServing_init) rfl
  refine ⟨⟨fd, FunD.ok F sc_NotServing_init (fun vs H Q E h => ?_) (fun cdv A outer s H vs Q E hr h => ?_), F.bindsN fun _ _ _ _ _ _ us hl => match us, hl with | [_], _ => rfl⟩, F.kp⟩
  · obtain ⟨a, C, fI, rfl, _⟩ := h
    rfl
  · refine ⟨_, pss_one (ps_expr (pe_base (by rfl) T.glo_Refusal T.bas.rd T.bas.sg T.bas.vR kp_R F_R (hr.mono (by decide)) b_R pass0 (pa_cons (pv 0) (pa_cons (pe_un un_neg pe_int) pa_nil)))), ?_⟩
    obtain ⟨a, C, fI, rfl, hT, ha, k⟩ := h
    exact ⟨.ref a, rfl, 6, rfl, a, C, fI, -6, rfl, by decide, by decide +kernel, hT, ha, fun dx h1 h2 => k dx h1 h2⟩
abbrev N_NoIndex_init : List Str := ["self"]
theorem sc_NoIndex_init : FnScope N_NoIndex_init ["self"] (defScope s_NoIndex_init) := ⟨rfl, rfl, rfl, by decide +kernel, rfl, by decide +kernel, by decide +kernel⟩
theorem ok_NoIndex_init (T : Txt K mg) : DefOk P w K mg base CX0 2 ("NoIndex", some "__init__") ["self"] (spER K (-7)) := by
  obtain ⟨⟨fd_R, F_R, b_R⟩, kp_R⟩ := ok_Refusal_init (P := P) (w := w) (base := base) T
  obtain ⟨fd, F⟩ := T.def_ (i := 44) (d := d_NoIndex_init) rfl
  refine ⟨⟨fd, FunD.ok F sc_NoIndex_init (fun vs H Q E h => ?_) (fun cdv A outer s H vs Q E hr h => ?_), F.bindsN fun _ _ _ _ _ _ us hl => match us, hl with | [_], _ => rfl⟩, F.kp⟩
  · obtain ⟨a, C, fI, rfl, _⟩ := h
    rfl
  · refine ⟨_, pss_one (ps_expr (pe_base (by rfl) T.glo_Refusal T.bas.rd T.bas.sg T.bas.vR kp_R F_R (hr.mono (by decide)) b_R pass0 (pa_cons (pv 0) (pa_cons (pe_un un_neg pe_int) pa_nil)))), ?_⟩
    obtain ⟨a, C, fI, rfl, hT, ha, k⟩ := h
    exact ⟨.ref a, rfl, 7, rfl, a, C, fI, -7, rfl, by decide, by decide +kernel, hT, ha, fun dx h1 h2 => k dx h1 h2⟩
abbrev N_NoTable_init : List Str := ["self"]
theorem sc_NoTable_init : FnScope N_NoTable_init ["self"] (defScope s_NoTable_init) := ⟨rfl, rfl, rfl, by decide +kernel, rfl, by decide +kernel, by decide +kernel⟩
theorem ok_NoTable_init (T : Txt K mg) : DefOk P w K mg base CX0 2 ("NoTable", some "__init__") ["self"] (spER K (-8)) := by
  obtain ⟨⟨fd_R, F_R, b_R⟩, kp_R⟩ := ok_Refusal_init (P := P) (w := w) (base := base) T
  obtain ⟨fd, F⟩ := T.def_ (i := 45) (d := d_NoTable_init) rfl
  refine ⟨⟨fd, FunD.ok F sc_NoTable_init (fun vs H Q E h => ?_) (fun cdv A outer s H vs Q E hr h => ?_), F.bindsN fun _ _ _ _ _ _ us hl => match us, hl with | [_], _ => rfl⟩, F.kp⟩
  · obtain ⟨a, C, fI, rfl, _⟩ := h
    rfl
  · refine ⟨_, pss_one (ps_expr (pe_base (by rfl) T.glo_Refusal T.bas.rd T.bas.sg T.bas.vR kp_R F_R (hr.mono (by decide)) b_R pass0 (pa_cons (pv 0) (pa_cons (pe_un un_neg pe_int) pa_nil)))), ?_⟩
    obtain ⟨a, C, fI, rfl, hT, ha, k⟩ := h
    exact ⟨.ref a, rfl, 8, rfl, a, C, fI, -8, rfl, by decide, by decide +kernel, hT, ha, fun dx h1 h2 => k dx h1 h2⟩
abbrev N_NoQuestion_init : List Str := ["self"]
theorem sc_NoQuestion_init : FnScope N_NoQuestion_init ["self"] (defScope s_NoQuestion_init) := ⟨rfl, rfl, rfl, by decide +kernel, rfl, by decide +kernel, by decide +kernel⟩
theorem ok_NoQuestion_init (T : Txt K mg) : DefOk P w K mg base CX0 2 ("NoQuestion", some "__init__") ["self"] (spER K (-9)) := by
  obtain ⟨⟨fd_R, F_R, b_R⟩, kp_R⟩ := ok_Refusal_init (P := P) (w := w) (base := base) T
  obtain ⟨fd, F⟩ := T.def_ (i := 46) (d := d_NoQuestion_init) rfl
  refine ⟨⟨fd, FunD.ok F sc_NoQuestion_init (fun vs H Q E h => ?_) (fun cdv A outer s H vs Q E hr h => ?_), F.bindsN fun _ _ _ _ _ _ us hl => match us, hl with | [_], _ => rfl⟩, F.kp⟩
  · obtain ⟨a, C, fI, rfl, _⟩ := h
    rfl
  · refine ⟨_, pss_one (ps_expr (pe_base (by rfl) T.glo_Refusal T.bas.rd T.bas.sg T.bas.vR kp_R F_R (hr.mono (by decide)) b_R pass0 (pa_cons (pv 0) (pa_cons (pe_un un_neg pe_int) pa_nil)))), ?_⟩
    obtain ⟨a, C, fI, rfl, hT, ha, k⟩ := h
    exact ⟨.ref a, rfl, 9, rfl, a, C, fI, -9, rfl, by decide, by decide +kernel, hT, ha, fun dx h1 h2 => k dx h1 h2⟩
/-! ### raise C() -/
theorem oxe_exn {C fI : Addr} (T : OxE K C fI) (h : PySem.W.exmOne K (.ref C) (.ref (He.ga K "Refusal")) = some true) : Exn K (He.ga K "Refusal") C := ⟨h, T.ga, T.gg, T.exC, T.hd, T.noN⟩
theorem ex_raise {B : Bs} {e : En} {P : Bh} {E : XK} {CR C fI : Addr} {n : Int} (T : OxE B.K C fI) (x : Exn B.K CR C) (h : Xo B CR E n e) : Ex B (fun _ σ H => tMkE C (spER B.K n) σ H fun cls d H' => E cls d H') e P := fun σ H vs ds D' ⟨G, s⟩ _ _ _ => by
  intro a ha
  refine ⟨a, C, fI, rfl, T, upd_same, fun dx h1 h2 => ⟨rfl, dx, _, ?_, upd_same, ?_, ?_⟩⟩
  · rw [upd_ne h2.symm, upd_same]
  · rw [upd_ne h2] at h1
    exact h1
  · have h0 : H dx = none := by rw [upd_ne h2] at h1; exact h1
    have eq : upd (del (upd (upd (upd H a (exo a C none)) a (exo a C (some dx))) dx (exd dx [("number", .int n)])) a) dx (.xd [("number", .int n)]) = upd H dx (numX n) := by
      funext b
      by_cases hb : b = dx
      · rw [hb, upd_same, upd_same]
      · rw [upd_ne hb, upd_ne hb]
        by_cases hc : b = a
        · rw [hc, del_same, ha]
        · rw [del_ne hc, upd_ne hb, upd_ne hc, upd_ne hc]
    rw [eq]
    exact h σ _ vs ds C dx ⟨G, s.step (Evo.laid s.pre h0)⟩ x upd_same
end
end One
namespace One
open PySem PySem.Spec PyProof.Rows L2 NdefX Dl
/-! ### how many unlike numbers a list holds -/
abbrev met (ns : List Int) (i : Nat) : List Int := PyProof.Rows.firstMet (fun i => ns.getD i 0) i
def unlike (ns : List Int) : Nat := (met ns ns.length).length
theorem met_all (ns : List Int) : ∀ i, i ≤ ns.length → (met ns i).length ≤ i ∧ ((met ns i).length = i → met ns i = ns.take i ∧ (ns.take i).Nodup)
  | 0, _ => ⟨Nat.le_refl _, fun _ => ⟨rfl, List.nodup_nil⟩⟩
  | i + 1, h => by
    obtain ⟨le, ih⟩ := met_all ns i (by omega)
    have hi : ns[i]? = some (ns.getD i 0) := by rw [List.getD_eq_getElem?_getD, List.getElem?_eq_getElem (by omega)]; rfl
    have sc : met ns (i + 1) = if (met ns i).any (· == ns.getD i 0) = true then met ns i else met ns i ++ [ns.getD i 0] := PyProof.Rows.firstMet_succ _ i
    rw [sc]
    by_cases c : (met ns i).any (· == ns.getD i 0) = true
    · rw [if_pos c]
      exact ⟨by omega, fun z => by omega⟩
    · rw [if_neg c, List.length_append, List.length_singleton]
      refine ⟨by omega, fun z => ?_⟩
      obtain ⟨e, nd⟩ := ih (by omega)
      rw [e] at c ⊢
      rw [take_more hi]
      refine ⟨rfl, List.nodup_append.mpr ⟨nd, List.nodup_cons.mpr ⟨(fun z => nomatch z), List.nodup_nil⟩, fun a ha b hb q => ?_⟩⟩
      rw [List.mem_singleton] at hb
      subst hb
      subst q
      exact c (List.any_eq_true.mpr ⟨_, ha, by simp⟩)
theorem unlike_le (ns : List Int) : unlike ns ≤ ns.length := (met_all ns ns.length (Nat.le_refl _)).1
theorem unlike_lt (ns : List Int) : decide (unlike ns < ns.length) = !decide ns.Nodup := by
  by_cases h : ns.Nodup
  · have e := RZ.firstMet_nodup h ns.length (Nat.le_refl _)
    have : unlike ns = ns.length := (congrArg List.length e).trans (by rw [List.take_length])
    rw [decide_eq_true h, this, decide_eq_false (Nat.lt_irrefl _)]
    rfl
  · have lt : unlike ns < ns.length := by
      rcases Nat.lt_or_eq_of_le (unlike_le ns) with z | z
      · exact z
      · have := ((met_all ns ns.length (Nat.le_refl _)).2 z).2
        rw [List.take_length] at this
        exact absurd this h
    rw [decide_eq_true lt, decide_eq_false h]
    rfl
/-- len(set(e)), e a list of whole numbers -/
def tLenD (K : PySem.W.Frag) (ta : TE) : TE := fun σ H Q => ta σ H fun x H1 => ∃ (l : Addr) (ns : List Int), x = .ref l ∧ SqL K H1 l (ns.map V.int) ∧ ns.length ≤ 1000 ∧ Q (.int (unlike ns : Nat)) H1
theorem pe_lenSetA {X : Cx} {a : Expr} {ta : TE} {p p2 q pos : Pos} (hg : Gl X "len") (hm : X.mg "len" = none) (hg2 : Gl X "set") (hm2 : X.mg "set" = none) (ha : PE X a ta) (hc : X.calm = true := by rfl)
    (na : starEach [a] X.env = (false, eval a X.env) :: starEach [] X.env := by rfl) : PE X (.Call (.Name "len" p) [.Call (.Name "set" p2) [a] [] q] [] pos) (tLenD X.K ta) :=
  ⟨fun pins s σ H Q I h => Call_ (ld_blt I hg hm boot_len (PyProof.Rows.callWith_builtin1 (PyProof.Rows.args_cons (Call_ (ld_blt I hg2 hm2 boot_set (PyProof.Rows.callWith_type1 (PyProof.Rows.args_cons (thn (ha.run pins s σ H _ I h) fun v s1 ⟨x, H1, I1, r1, l, ns, ex, sq, hl, k⟩ => PyProof.Rows.args_nil (by
    subst ex
    cases r1
    obtain ⟨its, rv, pl, _⟩ := I1.list sq
    have sz : its.toArray.size = ns.length := by rw [List.size_toArray, ← rv.length, List.length_map]
    refine call_set_list (I1.ok.hd hc) pl.isList (by simpa using RZ.intsAre_vals rv) (by rw [sz]; unfold scanBound; omega) fun h' tk hS hk => PyProof.Rows.args_nil ?_
    rw [sz] at hS
    obtain ⟨o, es, ep, t, ho, hex, hd, _, _, _, hf, hn⟩ := hS
    have I2 : Inv X pins σ H1 { s1 with heap := h', toks := tk } := I1.kept fun b o e => hk b o (Heap.lt_size e) e
    have ule : (PyProof.Rows.firstMet (fun i => ns.getD i 0) ns.length).length ≤ ns.length := unlike_le ns
    exact call_len_set ho hex hd hf (by rw [hn]; first | omega | (unfold scanBound; omega)) ⟨.int (unlike ns : Nat), H1, I2.tok _, ⟨_, by rw [hn]; rfl⟩, k⟩)) na) na rfl))) rfl) rfl rfl))⟩
section
variable {B : Bs} {e e1 : En}
theorem ev_unlike {ta : TE} {ns : List Int} (h : Ev B ta e (.lst (ns.map D.int)) e1) (hl : ns.length ≤ 1000) : Ev B (tLenD B.K ta) e (.int (unlike ns : Nat)) e1 := fun σ H vs ds Q s k => h σ H vs ds _ s fun v H1 ⟨G1, s1⟩ => by
  obtain ⟨s2, r⟩ := s1.pop
  cases r with
  | lst g r =>
    obtain rfl := Rps.ints ns r
    exact ⟨_, ns, rfl, .inl (.inl (s2.ev.gh _ _ g)), hl, k _ H1 ⟨G1, s2.push (.int _)⟩⟩
end
section
variable {K : PySem.W.Frag} {mg : Str → Option Value}
theorem hu65 {k : Nat} {A : Around} (r : Room k A) : A.units + 65 < cLine := by have := r.un; omega
theorem Txt.e_NotWhole (T : Txt K mg) : OxE K (He.ga K "NotWhole") (He.ma K (He.ga K "NotWhole") "__init__") := T.err (by decide)
theorem Txt.x_NotWhole (T : Txt K mg) : Exn K (He.ga K "Refusal") (He.ga K "NotWhole") := oxe_exn T.e_NotWhole (of_decide_eq_true (T.fact (i := 200) rfl))
theorem Txt.e_TooManyEntries (T : Txt K mg) : OxE K (He.ga K "TooManyEntries") (He.ma K (He.ga K "TooManyEntries") "__init__") := T.err (by decide)
theorem Txt.x_TooManyEntries (T : Txt K mg) : Exn K (He.ga K "Refusal") (He.ga K "TooManyEntries") := oxe_exn T.e_TooManyEntries (of_decide_eq_true (T.fact (i := 201) rfl))
theorem Txt.e_NoSuchWay (T : Txt K mg) : OxE K (He.ga K "NoSuchWay") (He.ma K (He.ga K "NoSuchWay") "__init__") := T.err (by decide)
theorem Txt.x_NoSuchWay (T : Txt K mg) : Exn K (He.ga K "Refusal") (He.ga K "NoSuchWay") := oxe_exn T.e_NoSuchWay (of_decide_eq_true (T.fact (i := 202) rfl))
theorem Txt.e_NotServing (T : Txt K mg) : OxE K (He.ga K "NotServing") (He.ma K (He.ga K "NotServing") "__init__") := T.err (by decide)
theorem Txt.x_NotServing (T : Txt K mg) : Exn K (He.ga K "Refusal") (He.ga K "NotServing") := oxe_exn T.e_NotServing (of_decide_eq_true (T.fact (i := 203) rfl))
theorem Txt.e_NoIndex (T : Txt K mg) : OxE K (He.ga K "NoIndex") (He.ma K (He.ga K "NoIndex") "__init__") := T.err (by decide)
theorem Txt.x_NoIndex (T : Txt K mg) : Exn K (He.ga K "Refusal") (He.ga K "NoIndex") := oxe_exn T.e_NoIndex (of_decide_eq_true (T.fact (i := 204) rfl))
theorem Txt.e_NoTable (T : Txt K mg) : OxE K (He.ga K "NoTable") (He.ma K (He.ga K "NoTable") "__init__") := T.err (by decide)
theorem Txt.x_NoTable (T : Txt K mg) : Exn K (He.ga K "Refusal") (He.ga K "NoTable") := oxe_exn T.e_NoTable (of_decide_eq_true (T.fact (i := 205) rfl))
theorem Txt.e_NoQuestion (T : Txt K mg) : OxE K (He.ga K "NoQuestion") (He.ma K (He.ga K "NoQuestion") "__init__") := T.err (by decide)
theorem Txt.x_NoQuestion (T : Txt K mg) : Exn K (He.ga K "Refusal") (He.ga K "NoQuestion") := oxe_exn T.e_NoQuestion (of_decide_eq_true (T.fact (i := 206) rfl))
end
end One
namespace One
open PySem PySem.Spec PyProof.Rows L2 NdefX Dl
section
variable {P : Program} {w : World} {K : PySem.W.Frag} {mg : Str → Option Value} {base : Heap} {TT : List NTab}
abbrev N_Filter_init : List Str := ["self", "column", "low", "high"]
theorem sc_Filter_init : FnScope N_Filter_init ["self", "column", "low", "high"] (defScope s_Filter_init) := ⟨rfl, rfl, rfl, by decide +kernel, rfl, by decide +kernel, by decide +kernel⟩
def f_Filter_init (K : PySem.W.Frag) : List (Str × D) → List D → Res → List (Str × D) → Prop := fun fs as r fs2 => ∃ d0 d1 d2 : D, fs = [] ∧ as = [d0, d1, d2] ∧ r = .ok .non ∧ fs2 = [(("column" : Str), d0), (("low" : Str), d1), (("high" : Str), d2)]
abbrev sp_Filter_init (K : PySem.W.Frag) (TT : List NTab) : Sp := SpB K TT (He.ga K "Refusal") (He.ga K "Filter") (f_Filter_init K)
theorem len_Filter_init : ∀ (fs : List (Str × D)) (as : List D) r fs2, f_Filter_init K fs as r fs2 → as.length + 1 = 4 := by
  intro fs as r fs2 h
  obtain ⟨_, _, _, _, rfl, _⟩ := h; rfl
theorem ok_Filter_init (T : Txt K mg) : DefOk P w K mg base CX0 1 ("Filter", some "__init__") ["self", "column", "low", "high"] (sp_Filter_init K TT) := by
  obtain ⟨fd, F⟩ := T.def_ (i := 15) (d := d_Filter_init) rfl
  refine ⟨⟨fd, FunD.ok F sc_Filter_init (sp_lenB (n := 4) len_Filter_init) (fun cdv A outer s H vs Q E hr h => ?_), F.bindsN fun _ _ _ _ _ _ us hl => match us, hl with | [_, _, _, _], _ => rfl⟩, F.kp⟩
  refine ⟨_, PSs.nox (pss_cons (ps_fld (pv 0) (pv 1) rfl)
    (pss_cons (ps_fld (pv 0) (pv 2) rfl)
    (pss_one (ps_fld (pv 0) (pv 3) rfl)))), ?_⟩
  refine body_B 4 rfl (fun fs as r fs2 h => by rw [len_Filter_init fs as r fs2 h]; decide) (fun B fs as r fs2 hK hT hf hX => ?_) vs H Q h
  subst hK hT
  obtain ⟨d0, d1, d2, rfl, rfl, rfl, rfl⟩ := hf
  refine ex_seq (ex_fld (evx_ok (ev_var (i := 1) rfl)) (i := 0) rfl rfl T.cls_Filter T.n_Filter_column (of_decide_eq_true rfl) (fun d q => ?_))
  cases q
  refine ex_seq (ex_fld (evx_ok (ev_var (i := 2) rfl)) (i := 0) rfl rfl T.cls_Filter T.n_Filter_low (of_decide_eq_true rfl) (fun d q => ?_))
  cases q
  refine ex_fld (evx_ok (ev_var (i := 3) rfl)) (i := 0) rfl rfl T.cls_Filter T.n_Filter_high (of_decide_eq_true rfl) (fun d q => ?_)
  cases q
  exact ⟨rfl, rfl⟩
abbrev N_Filter_passes : List Str := ["self", "group"]
theorem sc_Filter_passes : FnScope N_Filter_passes ["self", "group"] (defScope s_Filter_passes) := ⟨rfl, rfl, rfl, by decide +kernel, rfl, by decide +kernel, by decide +kernel⟩
def f_Filter_passes (K : PySem.W.Frag) : List D → D → Prop := fun as d => ∃ (f : VaidxBase.Filter) (g : Gr), as = [fD K f, gD K g] ∧ f.col < g.1.row.length ∧ d = .bl (VaidxBase.passes g.1.row f)
abbrev sp_Filter_passes (K : PySem.W.Frag) (TT : List NTab) : Sp := SpP K TT (f_Filter_passes K)
theorem len_Filter_passes : ∀ (as : List D) d, f_Filter_passes K as d → as.length = 2 := by
  intro as d h
  obtain ⟨_, _, rfl, _⟩ := h; rfl
theorem ok_Filter_passes (T : Txt K mg) : DefOk P w K mg base CX0 1 ("Filter", some "passes") ["self", "group"] (sp_Filter_passes K TT) := by
  obtain ⟨fd, F⟩ := T.def_ (i := 16) (d := d_Filter_passes) rfl
  refine ⟨⟨fd, FunD.ok F sc_Filter_passes (sp_lenP (n := 2) len_Filter_passes) (fun cdv A outer s H vs Q E hr h => ?_), F.bindsN fun _ _ _ _ _ _ us hl => match us, hl with | [_, _], _ => rfl⟩, F.kp⟩
  refine ⟨_, PSs.nox (pss_one (ps_ret (pe_chain op_le op_le (pe_fld (pv 0) rfl) (pe_ix ix_list (pe_fld (pv 1) rfl) (pe_fld (pv 0) rfl) (fun _ _ => rfl)) (pe_fld (pv 0) rfl)))), ?_⟩
  refine body_P 2 rfl (fun as d h => by rw [len_Filter_passes as d h]; decide) (fun B as d hK hT hf => ?_) vs H Q E h
  subst hK hT

  obtain ⟨f, g, rfl, hc, rfl⟩ := hf
  refine ex_ret (ev_eq (ev_chain (ev_fld (ev_var rfl) T.cls_Filter T.n_Filter_low rfl) (ev_ix (d := nD (VaidxBase.valueAt g.1.row f.col)) (ev_fld (ev_var rfl) T.cls_Group T.n_Group_cells rfl) (ev_fld (ev_var rfl) T.cls_Filter T.n_Filter_column rfl) ?_) (ev_fld (ev_var rfl) T.cls_Filter T.n_Filter_high rfl)) ?_) rfl
  · rw [List.getElem?_map, getD_at hc]; rfl
  · unfold VaidxBase.passes
    rw [dec_le, dec_le]
abbrev N_Filter_is_equal : List Str := ["self"]
theorem sc_Filter_is_equal : FnScope N_Filter_is_equal ["self"] (defScope s_Filter_is_equal) := ⟨rfl, rfl, rfl, by decide +kernel, rfl, by decide +kernel, by decide +kernel⟩
def f_Filter_is_equal (K : PySem.W.Frag) : List D → D → Prop := fun as d => ∃ (f : VaidxBase.Filter), as = [fD K f] ∧ d = .bl (VaidxBase.isEqual f)
abbrev sp_Filter_is_equal (K : PySem.W.Frag) (TT : List NTab) : Sp := SpP K TT (f_Filter_is_equal K)
theorem len_Filter_is_equal : ∀ (as : List D) d, f_Filter_is_equal K as d → as.length = 1 := by
  intro as d h
  obtain ⟨_, rfl, _⟩ := h; rfl
theorem ok_Filter_is_equal (T : Txt K mg) : DefOk P w K mg base CX0 1 ("Filter", some "is_equal") ["self"] (sp_Filter_is_equal K TT) := by
  obtain ⟨fd, F⟩ := T.def_ (i := 17) (d := d_Filter_is_equal) rfl
  refine ⟨⟨fd, FunD.ok F sc_Filter_is_equal (sp_lenP (n := 1) len_Filter_is_equal) (fun cdv A outer s H vs Q E hr h => ?_), F.bindsN fun _ _ _ _ _ _ us hl => match us, hl with | [_], _ => rfl⟩, F.kp⟩
  refine ⟨_, PSs.nox (pss_one (ps_ret (pe_cmpR op_eq (pe_fld (pv 0) rfl) (pe_fld (pv 0) rfl) (nomark _)))), ?_⟩
  refine body_P 1 rfl (fun as d h => by rw [len_Filter_is_equal as d h]; decide) (fun B as d hK hT hf => ?_) vs H Q E h
  subst hK hT

  obtain ⟨f, rfl, rfl⟩ := hf
  refine ex_ret (ev_eq (ev_eqI (ev_fld (ev_var rfl) T.cls_Filter T.n_Filter_low rfl) (ev_fld (ev_var rfl) T.cls_Filter T.n_Filter_high rfl)) ?_) rfl
  unfold VaidxBase.isEqual
  rw [show (f.lo == f.hi) = decide (f.lo = f.hi) from rfl, dec_eq]
abbrev N_Filter_keeps_to : List Str := ["self", "other"]
theorem sc_Filter_keeps_to : FnScope N_Filter_keeps_to ["self", "other"] (defScope s_Filter_keeps_to) := ⟨rfl, rfl, rfl, by decide +kernel, rfl, by decide +kernel, by decide +kernel⟩
def f_Filter_keeps_to (K : PySem.W.Frag) : List D → D → Prop := fun as d => ∃ (f h : VaidxBase.Filter), as = [fD K f, fD K h] ∧ d = .bl (decide (h.lo ≤ f.lo) && decide (f.hi ≤ h.hi))
abbrev sp_Filter_keeps_to (K : PySem.W.Frag) (TT : List NTab) : Sp := SpP K TT (f_Filter_keeps_to K)
theorem len_Filter_keeps_to : ∀ (as : List D) d, f_Filter_keeps_to K as d → as.length = 2 := by
  intro as d h
  obtain ⟨_, _, rfl, _⟩ := h; rfl
theorem ok_Filter_keeps_to (T : Txt K mg) : DefOk P w K mg base CX0 1 ("Filter", some "keeps_to") ["self", "other"] (sp_Filter_keeps_to K TT) := by
  obtain ⟨fd, F⟩ := T.def_ (i := 18) (d := d_Filter_keeps_to) rfl
  refine ⟨⟨fd, FunD.ok F sc_Filter_keeps_to (sp_lenP (n := 2) len_Filter_keeps_to) (fun cdv A outer s H vs Q E hr h => ?_), F.bindsN fun _ _ _ _ _ _ us hl => match us, hl with | [_, _], _ => rfl⟩, F.kp⟩
  refine ⟨_, PSs.nox (pss_one (ps_ret (pe_and (pe_cmpR op_le (pe_fld (pv 1) rfl) (pe_fld (pv 0) rfl) (nomark _)) (pe_one (pe_cmpR op_le (pe_fld (pv 0) rfl) (pe_fld (pv 1) rfl) (nomark _)))))), ?_⟩
  refine body_P 2 rfl (fun as d h => by rw [len_Filter_keeps_to as d h]; decide) (fun B as d hK hT hf => ?_) vs H Q E h
  subst hK hT

  obtain ⟨f, h, rfl, rfl⟩ := hf
  refine ex_ret (ev_eq (ev_and (ev_ib (ev_fld (ev_var rfl) T.cls_Filter T.n_Filter_low rfl) (ev_fld (ev_var rfl) T.cls_Filter T.n_Filter_low rfl)) fun _ => ev_ib (ev_fld (ev_var rfl) T.cls_Filter T.n_Filter_high rfl) (ev_fld (ev_var rfl) T.cls_Filter T.n_Filter_high rfl)) ?_) rfl
  rw [dec_le, dec_le]
abbrev N_passes_all : List Str := ["filters", "group", "each"]
theorem sc_passes_all : FnScope N_passes_all ["filters", "group"] (defScope s_passes_all) := ⟨rfl, rfl, rfl, by decide +kernel, rfl, by decide +kernel, by decide +kernel⟩
def f_passes_all (K : PySem.W.Frag) : List D → D → Prop := fun as d => ∃ (l : List VaidxBase.Filter) (g : Gr), as = [fsD K l, gD K g] ∧ (∀ f ∈ l, f.col < g.1.row.length) ∧ l.length ≤ 1000 ∧ d = .bl (l.all (VaidxBase.passes g.1.row))
abbrev sp_passes_all (K : PySem.W.Frag) (TT : List NTab) : Sp := SpP K TT (f_passes_all K)
theorem len_passes_all : ∀ (as : List D) d, f_passes_all K as d → as.length = 2 := by
  intro as d h
  obtain ⟨_, _, rfl, _⟩ := h; rfl
theorem ok_passes_all (T : Txt K mg) : DefOk P w K mg base CX0 2 ("passes_all", none) ["filters", "group"] (sp_passes_all K TT) := by
  obtain ⟨⟨fd_Filter_passes, F_Filter_passes, b_Filter_passes⟩, kp_Filter_passes⟩ := ok_Filter_passes (P := P) (w := w) (base := base) (TT := TT) T
  obtain ⟨fd, F⟩ := T.def_ (i := 19) (d := d_passes_all) rfl
  refine ⟨⟨fd, FunD.ok F sc_passes_all (sp_lenP (n := 2) len_passes_all) (fun cdv A outer s H vs Q E hr h => ?_), F.bindsN fun _ _ _ _ _ _ us hl => match us, hl with | [_, _], _ => rfl⟩, F.kp⟩
  refine ⟨_, PSs.nox (pss_one (ps_ret (pe_callB (cr_all rfl) (by rfl) T.free_all (by decide +kernel) (pa_cons (pe_lc (own := [("each", 2)]) (g := gName 2) (by rfl) sc_passes_all.nd (pi_list (pv 0)) (blkOk_by (own := [("each", 2)]) (N := N_passes_all) (sc := defScope s_passes_all) (by decide +kernel)) (fun _ _ _ _ _ => pg_name (i := 2) sc_passes_all.nd rfl (Or.inl rfl)) (fun _ _ _ _ _ => by exact pts_nil) (fun _ _ _ _ _ => by exact (pe_meth (pv 2) T.cls_Filter T.meth_Filter_passes F_Filter_passes (hr.mono (by decide)) b_Filter_passes .nil pass0 (pa_cons (pv 1) pa_nil)))) pa_nil)))), ?_⟩
  refine body_P 3 rfl (fun as d h => by rw [len_passes_all as d h]; decide) (fun B as d hK hT hf => ?_) vs H Q E h
  subst hK hT

  obtain ⟨l, g, rfl, hc, hl, rfl⟩ := hf
  refine ex_ret (ev_eq (ev_all (bs := l.map (VaidxBase.passes g.1.row)) (ev_eq (ev_ofO (eo_lcM (l := l) (enc := fD B.K) (g := fun f => .bl (VaidxBase.passes g.1.row f)) (ev_var rfl) (of_decide_eq_true rfl) (by omega) fun G2 H2 f hm => ?_)) ?_)) ?_) rfl
  · exact ev_meth (f := f_Filter_passes _) (ev_var rfl) rfl (ea_cons (ev_var rfl) ea_nil) ⟨f, g, rfl, hc f hm, rfl⟩
  · show D.lst _ = D.lst _
    rw [List.map_map]; rfl
  · rw [List.all_map]; rfl
abbrev N_count_rows : List Str := ["groups", "group"]
theorem sc_count_rows : FnScope N_count_rows ["groups"] (defScope s_count_rows) := ⟨rfl, rfl, rfl, by decide +kernel, rfl, by decide +kernel, by decide +kernel⟩
def f_count_rows (K : PySem.W.Frag) : List D → D → Prop := fun as d => ∃ (l : List Gr), as = [gsD K l] ∧ l.length ≤ 1000 ∧ d = nD (VaidxBase.rowsOf (l.map (·.1)))
abbrev sp_count_rows (K : PySem.W.Frag) (TT : List NTab) : Sp := SpP K TT (f_count_rows K)
theorem len_count_rows : ∀ (as : List D) d, f_count_rows K as d → as.length = 1 := by
  intro as d h
  obtain ⟨_, rfl, _⟩ := h; rfl
theorem ok_count_rows (T : Txt K mg) : DefOk P w K mg base CX0 1 ("count_rows", none) ["groups"] (sp_count_rows K TT) := by
  obtain ⟨fd, F⟩ := T.def_ (i := 13) (d := d_count_rows) rfl
  refine ⟨⟨fd, FunD.ok F sc_count_rows (sp_lenP (n := 1) len_count_rows) (fun cdv A outer s H vs Q E hr h => ?_), F.bindsN fun _ _ _ _ _ _ us hl => match us, hl with | [_], _ => rfl⟩, F.kp⟩
  refine ⟨_, PSs.nox (pss_one (ps_ret (pe_callB (cr_sum rfl) (by rfl) T.free_sum (by decide +kernel) (pa_cons (pe_lc (own := [("group", 1)]) (g := gName 1) (by rfl) sc_count_rows.nd (pi_list (pv 0)) (blkOk_by (own := [("group", 1)]) (N := N_count_rows) (sc := defScope s_count_rows) (by decide +kernel)) (fun _ _ _ _ _ => pg_name (i := 1) sc_count_rows.nd rfl (Or.inl rfl)) (fun _ _ _ _ _ => by exact pts_nil) (fun _ _ _ _ _ => by exact (pe_fldB (pv 1) rfl))) pa_nil)))), ?_⟩
  refine body_P 2 rfl (fun as d h => by rw [len_count_rows as d h]; decide) (fun B as d hK hT hf => ?_) vs H Q E h
  subst hK hT

  obtain ⟨l, rfl, hl, rfl⟩ := hf
  refine ex_ret (ev_eq (ev_sum (ns := l.map fun g => (g.1.count : Int)) (ev_eq (ev_ofO (eo_lcM (l := l) (enc := gD B.K) (g := fun g => nD g.1.count) (ev_var rfl) (of_decide_eq_true rfl) (by omega) fun G2 H2 g hm => ?_)) ?_)) ?_) rfl
  · exact ev_fld (ev_var rfl) T.cls_Group T.n_Group_size rfl
  · show D.lst _ = D.lst _
    rw [List.map_map]; rfl
  · exact congrArg D.int (sum_rows l)
end
end One
namespace One
open PySem PySem.Spec PyProof.Rows L2 NdefX Dl
section
variable {P : Program} {w : World} {K : PySem.W.Frag} {mg : Str → Option Value} {base : Heap} {TT : List NTab}
abbrev N_Group_init : List Str := ["self", "number", "cells", "size"]
theorem sc_Group_init : FnScope N_Group_init ["self", "number", "cells", "size"] (defScope s_Group_init) := ⟨rfl, rfl, rfl, by decide +kernel, rfl, by decide +kernel, by decide +kernel⟩
def f_Group_init (K : PySem.W.Frag) : List (Str × D) → List D → Res → List (Str × D) → Prop := fun fs as r fs2 => ∃ d0 d1 d2 : D, fs = [] ∧ as = [d0, d1, d2] ∧ r = .ok .non ∧ fs2 = [(("number" : Str), d0), (("cells" : Str), d1), (("size" : Str), d2)]
abbrev sp_Group_init (K : PySem.W.Frag) (TT : List NTab) : Sp := SpB K TT (He.ga K "Refusal") (He.ga K "Group") (f_Group_init K)
theorem len_Group_init : ∀ (fs : List (Str × D)) (as : List D) r fs2, f_Group_init K fs as r fs2 → as.length + 1 = 4 := by
  intro fs as r fs2 h
  obtain ⟨_, _, _, _, rfl, _⟩ := h; rfl
theorem ok_Group_init (T : Txt K mg) : DefOk P w K mg base CX0 1 ("Group", some "__init__") ["self", "number", "cells", "size"] (sp_Group_init K TT) := by
  obtain ⟨fd, F⟩ := T.def_ (i := 12) (d := d_Group_init) rfl
  refine ⟨⟨fd, FunD.ok F sc_Group_init (sp_lenB (n := 4) len_Group_init) (fun cdv A outer s H vs Q E hr h => ?_), F.bindsN fun _ _ _ _ _ _ us hl => match us, hl with | [_, _, _, _], _ => rfl⟩, F.kp⟩
  refine ⟨_, PSs.nox (pss_cons (ps_fld (pv 0) (pv 1) rfl)
    (pss_cons (ps_fld (pv 0) (pv 2) rfl)
    (pss_one (ps_fld (pv 0) (pv 3) rfl)))), ?_⟩
  refine body_B 4 rfl (fun fs as r fs2 h => by rw [len_Group_init fs as r fs2 h]; decide) (fun B fs as r fs2 hK hT hf hX => ?_) vs H Q h
  subst hK hT
  obtain ⟨d0, d1, d2, rfl, rfl, rfl, rfl⟩ := hf
  refine ex_seq (ex_fld (evx_ok (ev_var (i := 1) rfl)) (i := 0) rfl rfl T.cls_Group T.n_Group_number (of_decide_eq_true rfl) (fun d q => ?_))
  cases q
  refine ex_seq (ex_fld (evx_ok (ev_var (i := 2) rfl)) (i := 0) rfl rfl T.cls_Group T.n_Group_cells (of_decide_eq_true rfl) (fun d q => ?_))
  cases q
  refine ex_fld (evx_ok (ev_var (i := 3) rfl)) (i := 0) rfl rfl T.cls_Group T.n_Group_size (of_decide_eq_true rfl) (fun d q => ?_)
  cases q
  exact ⟨rfl, rfl⟩
abbrev N_Table_init : List Str := ["self", "width", "groups"]
theorem sc_Table_init : FnScope N_Table_init ["self", "width", "groups"] (defScope s_Table_init) := ⟨rfl, rfl, rfl, by decide +kernel, rfl, by decide +kernel, by decide +kernel⟩
def f_Table_init (K : PySem.W.Frag) : List (Str × D) → List D → Res → List (Str × D) → Prop := fun fs as r fs2 => ∃ d0 d1 : D, fs = [] ∧ as = [d0, d1] ∧ r = .ok .non ∧ fs2 = [(("width" : Str), d0), (("groups" : Str), d1)]
abbrev sp_Table_init (K : PySem.W.Frag) (TT : List NTab) : Sp := SpB K TT (He.ga K "Refusal") (He.ga K "Table") (f_Table_init K)
theorem len_Table_init : ∀ (fs : List (Str × D)) (as : List D) r fs2, f_Table_init K fs as r fs2 → as.length + 1 = 3 := by
  intro fs as r fs2 h
  obtain ⟨_, _, _, rfl, _⟩ := h; rfl
theorem ok_Table_init (T : Txt K mg) : DefOk P w K mg base CX0 1 ("Table", some "__init__") ["self", "width", "groups"] (sp_Table_init K TT) := by
  obtain ⟨fd, F⟩ := T.def_ (i := 14) (d := d_Table_init) rfl
  refine ⟨⟨fd, FunD.ok F sc_Table_init (sp_lenB (n := 3) len_Table_init) (fun cdv A outer s H vs Q E hr h => ?_), F.bindsN fun _ _ _ _ _ _ us hl => match us, hl with | [_, _, _], _ => rfl⟩, F.kp⟩
  refine ⟨_, PSs.nox (pss_cons (ps_fld (pv 0) (pv 1) rfl)
    (pss_one (ps_fld (pv 0) (pv 2) rfl))), ?_⟩
  refine body_B 3 rfl (fun fs as r fs2 h => by rw [len_Table_init fs as r fs2 h]; decide) (fun B fs as r fs2 hK hT hf hX => ?_) vs H Q h
  subst hK hT
  obtain ⟨d0, d1, rfl, rfl, rfl, rfl⟩ := hf
  refine ex_seq (ex_fld (evx_ok (ev_var (i := 1) rfl)) (i := 0) rfl rfl T.cls_Table T.n_Table_width (of_decide_eq_true rfl) (fun d q => ?_))
  cases q
  refine ex_fld (evx_ok (ev_var (i := 2) rfl)) (i := 0) rfl rfl T.cls_Table T.n_Table_groups (of_decide_eq_true rfl) (fun d q => ?_)
  cases q
  exact ⟨rfl, rfl⟩
abbrev N_Question_init : List Str := ["self", "filters", "order", "backwards", "wanted", "limit", "asked"]
theorem sc_Question_init : FnScope N_Question_init ["self", "filters", "order", "backwards", "wanted", "limit", "asked"] (defScope s_Question_init) := ⟨rfl, rfl, rfl, by decide +kernel, rfl, by decide +kernel, by decide +kernel⟩
def f_Question_init (K : PySem.W.Frag) : List (Str × D) → List D → Res → List (Str × D) → Prop := fun fs as r fs2 => ∃ d0 d1 d2 d3 d4 d5 : D, fs = [] ∧ as = [d0, d1, d2, d3, d4, d5] ∧ r = .ok .non ∧ fs2 = [(("filters" : Str), d0), (("order" : Str), d1), (("backwards" : Str), d2), (("wanted" : Str), d3), (("limit" : Str), d4), (("asked" : Str), d5)]
abbrev sp_Question_init (K : PySem.W.Frag) (TT : List NTab) : Sp := SpB K TT (He.ga K "Refusal") (He.ga K "Question") (f_Question_init K)
theorem len_Question_init : ∀ (fs : List (Str × D)) (as : List D) r fs2, f_Question_init K fs as r fs2 → as.length + 1 = 7 := by
  intro fs as r fs2 h
  obtain ⟨_, _, _, _, _, _, _, rfl, _⟩ := h; rfl
theorem ok_Question_init (T : Txt K mg) : DefOk P w K mg base CX0 1 ("Question", some "__init__") ["self", "filters", "order", "backwards", "wanted", "limit", "asked"] (sp_Question_init K TT) := by
  obtain ⟨fd, F⟩ := T.def_ (i := 20) (d := d_Question_init) rfl
  refine ⟨⟨fd, FunD.ok F sc_Question_init (sp_lenB (n := 7) len_Question_init) (fun cdv A outer s H vs Q E hr h => ?_), F.bindsN fun _ _ _ _ _ _ us hl => match us, hl with | [_, _, _, _, _, _, _], _ => rfl⟩, F.kp⟩
  refine ⟨_, PSs.nox (pss_cons (ps_fld (pv 0) (pv 1) rfl)
    (pss_cons (ps_fld (pv 0) (pv 2) rfl)
    (pss_cons (ps_fld (pv 0) (pv 3) rfl)
    (pss_cons (ps_fld (pv 0) (pv 4) rfl)
    (pss_cons (ps_fld (pv 0) (pv 5) rfl)
    (pss_one (ps_fld (pv 0) (pv 6) rfl))))))), ?_⟩
  refine body_B 7 rfl (fun fs as r fs2 h => by rw [len_Question_init fs as r fs2 h]; decide) (fun B fs as r fs2 hK hT hf hX => ?_) vs H Q h
  subst hK hT
  obtain ⟨d0, d1, d2, d3, d4, d5, rfl, rfl, rfl, rfl⟩ := hf
  refine ex_seq (ex_fld (evx_ok (ev_var (i := 1) rfl)) (i := 0) rfl rfl T.cls_Question T.n_Question_filters (of_decide_eq_true rfl) (fun d q => ?_))
  cases q
  refine ex_seq (ex_fld (evx_ok (ev_var (i := 2) rfl)) (i := 0) rfl rfl T.cls_Question T.n_Question_order (of_decide_eq_true rfl) (fun d q => ?_))
  cases q
  refine ex_seq (ex_fld (evx_ok (ev_var (i := 3) rfl)) (i := 0) rfl rfl T.cls_Question T.n_Question_backwards (of_decide_eq_true rfl) (fun d q => ?_))
  cases q
  refine ex_seq (ex_fld (evx_ok (ev_var (i := 4) rfl)) (i := 0) rfl rfl T.cls_Question T.n_Question_wanted (of_decide_eq_true rfl) (fun d q => ?_))
  cases q
  refine ex_seq (ex_fld (evx_ok (ev_var (i := 5) rfl)) (i := 0) rfl rfl T.cls_Question T.n_Question_limit (of_decide_eq_true rfl) (fun d q => ?_))
  cases q
  refine ex_fld (evx_ok (ev_var (i := 6) rfl)) (i := 0) rfl rfl T.cls_Question T.n_Question_asked (of_decide_eq_true rfl) (fun d q => ?_)
  cases q
  exact ⟨rfl, rfl⟩
abbrev N_Index_init : List Str := ["self", "key_columns", "included", "condition"]
theorem sc_Index_init : FnScope N_Index_init ["self", "key_columns", "included", "condition"] (defScope s_Index_init) := ⟨rfl, rfl, rfl, by decide +kernel, rfl, by decide +kernel, by decide +kernel⟩
def f_Index_init (K : PySem.W.Frag) : List (Str × D) → List D → Res → List (Str × D) → Prop := fun fs as r fs2 => ∃ d0 d1 d2 : D, fs = [] ∧ as = [d0, d1, d2] ∧ r = .ok .non ∧ fs2 = [(("key_columns" : Str), d0), (("included" : Str), d1), (("condition" : Str), d2)]
abbrev sp_Index_init (K : PySem.W.Frag) (TT : List NTab) : Sp := SpB K TT (He.ga K "Refusal") (He.ga K "Index") (f_Index_init K)
theorem len_Index_init : ∀ (fs : List (Str × D)) (as : List D) r fs2, f_Index_init K fs as r fs2 → as.length + 1 = 4 := by
  intro fs as r fs2 h
  obtain ⟨_, _, _, _, rfl, _⟩ := h; rfl
theorem ok_Index_init (T : Txt K mg) : DefOk P w K mg base CX0 1 ("Index", some "__init__") ["self", "key_columns", "included", "condition"] (sp_Index_init K TT) := by
  obtain ⟨fd, F⟩ := T.def_ (i := 25) (d := d_Index_init) rfl
  refine ⟨⟨fd, FunD.ok F sc_Index_init (sp_lenB (n := 4) len_Index_init) (fun cdv A outer s H vs Q E hr h => ?_), F.bindsN fun _ _ _ _ _ _ us hl => match us, hl with | [_, _, _, _], _ => rfl⟩, F.kp⟩
  refine ⟨_, PSs.nox (pss_cons (ps_fld (pv 0) (pv 1) rfl)
    (pss_cons (ps_fld (pv 0) (pv 2) rfl)
    (pss_one (ps_fld (pv 0) (pv 3) rfl)))), ?_⟩
  refine body_B 4 rfl (fun fs as r fs2 h => by rw [len_Index_init fs as r fs2 h]; decide) (fun B fs as r fs2 hK hT hf hX => ?_) vs H Q h
  subst hK hT
  obtain ⟨d0, d1, d2, rfl, rfl, rfl, rfl⟩ := hf
  refine ex_seq (ex_fld (evx_ok (ev_var (i := 1) rfl)) (i := 0) rfl rfl T.cls_Index T.n_Index_key_columns (of_decide_eq_true rfl) (fun d q => ?_))
  cases q
  refine ex_seq (ex_fld (evx_ok (ev_var (i := 2) rfl)) (i := 0) rfl rfl T.cls_Index T.n_Index_included (of_decide_eq_true rfl) (fun d q => ?_))
  cases q
  refine ex_fld (evx_ok (ev_var (i := 3) rfl)) (i := 0) rfl rfl T.cls_Index T.n_Index_condition (of_decide_eq_true rfl) (fun d q => ?_)
  cases q
  exact ⟨rfl, rfl⟩
abbrev N_Question_filters_on : List Str := ["self", "columns", "kept", "column", "each"]
theorem sc_Question_filters_on : FnScope N_Question_filters_on ["self", "columns"] (defScope s_Question_filters_on) := ⟨rfl, rfl, rfl, by decide +kernel, rfl, by decide +kernel, by decide +kernel⟩
def f_Question_filters_on (K : PySem.W.Frag) : List D → D → Prop := fun as d => ∃ (q : VaidxBase.Question) (cs : List Nat), as = [qD K q, nsD cs] ∧ (q.filters.map fun f => f.col).Nodup ∧ q.filters.length ≤ 4 ∧ cs.length ≤ 100 ∧ d = fsD K (cs.filterMap (VaidxBase.filterOn q))
abbrev sp_Question_filters_on (K : PySem.W.Frag) (TT : List NTab) : Sp := SpP K TT (f_Question_filters_on K)
theorem len_Question_filters_on : ∀ (as : List D) d, f_Question_filters_on K as d → as.length = 2 := by
  intro as d h
  obtain ⟨_, _, rfl, _⟩ := h; rfl
theorem ok_Question_filters_on (T : Txt K mg) : DefOk P w K mg base CX0 1 ("Question", some "filters_on") ["self", "columns"] (sp_Question_filters_on K TT) := by
  obtain ⟨fd, F⟩ := T.def_ (i := 21) (d := d_Question_filters_on) rfl
  refine ⟨⟨fd, FunD.ok F sc_Question_filters_on (sp_lenP (n := 2) len_Question_filters_on) (fun cdv A outer s H vs Q E hr h => ?_), F.bindsN fun _ _ _ _ _ _ us hl => match us, hl with | [_, _], _ => rfl⟩, F.kp⟩
  refine ⟨_, PSs.nox (pss_cons (ps_set (i := 2) sc_Question_filters_on.nd rfl (Or.inl rfl) (pe_lst pa_nil))
    (pss_cons (ps_for PassesOwn.never rfl (pi_list (pv 1)) (pg_name (i := 3) sc_Question_filters_on.nd rfl (Or.inr rfl))
    (pss_one (ps_expr (pe_bm PySem.F.plainAttrs_list PySem.F.slot_list_extend PySem.F.type_list_extend mt_extend (pv 2) (pa_cons (pe_lc (own := [("each", 4)]) (g := gName 4) (by rfl) sc_Question_filters_on.nd (pi_list (pe_fld (pv 0) rfl)) (blkOk_by (own := [("each", 4)]) (N := N_Question_filters_on) (sc := defScope s_Question_filters_on) (by decide +kernel)) (fun _ _ _ _ _ => pg_name (i := 4) sc_Question_filters_on.nd rfl (Or.inl rfl)) (fun _ _ _ _ _ => by exact (pts_one (pt_cmpR op_eq (pe_fldB (pv 4) rfl) (pv 3) (nomark _)))) (fun _ _ _ _ _ => by exact (pv 4))) pa_nil)))))
    (pss_one (ps_ret (pv 2))))), ?_⟩
  refine body_P 5 rfl (fun as d h => by rw [len_Question_filters_on as d h]; decide) (fun B as d hK hT hf => ?_) vs H Q E h
  subst hK hT

  obtain ⟨q, cs, rfl, hn, hl, hc, rfl⟩ := hf
  refine ex_seq (ex_setO (eo_lst ea_nil (by decide)) (of_decide_eq_true rfl) ?_)
  refine ex_seq (ex_for (l := cs) (enc := nD) (ev_var rfl) (fun i e2 => ∃ x3, e2 = [some (.val (qD B.K q)), some (.val (nsD cs)), some (.own (.lst (((cs.take i).filterMap (VaidxBase.filterOn q)).map (fD B.K)))), x3, none]) ⟨none, rfl⟩ ?_ ?_ ?_)
  · rintro i e2 ⟨x, rfl⟩
    exact of_decide_eq_true rfl
  · rintro i c e2 hi ⟨x, rfl⟩
    refine ex_ext rfl (ev_ofO (eo_lc (l := q.filters) (enc := fD B.K) (p := fun f => f.col == c) (g := fD B.K) (ev_fld (ev_var rfl) T.cls_Question T.n_Question_filters rfl) (of_decide_eq_true rfl) (by omega) (fun G2 H2 f hm => ?_) (fun G2 H2 f hm _ => ev_var rfl))) rfl ?_ ?_
    · rw [beq_nat, ← dec_eq]
      exact et_test (ev_eqI (ev_fld (ev_var rfl) T.cls_Filter T.n_Filter_column rfl) (ev_var rfl))
    · have l1 := on_len (q := q) (cs.take i)
      have l2 := List.length_filter_le (fun f : VaidxBase.Filter => f.col == c) q.filters
      rw [List.length_take] at l1
      rw [List.length_map, List.length_map]
      omega
    · refine ⟨some (.val (nD c)), ?_⟩
      rw [on_nodup hn, ← List.map_append, ← on_more hi]
      rfl
  · rintro e2 ⟨x, rfl⟩
    refine ex_ret (ev_own rfl) ?_
    show D.lst _ = fsD B.K _
    rw [List.take_length]
    rfl
abbrev N_Question_is_equal_on : List Str := ["self", "column", "each"]
theorem sc_Question_is_equal_on : FnScope N_Question_is_equal_on ["self", "column"] (defScope s_Question_is_equal_on) := ⟨rfl, rfl, rfl, by decide +kernel, rfl, by decide +kernel, by decide +kernel⟩
def f_Question_is_equal_on (K : PySem.W.Frag) : List D → D → Prop := fun as d => ∃ (q : VaidxBase.Question) (c : Nat), as = [qD K q, nD c] ∧ (q.filters.map fun f => f.col).Nodup ∧ q.filters.length ≤ 4 ∧ d = .bl (VaidxBase.equalOn q c)
abbrev sp_Question_is_equal_on (K : PySem.W.Frag) (TT : List NTab) : Sp := SpP K TT (f_Question_is_equal_on K)
theorem len_Question_is_equal_on : ∀ (as : List D) d, f_Question_is_equal_on K as d → as.length = 2 := by
  intro as d h
  obtain ⟨_, _, rfl, _⟩ := h; rfl
theorem ok_Question_is_equal_on (T : Txt K mg) : DefOk P w K mg base CX0 2 ("Question", some "is_equal_on") ["self", "column"] (sp_Question_is_equal_on K TT) := by
  obtain ⟨⟨fd_Filter_is_equal, F_Filter_is_equal, b_Filter_is_equal⟩, kp_Filter_is_equal⟩ := ok_Filter_is_equal (P := P) (w := w) (base := base) (TT := TT) T
  obtain ⟨⟨fd_Question_filters_on, F_Question_filters_on, b_Question_filters_on⟩, kp_Question_filters_on⟩ := ok_Question_filters_on (P := P) (w := w) (base := base) (TT := TT) T
  obtain ⟨fd, F⟩ := T.def_ (i := 22) (d := d_Question_is_equal_on) rfl
  refine ⟨⟨fd, FunD.ok F sc_Question_is_equal_on (sp_lenP (n := 2) len_Question_is_equal_on) (fun cdv A outer s H vs Q E hr h => ?_), F.bindsN fun _ _ _ _ _ _ us hl => match us, hl with | [_, _], _ => rfl⟩, F.kp⟩
  refine ⟨_, PSs.nox (pss_one (ps_ret (pe_callB (cr_any rfl) (by rfl) T.free_any (by decide +kernel) (pa_cons (pe_lc (own := [("each", 2)]) (g := gName 2) (by rfl) sc_Question_is_equal_on.nd (pi_list (pe_meth (pv 0) T.cls_Question T.meth_Question_filters_on F_Question_filters_on (hr.mono (by decide)) b_Question_filters_on .nil pass0 (pa_cons (pe_lst (pa_cons (pv 1) pa_nil)) pa_nil))) (blkOk_by (own := [("each", 2)]) (N := N_Question_is_equal_on) (sc := defScope s_Question_is_equal_on) (by decide +kernel)) (fun _ _ _ _ _ => pg_name (i := 2) sc_Question_is_equal_on.nd rfl (Or.inl rfl)) (fun _ _ _ _ _ => by exact pts_nil) (fun _ _ _ _ _ => by exact (pe_meth0 (pv 2) T.cls_Filter T.meth_Filter_is_equal F_Filter_is_equal (hr.mono (by decide)) b_Filter_is_equal .nil pass0))) pa_nil)))), ?_⟩
  refine body_P 3 rfl (fun as d h => by rw [len_Question_is_equal_on as d h]; decide) (fun B as d hK hT hf => ?_) vs H Q E h
  subst hK hT

  obtain ⟨q, c, rfl, hn, hl, rfl⟩ := hf
  refine ex_ret (ev_eq (ev_any (bs := ([c].filterMap (VaidxBase.filterOn q)).map VaidxBase.isEqual) (ev_eq (ev_ofO (eo_lcM (l := [c].filterMap (VaidxBase.filterOn q)) (enc := fD B.K) (g := fun f => .bl (VaidxBase.isEqual f))
    (ev_meth (f := f_Question_filters_on _) (ev_var rfl) rfl (ea_cons (ev_lst (ea_cons (ev_var rfl) ea_nil) (of_decide_eq_true rfl)) ea_nil) ⟨q, [c], rfl, hn, hl, of_decide_eq_true rfl, rfl⟩) (of_decide_eq_true rfl) ?_ fun G2 H2 f hm => ?_)) ?_)) ?_) rfl
  · have := on_len (q := q) [c]
    simp at this
    omega
  · exact ev_meth (f := f_Filter_is_equal _) (ev_var rfl) rfl ea_nil ⟨f, rfl, rfl⟩
  · show D.lst _ = D.lst _
    rw [List.map_map]; rfl
  · unfold VaidxBase.equalOn
    rw [List.filterMap_cons]
    cases VaidxBase.filterOn q c with
    | none => rfl
    | some f => show D.bl (VaidxBase.isEqual f || false) = _; rw [Bool.or_false]; rfl
abbrev N_Question_without_equal : List Str := ["self", "columns", "column"]
theorem sc_Question_without_equal : FnScope N_Question_without_equal ["self", "columns"] (defScope s_Question_without_equal) := ⟨rfl, rfl, rfl, by decide +kernel, rfl, by decide +kernel, by decide +kernel⟩
def f_Question_without_equal (K : PySem.W.Frag) : List D → D → Prop := fun as d => ∃ (q : VaidxBase.Question) (cs : List Nat), as = [qD K q, nsD cs] ∧ (q.filters.map fun f => f.col).Nodup ∧ q.filters.length ≤ 4 ∧ cs.length ≤ 100 ∧ d = nsD (cs.filter fun c => !VaidxBase.equalOn q c)
abbrev sp_Question_without_equal (K : PySem.W.Frag) (TT : List NTab) : Sp := SpP K TT (f_Question_without_equal K)
theorem len_Question_without_equal : ∀ (as : List D) d, f_Question_without_equal K as d → as.length = 2 := by
  intro as d h
  obtain ⟨_, _, rfl, _⟩ := h; rfl
theorem ok_Question_without_equal (T : Txt K mg) : DefOk P w K mg base CX0 3 ("Question", some "without_equal") ["self", "columns"] (sp_Question_without_equal K TT) := by
  obtain ⟨⟨fd_Question_is_equal_on, F_Question_is_equal_on, b_Question_is_equal_on⟩, kp_Question_is_equal_on⟩ := ok_Question_is_equal_on (P := P) (w := w) (base := base) (TT := TT) T
  obtain ⟨fd, F⟩ := T.def_ (i := 23) (d := d_Question_without_equal) rfl
  refine ⟨⟨fd, FunD.ok F sc_Question_without_equal (sp_lenP (n := 2) len_Question_without_equal) (fun cdv A outer s H vs Q E hr h => ?_), F.bindsN fun _ _ _ _ _ _ us hl => match us, hl with | [_, _], _ => rfl⟩, F.kp⟩
  refine ⟨_, PSs.nox (pss_one (ps_ret (pe_lc (own := [("column", 2)]) (g := gName 2) (by rfl) sc_Question_without_equal.nd (pi_list (pv 1)) (blkOk_by (own := [("column", 2)]) (N := N_Question_without_equal) (sc := defScope s_Question_without_equal) (by decide +kernel)) (fun _ _ _ _ _ => pg_name (i := 2) sc_Question_without_equal.nd rfl (Or.inl rfl)) (fun _ _ _ _ _ => by exact (pts_one (pt_not (pt_val (pe_meth (pv 0) T.cls_Question T.meth_Question_is_equal_on F_Question_is_equal_on (hr.mono (by decide)) b_Question_is_equal_on .nil pass0 (pa_cons (pv 2) pa_nil)))))) (fun _ _ _ _ _ => by exact (pv 2))))), ?_⟩
  refine body_P 3 rfl (fun as d h => by rw [len_Question_without_equal as d h]; decide) (fun B as d hK hT hf => ?_) vs H Q E h
  subst hK hT

  obtain ⟨q, cs, rfl, hn, hl, hc, rfl⟩ := hf
  refine ex_ret (ev_ofO (eo_lc (l := cs) (enc := nD) (p := fun c => !VaidxBase.equalOn q c) (g := nD) (ev_var rfl) (of_decide_eq_true rfl) (by omega) (fun G2 H2 c hm => et_not (et_B ?_)) (fun G2 H2 c hm _ => ev_var rfl))) rfl
  exact ev_meth (f := f_Question_is_equal_on _) (ev_var rfl) rfl (ea_cons (ev_var rfl) ea_nil) ⟨q, c, rfl, hn, hl, rfl⟩
abbrev N_Question_needed_columns : List Str := ["self", "each"]
theorem sc_Question_needed_columns : FnScope N_Question_needed_columns ["self"] (defScope s_Question_needed_columns) := ⟨rfl, rfl, rfl, by decide +kernel, rfl, by decide +kernel, by decide +kernel⟩
def f_Question_needed_columns (K : PySem.W.Frag) : List D → D → Prop := fun as d => ∃ (q : VaidxBase.Question), as = [qD K q] ∧ q.filters.length ≤ 4 ∧ q.order.length ≤ 4 ∧ q.wants.length ≤ 4 ∧ d = nsD (VaidxBase.needed q)
abbrev sp_Question_needed_columns (K : PySem.W.Frag) (TT : List NTab) : Sp := SpP K TT (f_Question_needed_columns K)
theorem len_Question_needed_columns : ∀ (as : List D) d, f_Question_needed_columns K as d → as.length = 1 := by
  intro as d h
  obtain ⟨_, rfl, _⟩ := h; rfl
theorem ok_Question_needed_columns (T : Txt K mg) : DefOk P w K mg base CX0 1 ("Question", some "needed_columns") ["self"] (sp_Question_needed_columns K TT) := by
  obtain ⟨fd, F⟩ := T.def_ (i := 24) (d := d_Question_needed_columns) rfl
  refine ⟨⟨fd, FunD.ok F sc_Question_needed_columns (sp_lenP (n := 1) len_Question_needed_columns) (fun cdv A outer s H vs Q E hr h => ?_), F.bindsN fun _ _ _ _ _ _ us hl => match us, hl with | [_], _ => rfl⟩, F.kp⟩
  refine ⟨_, PSs.nox (pss_one (ps_ret (pe_op op_cat (pe_op op_cat (pe_lc (own := [("each", 1)]) (g := gName 1) (by rfl) sc_Question_needed_columns.nd (pi_list (pe_fld (pv 0) rfl)) (blkOk_by (own := [("each", 1)]) (N := N_Question_needed_columns) (sc := defScope s_Question_needed_columns) (by decide +kernel)) (fun _ _ _ _ _ => pg_name (i := 1) sc_Question_needed_columns.nd rfl (Or.inl rfl)) (fun _ _ _ _ _ => by exact pts_nil) (fun _ _ _ _ _ => by exact (pe_fldB (pv 1) rfl))) (pe_fld (pv 0) rfl)) (pe_fld (pv 0) rfl)))), ?_⟩
  refine body_P 2 rfl (fun as d h => by rw [len_Question_needed_columns as d h]; decide) (fun B as d hK hT hf => ?_) vs H Q E h
  subst hK hT

  obtain ⟨q, rfl, h1, h2, h3, rfl⟩ := hf
  refine ex_ret (ev_eq (ev_ofO (eo_cat (ev_ofO (eo_cat (ev_ofO (eo_lcM (l := q.filters) (enc := fD B.K) (g := fun f => nD f.col) (ev_fld (ev_var rfl) T.cls_Question T.n_Question_filters rfl) (of_decide_eq_true rfl) (by omega) fun G2 H2 f hm => ?_)) (ev_fld (ev_var rfl) T.cls_Question T.n_Question_order rfl) ?_)) (ev_fld (ev_var rfl) T.cls_Question T.n_Question_wanted rfl) ?_)) ?_) rfl
  · exact ev_fld (ev_var rfl) T.cls_Filter T.n_Filter_column rfl
  · simp only [List.length_map]; omega
  · simp only [List.length_append, List.length_map]; omega
  · show D.lst _ = D.lst _
    unfold VaidxBase.needed
    rw [List.map_append, List.map_append, List.map_map, List.append_assoc]
    rfl
abbrev N_Index_own_columns : List Str := ["self"]
theorem sc_Index_own_columns : FnScope N_Index_own_columns ["self"] (defScope s_Index_own_columns) := ⟨rfl, rfl, rfl, by decide +kernel, rfl, by decide +kernel, by decide +kernel⟩
def f_Index_own_columns (K : PySem.W.Frag) : List D → D → Prop := fun as d => ∃ (i : VaidxBase.Index), as = [iD K i] ∧ i.keys.length ≤ 4 ∧ i.others.length ≤ 4 ∧ d = nsD (VaidxBase.columnsOf i)
abbrev sp_Index_own_columns (K : PySem.W.Frag) (TT : List NTab) : Sp := SpP K TT (f_Index_own_columns K)
theorem len_Index_own_columns : ∀ (as : List D) d, f_Index_own_columns K as d → as.length = 1 := by
  intro as d h
  obtain ⟨_, rfl, _⟩ := h; rfl
theorem ok_Index_own_columns (T : Txt K mg) : DefOk P w K mg base CX0 1 ("Index", some "own_columns") ["self"] (sp_Index_own_columns K TT) := by
  obtain ⟨fd, F⟩ := T.def_ (i := 26) (d := d_Index_own_columns) rfl
  refine ⟨⟨fd, FunD.ok F sc_Index_own_columns (sp_lenP (n := 1) len_Index_own_columns) (fun cdv A outer s H vs Q E hr h => ?_), F.bindsN fun _ _ _ _ _ _ us hl => match us, hl with | [_], _ => rfl⟩, F.kp⟩
  refine ⟨_, PSs.nox (pss_one (ps_ret (pe_op op_cat (pe_fld (pv 0) rfl) (pe_fld (pv 0) rfl)))), ?_⟩
  refine body_P 1 rfl (fun as d h => by rw [len_Index_own_columns as d h]; decide) (fun B as d hK hT hf => ?_) vs H Q E h
  subst hK hT

  obtain ⟨i, rfl, h1, h2, rfl⟩ := hf
  refine ex_ret (ev_eq (ev_ofO (eo_cat (ev_fld (ev_var rfl) T.cls_Index T.n_Index_key_columns rfl) (ev_fld (ev_var rfl) T.cls_Index T.n_Index_included rfl) ?_)) ?_) rfl
  · simp only [List.length_map]; omega
  · show D.lst _ = D.lst _
    unfold VaidxBase.columnsOf
    rw [List.map_append]
abbrev N_Index_with_first_keys : List Str := ["self", "key_count"]
theorem sc_Index_with_first_keys : FnScope N_Index_with_first_keys ["self", "key_count"] (defScope s_Index_with_first_keys) := ⟨rfl, rfl, rfl, by decide +kernel, rfl, by decide +kernel, by decide +kernel⟩
def f_Index_with_first_keys (K : PySem.W.Frag) : List D → D → Prop := fun as d => ∃ (i : VaidxBase.Index) (k : Nat), as = [iD K i, nD k] ∧ d = iD K (Vaidxb.shorter i k)
abbrev sp_Index_with_first_keys (K : PySem.W.Frag) (TT : List NTab) : Sp := SpP K TT (f_Index_with_first_keys K)
theorem len_Index_with_first_keys : ∀ (as : List D) d, f_Index_with_first_keys K as d → as.length = 2 := by
  intro as d h
  obtain ⟨_, _, rfl, _⟩ := h; rfl
theorem ok_Index_with_first_keys (T : Txt K mg) : DefOk P w K mg base CX0 3 ("Index", some "with_first_keys") ["self", "key_count"] (sp_Index_with_first_keys K TT) := by
  obtain ⟨⟨fd_Index_init, F_Index_init, b_Index_init⟩, kp_Index_init⟩ := ok_Index_init (P := P) (w := w) (base := base) (TT := TT) T
  obtain ⟨fd, F⟩ := T.def_ (i := 27) (d := d_Index_with_first_keys) rfl
  refine ⟨⟨fd, FunD.ok F sc_Index_with_first_keys (sp_lenP (n := 2) len_Index_with_first_keys) (fun cdv A outer s H vs Q E hr h => ?_), F.bindsN fun _ _ _ _ _ _ us hl => match us, hl with | [_, _], _ => rfl⟩, F.kp⟩
  refine ⟨_, PSs.nox (pss_one (ps_ret (pe_make T.mkr_Index F_Index_init (hr.mono (by decide)) rfl T.glo_Index b_Index_init .nil pass0 (pa_cons (pe_slice sl_list (pe_fld (pv 0) rfl) po_none (po_some (pv 1))) (pa_cons (pe_fld (pv 0) rfl) (pa_cons (pe_fld (pv 0) rfl) pa_nil)))))), ?_⟩
  refine body_P 2 rfl (fun as d h => by rw [len_Index_with_first_keys as d h]; decide) (fun B as d hK hT hf => ?_) vs H Q E h
  subst hK hT

  obtain ⟨i, k, rfl, rfl⟩ := hf
  refine ex_ret (ev_eq (ev_make (f := f_Index_init B.K) (ea_cons (ev_ofO (eo_slice (xs := i.keys.map nD) (ev_fld (ev_var rfl) T.cls_Index T.n_Index_key_columns rfl) ep_no (ep_at (ev_var rfl)))) (ea_cons (ev_fld (ev_var rfl) T.cls_Index T.n_Index_included rfl) (ea_cons (ev_fld (ev_var rfl) T.cls_Index T.n_Index_condition rfl) ea_nil))) ⟨_, _, _, rfl, rfl, rfl, rfl⟩) ?_) rfl
  show D.obj _ _ = D.obj _ _
  rw [cutD_to]
  rfl
abbrev N_Index_holds : List Str := ["self", "group"]
theorem sc_Index_holds : FnScope N_Index_holds ["self", "group"] (defScope s_Index_holds) := ⟨rfl, rfl, rfl, by decide +kernel, rfl, by decide +kernel, by decide +kernel⟩
def f_Index_holds (K : PySem.W.Frag) : List D → D → Prop := fun as d => ∃ (i : VaidxBase.Index) (g : Gr), as = [iD K i, gD K g] ∧ (∀ f, i.only = some f → f.col < g.1.row.length) ∧ d = .bl (VaidxBase.isIn i g.1.row)
abbrev sp_Index_holds (K : PySem.W.Frag) (TT : List NTab) : Sp := SpP K TT (f_Index_holds K)
theorem len_Index_holds : ∀ (as : List D) d, f_Index_holds K as d → as.length = 2 := by
  intro as d h
  obtain ⟨_, _, rfl, _⟩ := h; rfl
theorem ok_Index_holds (T : Txt K mg) : DefOk P w K mg base CX0 2 ("Index", some "holds") ["self", "group"] (sp_Index_holds K TT) := by
  obtain ⟨⟨fd_Filter_passes, F_Filter_passes, b_Filter_passes⟩, kp_Filter_passes⟩ := ok_Filter_passes (P := P) (w := w) (base := base) (TT := TT) T
  obtain ⟨fd, F⟩ := T.def_ (i := 28) (d := d_Index_holds) rfl
  refine ⟨⟨fd, FunD.ok F sc_Index_holds (sp_lenP (n := 2) len_Index_holds) (fun cdv A outer s H vs Q E hr h => ?_), F.bindsN fun _ _ _ _ _ _ us hl => match us, hl with | [_, _], _ => rfl⟩, F.kp⟩
  refine ⟨_, PSs.nox (pss_one (ps_ret (pe_or (pe_cmp (pc_isN (pe_fld (pv 0) rfl))) (pe_one (pe_meth (pe_fld (pv 0) rfl) T.cls_Filter T.meth_Filter_passes F_Filter_passes (hr.mono (by decide)) b_Filter_passes .nil pass0 (pa_cons (pv 1) pa_nil)))))), ?_⟩
  refine body_P 2 rfl (fun as d h => by rw [len_Index_holds as d h]; decide) (fun B as d hK hT hf => ?_) vs H Q E h
  subst hK hT

  obtain ⟨i, g, rfl, hc, rfl⟩ := hf
  cases ho : i.only with
  | none =>
    refine ex_ret (ev_eq (ev_or (a := true) (b := true) (ev_eq (ev_isN (ev_fld (ev_var rfl) T.cls_Index T.n_Index_condition rfl)) (by rw [ho]; rfl)) (fun h => nomatch h)) ?_) rfl
    unfold VaidxBase.isIn
    rw [ho]; rfl
  | some f =>
    refine ex_ret (ev_eq (ev_or (a := false) (b := VaidxBase.passes g.1.row f) (ev_eq (ev_isN (ev_fld (ev_var rfl) T.cls_Index T.n_Index_condition rfl)) (by rw [ho]; rfl)) (fun _ => ?_)) ?_) rfl
    · refine ev_meth (f := f_Filter_passes _) (fs := [("column", nD f.col), ("low", nD f.lo), ("high", nD f.hi)]) (ev_eq (ev_fld (ev_var rfl) T.cls_Index T.n_Index_condition rfl) (by rw [ho]; rfl)) rfl (ea_cons (ev_var rfl) ea_nil) ⟨f, g, rfl, hc f ho, rfl⟩
    · unfold VaidxBase.isIn
      rw [ho]; rfl
end
end One
namespace One
open PySem PySem.Spec PyProof.Rows L2 NdefX Dl
section
variable {P : Program} {w : World} {K : PySem.W.Frag} {mg : Str → Option Value} {base : Heap} {TT : List NTab}
abbrev N_serves : List Str := ["index", "question", "kept", "each"]
theorem sc_serves : FnScope N_serves ["index", "question"] (defScope s_serves) := ⟨rfl, rfl, rfl, by decide +kernel, rfl, by decide +kernel, by decide +kernel⟩
def f_serves (K : PySem.W.Frag) : List D → D → Prop := fun as d => ∃ (i : VaidxBase.Index) (q : VaidxBase.Question), as = [iD K i, qD K q] ∧ (q.filters.map fun f => f.col).Nodup ∧ q.filters.length ≤ 4 ∧ d = .bl (VaidxBase.serves i q)
abbrev sp_serves (K : PySem.W.Frag) (TT : List NTab) : Sp := SpP K TT (f_serves K)
theorem len_serves : ∀ (as : List D) d, f_serves K as d → as.length = 2 := by
  intro as d h
  obtain ⟨_, _, rfl, _⟩ := h; rfl
theorem ok_serves (T : Txt K mg) : DefOk P w K mg base CX0 2 ("serves", none) ["index", "question"] (sp_serves K TT) := by
  obtain ⟨⟨fd_Filter_keeps_to, F_Filter_keeps_to, b_Filter_keeps_to⟩, kp_Filter_keeps_to⟩ := ok_Filter_keeps_to (P := P) (w := w) (base := base) (TT := TT) T
  obtain ⟨⟨fd_Question_filters_on, F_Question_filters_on, b_Question_filters_on⟩, kp_Question_filters_on⟩ := ok_Question_filters_on (P := P) (w := w) (base := base) (TT := TT) T
  obtain ⟨fd, F⟩ := T.def_ (i := 29) (d := d_serves) rfl
  refine ⟨⟨fd, FunD.ok F sc_serves (sp_lenP (n := 2) len_serves) (fun cdv A outer s H vs Q E hr h => ?_), F.bindsN fun _ _ _ _ _ _ us hl => match us, hl with | [_, _], _ => rfl⟩, F.kp⟩
  refine ⟨_, PSs.nox (pss_cons (ps_if (pt_cmp (pc_isN (pe_fld (pv 0) rfl))) (pss_one (ps_ret pe_bl)) pss_nil)
    (pss_cons (ps_set (i := 2) sc_serves.nd rfl (Or.inl rfl) (pe_meth (pv 1) T.cls_Question T.meth_Question_filters_on F_Question_filters_on (hr.mono (by decide)) b_Question_filters_on .nil pass0 (pa_cons (pe_lst (pa_cons (pe_fld (pe_fld (pv 0) rfl) rfl) pa_nil)) pa_nil)))
    (pss_one (ps_ret (pe_callB (cr_any rfl) (by rfl) T.free_any (by decide +kernel) (pa_cons (pe_lc (own := [("each", 3)]) (g := gName 3) (by rfl) sc_serves.nd (pi_list (pv 2)) (blkOk_by (own := [("each", 3)]) (N := N_serves) (sc := defScope s_serves) (by decide +kernel)) (fun _ _ _ _ _ => pg_name (i := 3) sc_serves.nd rfl (Or.inl rfl)) (fun _ _ _ _ _ => by exact pts_nil) (fun _ _ _ _ _ => by exact (pe_meth (pv 3) T.cls_Filter T.meth_Filter_keeps_to F_Filter_keeps_to (hr.mono (by decide)) b_Filter_keeps_to .nil pass0 (pa_cons (pe_fldB (pv 0) rfl) pa_nil)))) pa_nil)))))), ?_⟩
  refine body_P 4 rfl (fun as d h => by rw [len_serves as d h]; decide) (fun B as d hK hT hf => ?_) vs H Q E h
  subst hK hT

  obtain ⟨i, q, rfl, hn, hl, rfl⟩ := hf
  cases ho : i.only with
  | none =>
    refine ex_seq (ex_if (c := true) (et_B (ev_eq (ev_isN (ev_fld (ev_var (i := 0) rfl) T.cls_Index T.n_Index_condition rfl)) (by rw [ho]; rfl))) (fun _ => ?_) (fun h => nomatch h))
    refine ex_ret ev_bl ?_
    show D.bl _ = D.bl _
    unfold VaidxBase.serves
    rw [ho]
  | some f =>
    refine ex_seq (ex_if (c := false) (et_B (ev_eq (ev_isN (ev_fld (ev_var (i := 0) rfl) T.cls_Index T.n_Index_condition rfl)) (by rw [ho]; rfl))) (fun h => nomatch h) (fun _ => ex_next ?_))
    refine ex_seq (ex_set (ev_meth (f := f_Question_filters_on _) (ev_var (i := 1) rfl) rfl (ea_cons (ev_lst (ea_cons (ev_fld (C := He.ga B.K "Filter") (fs := [("column", nD f.col), ("low", nD f.lo), ("high", nD f.hi)]) (ev_eq (ev_fld (ev_var (i := 0) rfl) T.cls_Index T.n_Index_condition rfl) (by rw [ho]; rfl)) T.cls_Filter T.n_Filter_column rfl) ea_nil) (of_decide_eq_true rfl)) ea_nil) ⟨q, [f.col], rfl, hn, hl, (of_decide_eq_true rfl), rfl⟩) (of_decide_eq_true rfl) ?_)
    have l1 := on_len (q := q) [f.col]
    refine ex_ret (ev_eq (ev_any (bs := ([f.col].filterMap (VaidxBase.filterOn q)).map fun g => decide (f.lo ≤ g.lo) && decide (g.hi ≤ f.hi)) (ev_eq (ev_ofO (eo_lcM (l := [f.col].filterMap (VaidxBase.filterOn q)) (enc := fD B.K) (g := fun g => .bl (decide (f.lo ≤ g.lo) && decide (g.hi ≤ f.hi))) (ev_var (i := 2) rfl) (of_decide_eq_true rfl) (by simp at l1; omega) fun G2 H2 g hm => ?_)) ?_)) ?_) rfl
    · exact ev_meth (f := f_Filter_keeps_to _) (fs := [("column", nD g.col), ("low", nD g.lo), ("high", nD g.hi)]) (ev_var (i := 3) rfl) rfl (ea_cons (ev_eq (ev_fld (ev_var (i := 0) rfl) T.cls_Index T.n_Index_condition rfl) (by rw [ho]; rfl)) ea_nil) ⟨g, f, rfl, rfl⟩
    · show D.lst _ = D.lst _
      rw [List.map_map]; rfl
    · show D.bl _ = D.bl _
      unfold VaidxBase.serves
      rw [ho, List.filterMap_cons]
      show _ = D.bl ((VaidxBase.filterOn q f.col).any fun g => decide (f.lo ≤ g.lo) && decide (g.hi ≤ f.hi))
      cases VaidxBase.filterOn q f.col with
      | none => rfl
      | some g => show D.bl (_ || false) = _; rw [Bool.or_false]; rfl
abbrev N_first_lacking : List Str := ["index", "question", "own", "column"]
theorem sc_first_lacking : FnScope N_first_lacking ["index", "question"] (defScope s_first_lacking) := ⟨rfl, rfl, rfl, by decide +kernel, rfl, by decide +kernel, by decide +kernel⟩
def f_first_lacking (K : PySem.W.Frag) : List D → D → Prop := fun as d => ∃ (i : VaidxBase.Index) (q : VaidxBase.Question), as = [iD K i, qD K q] ∧ i.keys.length ≤ 4 ∧ i.others.length ≤ 4 ∧ q.filters.length ≤ 4 ∧ q.order.length ≤ 4 ∧ q.wants.length ≤ 4 ∧ d = .int (Vaidxb.orNone (Vaidxb.lacking i q))
abbrev sp_first_lacking (K : PySem.W.Frag) (TT : List NTab) : Sp := SpP K TT (f_first_lacking K)
theorem len_first_lacking : ∀ (as : List D) d, f_first_lacking K as d → as.length = 2 := by
  intro as d h
  obtain ⟨_, _, rfl, _⟩ := h; rfl
theorem ok_first_lacking (T : Txt K mg) : DefOk P w K mg base CX0 2 ("first_lacking", none) ["index", "question"] (sp_first_lacking K TT) := by
  obtain ⟨⟨fd_Index_own_columns, F_Index_own_columns, b_Index_own_columns⟩, kp_Index_own_columns⟩ := ok_Index_own_columns (P := P) (w := w) (base := base) (TT := TT) T
  obtain ⟨⟨fd_Question_needed_columns, F_Question_needed_columns, b_Question_needed_columns⟩, kp_Question_needed_columns⟩ := ok_Question_needed_columns (P := P) (w := w) (base := base) (TT := TT) T
  obtain ⟨fd, F⟩ := T.def_ (i := 30) (d := d_first_lacking) rfl
  refine ⟨⟨fd, FunD.ok F sc_first_lacking (sp_lenP (n := 2) len_first_lacking) (fun cdv A outer s H vs Q E hr h => ?_), F.bindsN fun _ _ _ _ _ _ us hl => match us, hl with | [_, _], _ => rfl⟩, F.kp⟩
  refine ⟨_, PSs.nox (pss_cons (ps_set (i := 2) sc_first_lacking.nd rfl (Or.inl rfl) (pe_meth0 (pv 0) T.cls_Index T.meth_Index_own_columns F_Index_own_columns (hr.mono (by decide)) b_Index_own_columns .nil pass0))
    (pss_cons (ps_for PassesOwn.never rfl (pi_list (pe_meth0 (pv 1) T.cls_Question T.meth_Question_needed_columns F_Question_needed_columns (hr.mono (by decide)) b_Question_needed_columns .nil pass0)) (pg_name (i := 3) sc_first_lacking.nd rfl (Or.inl rfl))
    (pss_one (ps_if (pt_cmpR op_notIn_seq (pv 3) (pv 2) (by with_unfolding_all rfl)) (pss_one (ps_ret (pv 3))) pss_nil)))
    (pss_one (ps_ret (pe_un un_neg pe_int))))), ?_⟩
  refine body_P 4 rfl (fun as d h => by rw [len_first_lacking as d h]; decide) (fun B as d hK hT hf => ?_) vs H Q E h
  subst hK hT

  obtain ⟨i, q, rfl, h1, h2, h3, h4, h5, rfl⟩ := hf
  refine ex_seq (ex_set (ev_meth (f := f_Index_own_columns _) (ev_var (i := 0) rfl) rfl ea_nil ⟨i, rfl, h1, h2, rfl⟩) (of_decide_eq_true rfl) ?_)
  refine ex_seq (ex_for (l := VaidxBase.needed q) (enc := nD) (ev_meth (f := f_Question_needed_columns _) (ev_var (i := 1) rfl) rfl ea_nil ⟨q, rfl, h3, h4, h5, rfl⟩) (fun n e2 => (∃ x, e2 = [some (.val (iD B.K i)), some (.val (qD B.K q)), some (.val (nsD (VaidxBase.columnsOf i))), x]) ∧ ∀ c ∈ (VaidxBase.needed q).take n, (!(VaidxBase.columnsOf i).contains c) = false) ⟨⟨_, rfl⟩, fun c hc => nomatch hc⟩ ?_ ?_ ?_)
  · rintro n e2 ⟨⟨x, rfl⟩, _⟩
    exact of_decide_eq_true rfl
  · rintro n c e2 hi ⟨⟨x, rfl⟩, hp⟩
    refine ex_if (et_test (ev_inN (neg := true) (c := c) (l := VaidxBase.columnsOf i) (ev_var (i := 3) rfl) (ev_var (i := 2) rfl))) (fun h => ?_) (fun h => ex_next ⟨⟨_, rfl⟩, fun y hy => ?_⟩)
    · refine ex_ret (ev_var (i := 3) rfl) ?_
      show nD c = D.int _
      unfold Vaidxb.lacking
      rw [find_some hi hp h]
      rfl
    · rcases mem_take_more hi hy with z | rfl
      · exact hp y z
      · exact h
  · rintro e2 ⟨⟨x, rfl⟩, hp⟩
    rw [List.take_length] at hp
    refine ex_ret (ev_neg (ev_int (i := 1))) ?_
    show D.int _ = D.int _
    unfold Vaidxb.lacking
    rw [List.find?_eq_none.mpr fun x hx => by rw [hp x hx]; decide]
    rfl
abbrev N_covers : List Str := ["index", "question"]
theorem sc_covers : FnScope N_covers ["index", "question"] (defScope s_covers) := ⟨rfl, rfl, rfl, by decide +kernel, rfl, by decide +kernel, by decide +kernel⟩
def f_covers (K : PySem.W.Frag) : List D → D → Prop := fun as d => ∃ (i : VaidxBase.Index) (q : VaidxBase.Question), as = [iD K i, qD K q] ∧ i.keys.length ≤ 4 ∧ i.others.length ≤ 4 ∧ q.filters.length ≤ 4 ∧ q.order.length ≤ 4 ∧ q.wants.length ≤ 4 ∧ d = .bl (VaidxBase.covers i q)
abbrev sp_covers (K : PySem.W.Frag) (TT : List NTab) : Sp := SpP K TT (f_covers K)
theorem len_covers : ∀ (as : List D) d, f_covers K as d → as.length = 2 := by
  intro as d h
  obtain ⟨_, _, rfl, _⟩ := h; rfl
theorem ok_covers (T : Txt K mg) : DefOk P w K mg base CX0 3 ("covers", none) ["index", "question"] (sp_covers K TT) := by
  obtain ⟨⟨fd_first_lacking, F_first_lacking, b_first_lacking⟩, kp_first_lacking⟩ := ok_first_lacking (P := P) (w := w) (base := base) (TT := TT) T
  obtain ⟨fd, F⟩ := T.def_ (i := 31) (d := d_covers) rfl
  refine ⟨⟨fd, FunD.ok F sc_covers (sp_lenP (n := 2) len_covers) (fun cdv A outer s H vs Q E hr h => ?_), F.bindsN fun _ _ _ _ _ _ us hl => match us, hl with | [_, _], _ => rfl⟩, F.kp⟩
  refine ⟨_, PSs.nox (pss_one (ps_ret (pe_cmpR op_eq (pe_call F_first_lacking (hr.mono (by decide)) rfl T.glo_first_lacking kp_first_lacking b_first_lacking .nil pass0 (pa_cons (pv 0) (pa_cons (pv 1) pa_nil))) (pe_un un_neg pe_int) (nomark _)))), ?_⟩
  refine body_P 2 rfl (fun as d h => by rw [len_covers as d h]; decide) (fun B as d hK hT hf => ?_) vs H Q E h
  subst hK hT

  obtain ⟨i, q, rfl, h1, h2, h3, h4, h5, rfl⟩ := hf
  refine ex_ret (ev_eq (ev_eqI (ev_call (f := f_first_lacking _) (ea_cons (ev_var (i := 0) rfl) (ea_cons (ev_var (i := 1) rfl) ea_nil)) ⟨i, q, rfl, h1, h2, h3, h4, h5, rfl⟩) (ev_neg (ev_int (i := 1)))) ?_) rfl
  rw [orNone_none, covers_eq]
abbrev N_first_out_of_order : List Str := ["index", "question", "keys_left", "place", "column"]
theorem sc_first_out_of_order : FnScope N_first_out_of_order ["index", "question"] (defScope s_first_out_of_order) := ⟨rfl, rfl, rfl, by decide +kernel, rfl, by decide +kernel, by decide +kernel⟩
def f_first_out_of_order (K : PySem.W.Frag) : List D → D → Prop := fun as d => ∃ (i : VaidxBase.Index) (q : VaidxBase.Question), as = [iD K i, qD K q] ∧ i.keys.length ≤ 4 ∧ (q.filters.map fun f => f.col).Nodup ∧ q.filters.length ≤ 4 ∧ q.order.length ≤ 4 ∧ d = .int (Vaidxb.orNone (Vaidxb.unfree i q))
abbrev sp_first_out_of_order (K : PySem.W.Frag) (TT : List NTab) : Sp := SpP K TT (f_first_out_of_order K)
theorem len_first_out_of_order : ∀ (as : List D) d, f_first_out_of_order K as d → as.length = 2 := by
  intro as d h
  obtain ⟨_, _, rfl, _⟩ := h; rfl
theorem ok_first_out_of_order (T : Txt K mg) : DefOk P w K mg base CX0 4 ("first_out_of_order", none) ["index", "question"] (sp_first_out_of_order K TT) := by
  obtain ⟨⟨fd_Question_without_equal, F_Question_without_equal, b_Question_without_equal⟩, kp_Question_without_equal⟩ := ok_Question_without_equal (P := P) (w := w) (base := base) (TT := TT) T
  obtain ⟨fd, F⟩ := T.def_ (i := 32) (d := d_first_out_of_order) rfl
  refine ⟨⟨fd, FunD.ok F sc_first_out_of_order (sp_lenP (n := 2) len_first_out_of_order) (fun cdv A outer s H vs Q E hr h => ?_), F.bindsN fun _ _ _ _ _ _ us hl => match us, hl with | [_, _], _ => rfl⟩, F.kp⟩
  refine ⟨_, PSs.nox (pss_cons (ps_set (i := 2) sc_first_out_of_order.nd rfl (Or.inl rfl) (pe_meth (pv 1) T.cls_Question T.meth_Question_without_equal F_Question_without_equal (hr.mono (by decide)) b_Question_without_equal .nil pass0 (pa_cons (pe_fld (pv 0) rfl) pa_nil)))
    (pss_cons (ps_for PassesOwn.never rfl (pi_enum (by rfl) T.free_enumerate (pa_cons (pe_meth (pv 1) T.cls_Question T.meth_Question_without_equal F_Question_without_equal (hr.mono (by decide)) b_Question_without_equal .nil pass0 (pa_cons (pe_fld (pv 1) rfl) pa_nil)) pa_nil)) (pg_tup rfl (pgs_cons (pg_name (i := 3) sc_first_out_of_order.nd rfl (Or.inl rfl)) (pgs_cons (pg_name (i := 4) sc_first_out_of_order.nd rfl (Or.inl rfl)) pgs_nil)))
    (pss_one (ps_if (PW.pt (pw_or (pt_cmpR op_ge (pv 3) (pe_callB call_len_seq (by rfl) T.free_len PySem.boot_len (pa_cons (pv 2) pa_nil)) (nomark _)) (pw_or1 (pt_cmpR op_ne (pe_ix ix_list (pv 2) (pv 3) (fun _ _ => rfl)) (pv 4) (nomark _))))) (pss_one (ps_ret (pv 4))) pss_nil)))
    (pss_one (ps_ret (pe_un un_neg pe_int))))), ?_⟩
  refine body_P 5 rfl (fun as d h => by rw [len_first_out_of_order as d h]; decide) (fun B as d hK hT hf => ?_) vs H Q E h
  subst hK hT

  obtain ⟨i, q, rfl, h1, hn, h3, h4, rfl⟩ := hf
  refine ex_seq (ex_set (ev_meth (f := f_Question_without_equal _) (ev_var (i := 1) rfl) rfl (ea_cons (ev_fld (ev_var (i := 0) rfl) T.cls_Index T.n_Index_key_columns rfl) ea_nil) ⟨q, i.keys, rfl, hn, h3, by omega, rfl⟩) (of_decide_eq_true rfl) ?_)
  refine ex_seq (ex_enum (l := VaidxBase.orderLeft q) (enc := nD) (ev_meth (f := f_Question_without_equal _) (ev_var (i := 1) rfl) rfl (ea_cons (ev_fld (ev_var (i := 1) rfl) T.cls_Question T.n_Question_order rfl) ea_nil) ⟨q, q.order, rfl, hn, h3, by omega, rfl⟩) (fun n e2 => (∃ x y, e2 = [some (.val (iD B.K i)), some (.val (qD B.K q)), some (.val (nsD (i.keys.filter fun c => !VaidxBase.equalOn q c))), x, y]) ∧ Vaidxb.unfree i q = Vaidxb.firstOff ((VaidxBase.orderLeft q).drop n) ((i.keys.filter fun c => !VaidxBase.equalOn q c).drop n)) ⟨⟨_, _, rfl⟩, rfl⟩ ?_ ?_ ?_)
  · rintro n e2 ⟨⟨x, y, rfl⟩, _⟩
    exact ⟨of_decide_eq_true rfl, of_decide_eq_true rfl⟩
  · rintro n c e2 hi ⟨⟨x, y, rfl⟩, iv⟩
    have fin : (i.keys.filter fun c => !VaidxBase.equalOn q c)[n]? ≠ some c → D.int (c : Int) = D.int (Vaidxb.orNone (Vaidxb.unfree i q)) := fun h => by
      have := off_stop hi h iv
      unfold Vaidxb.unfree
      rw [this]
      rfl
    refine ex_if (c := !decide ((i.keys.filter fun c => !VaidxBase.equalOn q c)[n]? = some c)) (et_eq (et_or (a := decide ((i.keys.filter fun c => !VaidxBase.equalOn q c).length ≤ n)) (b := !decide ((i.keys.filter fun c => !VaidxBase.equalOn q c)[n]? = some c)) (et_eq (et_test (ev_ib (i := (n : Int)) (ev_var (i := 3) rfl) (ev_eq (ev_len (xs := (i.keys.filter fun c => !VaidxBase.equalOn q c).map nD) (ev_var (i := 2) rfl)) (congrArg (fun (n : Nat) => D.int (n : Int)) (List.length_map _))))) (dec_le _ _)) fun hlt => ?_) ?_) (fun h => ?_) (fun h => ex_next ⟨⟨_, _, rfl⟩, ?_⟩)
    · have lt := Nat.lt_of_not_le (of_decide_eq_false hlt)
      have ge := List.getElem?_eq_getElem lt
      refine et_eq (et_test (ev_neI (ev_ix (j := n) (d := nD ((i.keys.filter fun c => !VaidxBase.equalOn q c)[n])) (ev_var (i := 2) rfl) (ev_var (i := 3) rfl) ?_) (ev_var (i := 4) (d := .int (c : Int)) rfl))) ?_
      · rw [List.getElem?_map, ge]; rfl
      · rw [ge, dec_eq]
        congr 1
        exact dec_nn ⟨fun h => congrArg some h, fun h => Option.some.inj h⟩
    · by_cases hlt : (i.keys.filter fun c => !VaidxBase.equalOn q c).length ≤ n
      · rw [decide_eq_true hlt, List.getElem?_eq_none hlt]
        rfl
      · rw [decide_eq_false hlt]
        rfl
    · exact ex_ret (ev_var (i := 4) rfl) (fin (fun z => by rw [z] at h; simp at h))
    · exact off_step hi (by simpa using h) iv
  · rintro e2 ⟨⟨x, y, rfl⟩, iv⟩
    rw [List.drop_length] at iv
    refine ex_ret (ev_neg (ev_int (i := 1))) ?_
    show D.int _ = D.int _
    rw [iv]
    rfl
abbrev N_is_free : List Str := ["index", "question"]
theorem sc_is_free : FnScope N_is_free ["index", "question"] (defScope s_is_free) := ⟨rfl, rfl, rfl, by decide +kernel, rfl, by decide +kernel, by decide +kernel⟩
def f_is_free (K : PySem.W.Frag) : List D → D → Prop := fun as d => ∃ (i : VaidxBase.Index) (q : VaidxBase.Question), as = [iD K i, qD K q] ∧ i.keys.length ≤ 4 ∧ (q.filters.map fun f => f.col).Nodup ∧ q.filters.length ≤ 4 ∧ q.order.length ≤ 4 ∧ d = .bl (VaidxBase.isFree i q)
abbrev sp_is_free (K : PySem.W.Frag) (TT : List NTab) : Sp := SpP K TT (f_is_free K)
theorem len_is_free : ∀ (as : List D) d, f_is_free K as d → as.length = 2 := by
  intro as d h
  obtain ⟨_, _, rfl, _⟩ := h; rfl
theorem ok_is_free (T : Txt K mg) : DefOk P w K mg base CX0 5 ("is_free", none) ["index", "question"] (sp_is_free K TT) := by
  obtain ⟨⟨fd_first_out_of_order, F_first_out_of_order, b_first_out_of_order⟩, kp_first_out_of_order⟩ := ok_first_out_of_order (P := P) (w := w) (base := base) (TT := TT) T
  obtain ⟨fd, F⟩ := T.def_ (i := 33) (d := d_is_free) rfl
  refine ⟨⟨fd, FunD.ok F sc_is_free (sp_lenP (n := 2) len_is_free) (fun cdv A outer s H vs Q E hr h => ?_), F.bindsN fun _ _ _ _ _ _ us hl => match us, hl with | [_, _], _ => rfl⟩, F.kp⟩
  refine ⟨_, PSs.nox (pss_one (ps_ret (pe_cmpR op_eq (pe_call F_first_out_of_order (hr.mono (by decide)) rfl T.glo_first_out_of_order kp_first_out_of_order b_first_out_of_order .nil pass0 (pa_cons (pv 0) (pa_cons (pv 1) pa_nil))) (pe_un un_neg pe_int) (nomark _)))), ?_⟩
  refine body_P 2 rfl (fun as d h => by rw [len_is_free as d h]; decide) (fun B as d hK hT hf => ?_) vs H Q E h
  subst hK hT

  obtain ⟨i, q, rfl, h1, hn, h3, h4, rfl⟩ := hf
  refine ex_ret (ev_eq (ev_eqI (ev_call (f := f_first_out_of_order _) (ea_cons (ev_var (i := 0) rfl) (ea_cons (ev_var (i := 1) rfl) ea_nil)) ⟨i, q, rfl, h1, hn, h3, h4, rfl⟩) (ev_neg (ev_int (i := 1)))) ?_) rfl
  rw [orNone_none]
  unfold Vaidxb.unfree VaidxBase.isFree
  rw [free_eq]
abbrev N_is_free_by_table : List Str := ["question"]
theorem sc_is_free_by_table : FnScope N_is_free_by_table ["question"] (defScope s_is_free_by_table) := ⟨rfl, rfl, rfl, by decide +kernel, rfl, by decide +kernel, by decide +kernel⟩
def f_is_free_by_table (K : PySem.W.Frag) : List D → D → Prop := fun as d => ∃ (q : VaidxBase.Question), as = [qD K q] ∧ (q.filters.map fun f => f.col).Nodup ∧ q.filters.length ≤ 4 ∧ q.order.length ≤ 4 ∧ d = .bl ((VaidxBase.orderLeft q).isEmpty)
abbrev sp_is_free_by_table (K : PySem.W.Frag) (TT : List NTab) : Sp := SpP K TT (f_is_free_by_table K)
theorem len_is_free_by_table : ∀ (as : List D) d, f_is_free_by_table K as d → as.length = 1 := by
  intro as d h
  obtain ⟨_, rfl, _⟩ := h; rfl
theorem ok_is_free_by_table (T : Txt K mg) : DefOk P w K mg base CX0 4 ("is_free_by_table", none) ["question"] (sp_is_free_by_table K TT) := by
  obtain ⟨⟨fd_Question_without_equal, F_Question_without_equal, b_Question_without_equal⟩, kp_Question_without_equal⟩ := ok_Question_without_equal (P := P) (w := w) (base := base) (TT := TT) T
  obtain ⟨fd, F⟩ := T.def_ (i := 34) (d := d_is_free_by_table) rfl
  refine ⟨⟨fd, FunD.ok F sc_is_free_by_table (sp_lenP (n := 1) len_is_free_by_table) (fun cdv A outer s H vs Q E hr h => ?_), F.bindsN fun _ _ _ _ _ _ us hl => match us, hl with | [_], _ => rfl⟩, F.kp⟩
  refine ⟨_, PSs.nox (pss_one (ps_ret (pe_cmpR op_eq (pe_callB call_len_seq (by rfl) T.free_len PySem.boot_len (pa_cons (pe_meth (pv 0) T.cls_Question T.meth_Question_without_equal F_Question_without_equal (hr.mono (by decide)) b_Question_without_equal .nil pass0 (pa_cons (pe_fld (pv 0) rfl) pa_nil)) pa_nil)) pe_int (nomark _)))), ?_⟩
  refine body_P 1 rfl (fun as d h => by rw [len_is_free_by_table as d h]; decide) (fun B as d hK hT hf => ?_) vs H Q E h
  subst hK hT

  obtain ⟨q, rfl, hn, h3, h4, rfl⟩ := hf
  refine ex_ret (ev_eq (ev_eqI (ev_len (xs := (VaidxBase.orderLeft q).map nD) (ev_meth (f := f_Question_without_equal _) (ev_var (i := 0) rfl) rfl (ea_cons (ev_fld (ev_var (i := 0) rfl) T.cls_Question T.n_Question_order rfl) ea_nil) ⟨q, q.order, rfl, hn, h3, by omega, rfl⟩)) (ev_int (i := 0))) ?_) rfl
  rw [List.length_map]
  cases VaidxBase.orderLeft q with
  | nil => rfl
  | cons c l =>
    have : ¬ (((c :: l).length : Nat) : Int) = 0 := by simp only [List.length_cons]; omega
    rw [decide_eq_false this]
    rfl
abbrev N_count_equal_keys : List Str := ["index", "question", "equal_keys", "column"]
theorem sc_count_equal_keys : FnScope N_count_equal_keys ["index", "question"] (defScope s_count_equal_keys) := ⟨rfl, rfl, rfl, by decide +kernel, rfl, by decide +kernel, by decide +kernel⟩
def f_count_equal_keys (K : PySem.W.Frag) : List D → D → Prop := fun as d => ∃ (i : VaidxBase.Index) (q : VaidxBase.Question), as = [iD K i, qD K q] ∧ (q.filters.map fun f => f.col).Nodup ∧ q.filters.length ≤ 4 ∧ d = nD (VaidxBase.equalKeys q i.keys)
abbrev sp_count_equal_keys (K : PySem.W.Frag) (TT : List NTab) : Sp := SpP K TT (f_count_equal_keys K)
theorem len_count_equal_keys : ∀ (as : List D) d, f_count_equal_keys K as d → as.length = 2 := by
  intro as d h
  obtain ⟨_, _, rfl, _⟩ := h; rfl
theorem ok_count_equal_keys (T : Txt K mg) : DefOk P w K mg base CX0 3 ("count_equal_keys", none) ["index", "question"] (sp_count_equal_keys K TT) := by
  obtain ⟨⟨fd_Question_is_equal_on, F_Question_is_equal_on, b_Question_is_equal_on⟩, kp_Question_is_equal_on⟩ := ok_Question_is_equal_on (P := P) (w := w) (base := base) (TT := TT) T
  obtain ⟨fd, F⟩ := T.def_ (i := 35) (d := d_count_equal_keys) rfl
  refine ⟨⟨fd, FunD.ok F sc_count_equal_keys (sp_lenP (n := 2) len_count_equal_keys) (fun cdv A outer s H vs Q E hr h => ?_), F.bindsN fun _ _ _ _ _ _ us hl => match us, hl with | [_, _], _ => rfl⟩, F.kp⟩
  refine ⟨_, PSs.nox (pss_cons (ps_set (i := 2) sc_count_equal_keys.nd rfl (Or.inl rfl) pe_int)
    (pss_cons (ps_for PassesOwn.never rfl (pi_list (pe_fld (pv 0) rfl)) (pg_name (i := 3) sc_count_equal_keys.nd rfl (Or.inl rfl))
    (pss_cons (ps_if (pt_not (pt_val (pe_meth (pv 1) T.cls_Question T.meth_Question_is_equal_on F_Question_is_equal_on (hr.mono (by decide)) b_Question_is_equal_on .nil pass0 (pa_cons (pv 3) pa_nil)))) (pss_one ps_break) pss_nil)
    (pss_one (ps_aug (i := 2) sc_count_equal_keys.nd rfl (Or.inl rfl) pe_int ip_add))))
    (pss_one (ps_ret (pv 2))))), ?_⟩
  refine body_P 4 rfl (fun as d h => by rw [len_count_equal_keys as d h]; decide) (fun B as d hK hT hf => ?_) vs H Q E h
  subst hK hT

  obtain ⟨i, q, rfl, hn, h3, rfl⟩ := hf
  refine ex_seq (ex_set (ev_int (i := 0)) (of_decide_eq_true rfl) ?_)
  refine ex_seq (ex_for (l := i.keys) (enc := nD) (ev_fld (ev_var (i := 0) rfl) T.cls_Index T.n_Index_key_columns rfl) (fun n e2 => (∃ x, e2 = [some (.val (iD B.K i)), some (.val (qD B.K q)), some (.val (.int (n : Int))), x]) ∧ VaidxBase.equalKeys q i.keys = n + VaidxBase.equalKeys q (i.keys.drop n)) ⟨⟨_, rfl⟩, by rw [List.drop_zero, Nat.zero_add]⟩ ?_ ?_ ?_)
  · rintro n e2 ⟨⟨x, rfl⟩, _⟩
    exact of_decide_eq_true rfl
  · rintro n c e2 hi ⟨⟨x, rfl⟩, iv⟩
    rw [drop_some hi, VaidxBase.equalKeys] at iv
    refine ex_seq (ex_if (et_not (et_B (ev_meth (f := f_Question_is_equal_on _) (ev_var (i := 1) rfl) rfl (ea_cons (ev_var (i := 3) (d := nD c) rfl) ea_nil) ⟨q, c, rfl, hn, h3, rfl⟩))) (fun h => ?_) (fun h => ex_next ?_))
    · refine ex_brk (ex_ret (ev_var (i := 2) rfl) ?_)
      have h2 : VaidxBase.equalOn q c = false := by simpa using h
      rw [h2, if_neg (by decide)] at iv
      show D.int _ = D.int _
      rw [iv]
      rfl
    · have h2 : VaidxBase.equalOn q c = true := by simpa using h
      rw [h2, if_pos rfl] at iv
      exact ex_aug (f := fun a b => a + b) (a := (n : Int)) (b := 1) rfl ev_int (of_decide_eq_true rfl) ⟨⟨some (.val (nD c)), rfl⟩, by omega⟩
  · rintro e2 ⟨⟨x, rfl⟩, iv⟩
    rw [List.drop_length, VaidxBase.equalKeys] at iv
    refine ex_ret (ev_var (i := 2) rfl) ?_
    show D.int _ = D.int _
    rw [iv]
    rfl
abbrev N_next_key_filters : List Str := ["index", "question", "equal_keys"]
theorem sc_next_key_filters : FnScope N_next_key_filters ["index", "question"] (defScope s_next_key_filters) := ⟨rfl, rfl, rfl, by decide +kernel, rfl, by decide +kernel, by decide +kernel⟩
def f_next_key_filters (K : PySem.W.Frag) : List D → D → Prop := fun as d => ∃ (i : VaidxBase.Index) (q : VaidxBase.Question), as = [iD K i, qD K q] ∧ (q.filters.map fun f => f.col).Nodup ∧ q.filters.length ≤ 4 ∧ d = fsD K (((i.keys.drop (VaidxBase.equalKeys q i.keys)).take 1).filterMap (VaidxBase.filterOn q))
abbrev sp_next_key_filters (K : PySem.W.Frag) (TT : List NTab) : Sp := SpP K TT (f_next_key_filters K)
theorem len_next_key_filters : ∀ (as : List D) d, f_next_key_filters K as d → as.length = 2 := by
  intro as d h
  obtain ⟨_, _, rfl, _⟩ := h; rfl
theorem ok_next_key_filters (T : Txt K mg) : DefOk P w K mg base CX0 4 ("next_key_filters", none) ["index", "question"] (sp_next_key_filters K TT) := by
  obtain ⟨⟨fd_Question_filters_on, F_Question_filters_on, b_Question_filters_on⟩, kp_Question_filters_on⟩ := ok_Question_filters_on (P := P) (w := w) (base := base) (TT := TT) T
  obtain ⟨⟨fd_count_equal_keys, F_count_equal_keys, b_count_equal_keys⟩, kp_count_equal_keys⟩ := ok_count_equal_keys (P := P) (w := w) (base := base) (TT := TT) T
  obtain ⟨fd, F⟩ := T.def_ (i := 36) (d := d_next_key_filters) rfl
  refine ⟨⟨fd, FunD.ok F sc_next_key_filters (sp_lenP (n := 2) len_next_key_filters) (fun cdv A outer s H vs Q E hr h => ?_), F.bindsN fun _ _ _ _ _ _ us hl => match us, hl with | [_, _], _ => rfl⟩, F.kp⟩
  refine ⟨_, PSs.nox (pss_cons (ps_set (i := 2) sc_next_key_filters.nd rfl (Or.inl rfl) (pe_call F_count_equal_keys (hr.mono (by decide)) rfl T.glo_count_equal_keys kp_count_equal_keys b_count_equal_keys .nil pass0 (pa_cons (pv 0) (pa_cons (pv 1) pa_nil))))
    (pss_one (ps_ret (pe_meth (pv 1) T.cls_Question T.meth_Question_filters_on F_Question_filters_on (hr.mono (by decide)) b_Question_filters_on .nil pass0 (pa_cons (pe_slice sl_list (pe_fld (pv 0) rfl) (po_some (pv 2)) (po_some (pe_op op_add (pv 2) pe_int))) pa_nil))))), ?_⟩
  refine body_P 3 rfl (fun as d h => by rw [len_next_key_filters as d h]; decide) (fun B as d hK hT hf => ?_) vs H Q E h
  subst hK hT

  obtain ⟨i, q, rfl, hn, h3, rfl⟩ := hf
  refine ex_seq (ex_set (ev_call (f := f_count_equal_keys _) (ea_cons (ev_var (i := 0) rfl) (ea_cons (ev_var (i := 1) rfl) ea_nil)) ⟨i, q, rfl, hn, h3, rfl⟩) (of_decide_eq_true rfl) ?_)
  refine ex_ret (ev_meth (f := f_Question_filters_on _) (ev_var (i := 1) rfl) rfl (ea_cons (ev_eq (ev_ofO (eo_slice (xs := i.keys.map nD) (ev_fld (ev_var (i := 0) rfl) T.cls_Index T.n_Index_key_columns rfl) (ep_at (ev_var (i := 2) (d := .int (VaidxBase.equalKeys q i.keys : Nat)) rfl)) (ep_at (ev_ii (ev_var (i := 2) (d := .int (VaidxBase.equalKeys q i.keys : Nat)) rfl) (ev_int (i := 1)))))) (congrArg D.lst (cutD_one i.keys (VaidxBase.equalKeys q i.keys)))) ea_nil) ⟨q, (i.keys.drop (VaidxBase.equalKeys q i.keys)).take 1, rfl, hn, h3, ?_, rfl⟩) rfl
  rw [List.length_take]
  omega
abbrev N_groups_held : List Str := ["table", "index", "group"]
theorem sc_groups_held : FnScope N_groups_held ["table", "index"] (defScope s_groups_held) := ⟨rfl, rfl, rfl, by decide +kernel, rfl, by decide +kernel, by decide +kernel⟩
def f_groups_held (K : PySem.W.Frag) : List D → D → Prop := fun as d => ∃ (t : VaidxBase.Table) (i : VaidxBase.Index) (w : Nat), as = [tD K t, iD K i] ∧ Tw w t ∧ Iw w i ∧ d = gsD K (t.groups.zipIdx.filter fun g => VaidxBase.isIn i g.1.row)
abbrev sp_groups_held (K : PySem.W.Frag) (TT : List NTab) : Sp := SpP K TT (f_groups_held K)
theorem len_groups_held : ∀ (as : List D) d, f_groups_held K as d → as.length = 2 := by
  intro as d h
  obtain ⟨_, _, _, rfl, _⟩ := h; rfl
theorem ok_groups_held (T : Txt K mg) : DefOk P w K mg base CX0 3 ("groups_held", none) ["table", "index"] (sp_groups_held K TT) := by
  obtain ⟨⟨fd_Index_holds, F_Index_holds, b_Index_holds⟩, kp_Index_holds⟩ := ok_Index_holds (P := P) (w := w) (base := base) (TT := TT) T
  obtain ⟨fd, F⟩ := T.def_ (i := 37) (d := d_groups_held) rfl
  refine ⟨⟨fd, FunD.ok F sc_groups_held (sp_lenP (n := 2) len_groups_held) (fun cdv A outer s H vs Q E hr h => ?_), F.bindsN fun _ _ _ _ _ _ us hl => match us, hl with | [_, _], _ => rfl⟩, F.kp⟩
  refine ⟨_, PSs.nox (pss_one (ps_ret (pe_lc (own := [("group", 2)]) (g := gName 2) (by rfl) sc_groups_held.nd (pi_list (pe_fld (pv 0) rfl)) (blkOk_by (own := [("group", 2)]) (N := N_groups_held) (sc := defScope s_groups_held) (by decide +kernel)) (fun _ _ _ _ _ => pg_name (i := 2) sc_groups_held.nd rfl (Or.inl rfl)) (fun _ _ _ _ _ => by exact (pts_one (pt_val (pe_meth (pv 1) T.cls_Index T.meth_Index_holds F_Index_holds (hr.mono (by decide)) b_Index_holds .nil pass0 (pa_cons (pv 2) pa_nil))))) (fun _ _ _ _ _ => by exact (pv 2))))), ?_⟩
  refine body_P 3 rfl (fun as d h => by rw [len_groups_held as d h]; decide) (fun B as d hK hT hf => ?_) vs H Q E h
  subst hK hT

  obtain ⟨t, i, w, rfl, ht, hi, rfl⟩ := hf
  refine ex_ret (ev_ofO (eo_lc (l := t.groups.zipIdx) (enc := gD B.K) (p := fun g => VaidxBase.isIn i g.1.row) (g := gD B.K) (ev_fld (ev_var (i := 0) rfl) T.cls_Table T.n_Table_groups rfl) (of_decide_eq_true rfl) ?_ (fun G2 H2 g hm => et_B ?_) (fun G2 H2 g hm _ => (ev_var (i := 2) rfl)))) rfl
  · rw [List.length_zipIdx]
    have := ht.len
    omega
  · exact ev_meth (f := f_Index_holds _) (ev_var (i := 1) rfl) rfl (ea_cons (ev_var (i := 2) rfl) ea_nil) ⟨i, g, rfl, fun f hf => by rw [(ht.gs g hm).row]; exact (hi.only f hf).col, rfl⟩
abbrev N_groups_in_range : List Str := ["table", "index", "question", "equal_keys", "bounds", "group"]
theorem sc_groups_in_range : FnScope N_groups_in_range ["table", "index", "question"] (defScope s_groups_in_range) := ⟨rfl, rfl, rfl, by decide +kernel, rfl, by decide +kernel, by decide +kernel⟩
def f_groups_in_range (K : PySem.W.Frag) : List D → D → Prop := fun as d => ∃ (t : VaidxBase.Table) (i : VaidxBase.Index) (q : VaidxBase.Question) (w : Nat), as = [tD K t, iD K i, qD K q] ∧ Tw w t ∧ Iw w i ∧ Qw w q ∧ d = gsD K (inRange t i q)
abbrev sp_groups_in_range (K : PySem.W.Frag) (TT : List NTab) : Sp := SpP K TT (f_groups_in_range K)
theorem len_groups_in_range : ∀ (as : List D) d, f_groups_in_range K as d → as.length = 3 := by
  intro as d h
  obtain ⟨_, _, _, _, rfl, _⟩ := h; rfl
theorem ok_groups_in_range (T : Txt K mg) : DefOk P w K mg base CX0 4 ("groups_in_range", none) ["table", "index", "question"] (sp_groups_in_range K TT) := by
  obtain ⟨⟨fd_Question_filters_on, F_Question_filters_on, b_Question_filters_on⟩, kp_Question_filters_on⟩ := ok_Question_filters_on (P := P) (w := w) (base := base) (TT := TT) T
  obtain ⟨⟨fd_count_equal_keys, F_count_equal_keys, b_count_equal_keys⟩, kp_count_equal_keys⟩ := ok_count_equal_keys (P := P) (w := w) (base := base) (TT := TT) T
  obtain ⟨⟨fd_groups_held, F_groups_held, b_groups_held⟩, kp_groups_held⟩ := ok_groups_held (P := P) (w := w) (base := base) (TT := TT) T
  obtain ⟨⟨fd_passes_all, F_passes_all, b_passes_all⟩, kp_passes_all⟩ := ok_passes_all (P := P) (w := w) (base := base) (TT := TT) T
  obtain ⟨fd, F⟩ := T.def_ (i := 38) (d := d_groups_in_range) rfl
  refine ⟨⟨fd, FunD.ok F sc_groups_in_range (sp_lenP (n := 3) len_groups_in_range) (fun cdv A outer s H vs Q E hr h => ?_), F.bindsN fun _ _ _ _ _ _ us hl => match us, hl with | [_, _, _], _ => rfl⟩, F.kp⟩
  refine ⟨_, PSs.nox (pss_cons (ps_set (i := 3) sc_groups_in_range.nd rfl (Or.inl rfl) (pe_call F_count_equal_keys (hr.mono (by decide)) rfl T.glo_count_equal_keys kp_count_equal_keys b_count_equal_keys .nil pass0 (pa_cons (pv 1) (pa_cons (pv 2) pa_nil))))
    (pss_cons (ps_set (i := 4) sc_groups_in_range.nd rfl (Or.inr rfl) (pe_meth (pv 2) T.cls_Question T.meth_Question_filters_on F_Question_filters_on (hr.mono (by decide)) b_Question_filters_on .nil pass0 (pa_cons (pe_slice sl_list (pe_fld (pv 1) rfl) po_none (po_some (pe_op op_add (pv 3) pe_int))) pa_nil)))
    (pss_one (ps_ret (pe_lc (own := [("group", 5)]) (g := gName 5) (by rfl) sc_groups_in_range.nd (pi_list (pe_call F_groups_held (hr.mono (by decide)) rfl T.glo_groups_held kp_groups_held b_groups_held .nil pass0 (pa_cons (pv 0) (pa_cons (pv 1) pa_nil)))) (blkOk_by (own := [("group", 5)]) (N := N_groups_in_range) (sc := defScope s_groups_in_range) (by decide +kernel)) (fun _ _ _ _ _ => pg_name (i := 5) sc_groups_in_range.nd rfl (Or.inl rfl)) (fun _ _ _ _ _ => by exact (pts_one (pt_val (pe_call F_passes_all (hr.mono (by decide)) rfl T.glo_passes_all kp_passes_all b_passes_all .nil pass0 (pa_cons (pv 4) (pa_cons (pv 5) pa_nil)))))) (fun _ _ _ _ _ => by exact (pv 5))))))), ?_⟩
  refine body_P 6 rfl (fun as d h => by rw [len_groups_in_range as d h]; decide) (fun B as d hK hT hf => ?_) vs H Q E h
  subst hK hT

  obtain ⟨t, i, q, w, rfl, ht, hi, hq, rfl⟩ := hf
  have kl := hi.kl
  refine ex_seq (ex_set (ev_call (f := f_count_equal_keys _) (ea_cons (ev_var (i := 1) rfl) (ea_cons (ev_var (i := 2) rfl) ea_nil)) ⟨i, q, rfl, hq.nd, hq.fl, rfl⟩) (of_decide_eq_true rfl) ?_)
  refine ex_seq (ex_set (ev_meth (f := f_Question_filters_on _) (ev_var (i := 2) rfl) rfl (ea_cons (ev_eq (ev_ofO (eo_slice (xs := i.keys.map nD) (ev_fld (ev_var (i := 1) rfl) T.cls_Index T.n_Index_key_columns rfl) ep_no (ep_at (ev_ii (ev_var (i := 3) (d := .int (VaidxBase.equalKeys q i.keys : Nat)) rfl) (ev_int (i := 1)))))) (congrArg D.lst (cutD_to i.keys (VaidxBase.equalKeys q i.keys + 1)))) ea_nil) ⟨q, i.keys.take (VaidxBase.equalKeys q i.keys + 1), rfl, hq.nd, hq.fl, by rw [List.length_take]; omega, rfl⟩) (of_decide_eq_true rfl) ?_)
  refine ex_ret (ev_ofO (eo_lc (l := t.groups.zipIdx.filter fun g => VaidxBase.isIn i g.1.row) (enc := gD B.K) (p := fun g => (VaidxBase.rangeFilters i q).all (VaidxBase.passes g.1.row)) (g := gD B.K) (ev_call (f := f_groups_held _) (ea_cons (ev_var (i := 0) rfl) (ea_cons (ev_var (i := 1) rfl) ea_nil)) ⟨t, i, w, rfl, ht, hi, rfl⟩) (of_decide_eq_true rfl) ?_ (fun G2 H2 g hm => et_B ?_) (fun G2 H2 g hm _ => (ev_var (i := 5) rfl)))) rfl
  · have := List.length_filter_le (fun g : Gr => VaidxBase.isIn i g.1.row) t.groups.zipIdx
    rw [List.length_zipIdx] at this
    have := ht.len
    omega
  · refine ev_call (f := f_passes_all _) (ea_cons (ev_var (i := 4) rfl) (ea_cons (ev_var (i := 5) rfl) ea_nil)) ⟨VaidxBase.rangeFilters i q, g, rfl, fun f hf => ?_, ?_, rfl⟩
    · rw [(ht.gs g (List.mem_filter.mp hm).1).row]
      obtain ⟨c, _, hc⟩ := List.mem_filterMap.mp hf
      exact (hq.fs f (List.mem_of_find?_eq_some hc)).col
    · have l1 := on_len (q := q) (i.keys.take (VaidxBase.equalKeys q i.keys + 1))
      rw [List.length_take] at l1
      show (List.filterMap _ _).length ≤ 1000
      omega
end
end One
namespace One
open PySem PySem.Spec PyProof.Rows L2 NdefX Dl
open VaidxBase (Group Table Filter Index)
/-! ### ways, steps, shares: what the program reckons with -/
/-- a way -/
structure Wy where
  q : VaidxBase.Question
  gs : List Gr
  free : Bool
  cost : Nat
  look : Option (List Filter)
structure Ww (w : Nat) (y : Wy) : Prop where
  q : Qw w y.q
  gs : ∀ g ∈ y.gs, Gw w g
  gl : y.gs.length ≤ 12
  ct : y.cost ≤ 10
  look : ∀ l, y.look = some l → (∀ f ∈ l, Fw w f) ∧ l.length ≤ 10
def Wy.looks (y : Wy) (r : List Nat) : Bool := match y.look with
  | none => false
  | some l => l.all (VaidxBase.passes r)
def Wy.finds (y : Wy) (r : List Nat) : Bool := VaidxBase.found y.q r
def Wy.stop (y : Wy) : Nat := if y.free then y.q.limit else 0
def lkD (K : PySem.W.Frag) : Option (List Filter) → D
  | none => .non
  | some l => fsD K l
def wD (K : PySem.W.Frag) (y : Wy) : D := .obj (He.ga K "Way") [("question", qD K y.q), ("groups", gsD K y.gs), ("free", .bl y.free), ("touch_cost", nD y.cost), ("look_up_filters", lkD K y.look)]
/-- a step -/
structure Sp1 where
  g : Gr
  touched : Nat
  looked : Nat
  found : Nat
def sD (K : PySem.W.Frag) (s : Sp1) : D := .obj (He.ga K "Step") [("group", gD K s.g), ("touched", nD s.touched), ("looked_up", nD s.looked), ("found", nD s.found)]
def ssD (K : PySem.W.Frag) (l : List Sp1) : D := .lst (l.map (sD K))
def Wy.take (y : Wy) (g : Gr) (m : Nat) : Nat := if (decide (0 < y.stop) && y.finds g.1.row) = true then min g.1.count m else g.1.count
def Wy.left (y : Wy) (g : Gr) (m : Nat) : Nat := if (decide (0 < y.stop) && y.finds g.1.row) = true then m - y.take g m else m
def Wy.step (y : Wy) (g : Gr) (m : Nat) : Sp1 := ⟨g, y.take g m, if y.looks g.1.row = true then y.take g m else 0, if y.finds g.1.row = true then y.take g m else 0⟩
def Wy.steps (y : Wy) : List Gr → Nat → List Sp1
  | [], _ => []
  | g :: l, m => y.step g m :: (if (decide (0 < y.stop) && decide (y.left g m = 0)) = true then [] else Wy.steps y l (y.left g m))
def tot : List Nat → Nat
  | [] => 0
  | x :: l => x + tot l
theorem sum_tot {α : Type} (f : α → Nat) : ∀ l : List α, (l.map fun a => (f a : Int)).sum = (tot (l.map f) : Nat)
  | [] => rfl
  | a :: l => by
    rw [List.map_cons, List.sum_cons, sum_tot f l, List.map_cons, tot]
    omega
theorem steps_len (y : Wy) : ∀ (l : List Gr) (m : Nat), (y.steps l m).length ≤ l.length
  | [], m => Nat.le_refl _
  | g :: l, m => by
    rw [Wy.steps, List.length_cons, List.length_cons]
    have := steps_len y l (y.left g m)
    split
    · simp
    · omega
/-- work -/
structure Wk where
  touched : Nat
  looked : Nat
  sorted : Nat
  cost : Nat
def kD (K : PySem.W.Frag) (k : Wk) : D := .obj (He.ga K "Work") [("touched", nD k.touched), ("looked_up", nD k.looked), ("put_in_order", nD k.sorted), ("cost", nD k.cost)]
def Wy.sum (y : Wy) (l : List Sp1) : Wk :=
  ⟨tot (l.map Sp1.touched), tot (l.map Sp1.looked), if y.free = true then 0 else tot (l.map Sp1.found), y.cost * tot (l.map Sp1.touched) + 4 * tot (l.map Sp1.looked) + 3 * (if y.free = true then 0 else tot (l.map Sp1.found))⟩
def Wy.work (y : Wy) : Wk := y.sum (y.steps y.gs y.stop)
/-- a share -/
def hD (K : PySem.W.Frag) (s : Gr × Nat) : D := .obj (He.ga K "Share") [("group", gD K s.1), ("size", nD s.2)]
def hsD (K : PySem.W.Frag) (l : List (Gr × Nat)) : D := .lst (l.map (hD K))
def shares : List Sp1 → Nat → List (Gr × Nat)
  | [], _ => []
  | s :: l, n => if 0 < min s.found n then (s.g, min s.found n) :: shares l (n - min s.found n) else shares l n
theorem shares_len : ∀ (l : List Sp1) (n : Nat), (shares l n).length ≤ l.length
  | [], n => Nat.le_refl _
  | s :: l, n => by
    rw [shares, List.length_cons]
    split
    · rw [List.length_cons]; have := shares_len l (n - min s.found n); omega
    · have := shares_len l n; omega
def limitOf (l : List Sp1) (n : Nat) : Nat := if 0 < n then n else tot (l.map Sp1.found)
/-- a run -/
structure Rn where
  touched : Nat
  looked : Nat
  hits : List Gr
def Wy.run (y : Wy) : List Gr → Rn → Rn
  | [], r => r
  | g :: l, r =>
    if y.finds g.1.row = true then
      (if (decide (0 < y.stop) && decide (r.hits.length + 1 = y.stop)) = true then ⟨r.touched + 1, if y.looks g.1.row = true then r.looked + 1 else r.looked, r.hits ++ [g]⟩
       else Wy.run y l ⟨r.touched + 1, if y.looks g.1.row = true then r.looked + 1 else r.looked, r.hits ++ [g]⟩)
    else Wy.run y l ⟨r.touched + 1, if y.looks g.1.row = true then r.looked + 1 else r.looked, r.hits⟩
def rnD (K : PySem.W.Frag) (y : Wy) (r : Rn) : D := .obj (He.ga K "Run") [("touched", nD r.touched), ("looked_up", nD r.looked), ("put_in_order", nD (if y.free = true then 0 else r.hits.length)), ("found_groups", gsD K r.hits)]
def each (l : List Gr) : List Gr := l.flatMap fun g => List.replicate g.1.count g
theorem each_len : ∀ l : List Gr, (each l).length = VaidxBase.rowsOf (l.map (·.1))
  | [] => rfl
  | g :: l => by
    have ih := each_len l
    unfold each at ih ⊢
    rw [List.flatMap_cons, List.length_append, List.length_replicate, ih, List.map_cons, rowsOf_cons]
theorem each_mem {l : List Gr} {g : Gr} (h : g ∈ each l) : g ∈ l := by
  obtain ⟨x, hx, hg⟩ := List.mem_flatMap.mp h
  rw [List.eq_of_mem_replicate hg]
  exact hx
theorem rep_flat {α : Type} (x : α) : ∀ n : Nat, (List.replicate n [x]).flatten = List.replicate n x
  | 0 => rfl
  | n + 1 => by rw [List.replicate_succ, List.flatten_cons, rep_flat x n, List.replicate_succ]; rfl
theorem rows_app (l m : List Gr) : VaidxBase.rowsOf ((l ++ m).map (·.1)) = VaidxBase.rowsOf (l.map (·.1)) + VaidxBase.rowsOf (m.map (·.1)) := by
  induction l with
  | nil => simp [VaidxBase.rowsOf]
  | cons g l ih => rw [List.cons_append, List.map_cons, List.map_cons, rowsOf_cons, rowsOf_cons, ih]; omega
theorem if_int {b : Bool} {x y : Nat} {d1 d2 : Dl.D} (h1 : d1 = nD x) (h2 : d2 = nD y) : (if b = true then d1 else d2) = nD (if b = true then x else y) := by
  subst h1 h2
  cases b <;> rfl
theorem dec_gt0 (n : Nat) : decide ((n : Int) > 0) = decide (0 < n) := dec_nn (by omega)
theorem min_nat (a b : Nat) : (if ((b : Nat) : Int) < (a : Nat) then ((b : Nat) : Int) else (a : Nat)) = ((min a b : Nat) : Int) := by
  split <;> omega
end One
namespace Dl
open PySem PySem.Spec PyProof.Rows L2 NdefX
section
variable {B : Bs} {e e1 e2 : En} {P : Bh}
theorem ex_mid {t u : TS} (M : En) (h : Ex B t e { P with nx := fun e' => e' = M }) (q : Ex B u M P) : Ex B (tSeq t u) e P :=
  ex_seq (ex_mono h (fun e' (z : e' = M) => by subst z; exact q) (fun _ _ z => z) (fun _ z => z))
theorem ex_cut {t u : TS} (R : En → Prop) (h : Ex B t e { P with nx := R }) (q : ∀ e', R e' → Ex B u e' P) : Ex B (tSeq t u) e P := ex_seq (ex_mono h q (fun _ _ z => z) (fun _ z => z))
theorem ex_augE {te : TE} {i : Nat} {f : Int → Int → Int} {a b : Int} {d : D} (hi : e[i]? = some (some (.val (.int a)))) (h : Ev B te e (.int b) e1) (hj : i < e1.length) (hd : D.int (f a b) = d) (q : P.nx (e1.set i (some (.val d)))) : Ex B (tAug i te (ipI f)) e P := by
  subst hd
  exact ex_aug hi h hj q
end
end Dl
namespace Dl
open PySem PySem.Spec PyProof.Rows L2 NdefX
section
variable {B : Bs} {e e1 e2 : En} {P : Bh}
/-- it raises -/
def EvE (B : Bs) (te : TE) (e : En) : Prop := ∀ (σ : L2.St) (H : Hp) (vs : List V) (ds : List D) (Q : VK), Sta B σ H e vs ds → te σ H Q
theorem evE_x {te : TE} {n : Int} (h : EvX B te e (.error n) e1) : EvE B te e := fun σ H vs ds Q s => h σ H vs ds Q s fun v H' d z _ => nomatch z
theorem ev_x {te : TE} {d : D} (h : EvX B te e (.ok d) e1) : Ev B te e d e1 := fun σ H vs ds Q s k => h σ H vs ds Q s fun v H' d' z s' => by cases z; exact k v H' s'
theorem evE_op {r : R2} {ta tb : TE} (h : EvE B ta e) : EvE B (tOp r ta tb) e := fun σ H vs ds Q s => h σ H vs ds _ s
theorem exE_set {te : TE} {g : TG} (h : EvE B te e) : Ex B (tAsg te g) e P := fun σ H vs ds D' s _ _ _ => h σ H vs ds _ s
theorem exE_drop {te : TE} (h : EvE B te e) : Ex B (tDrop te) e P := fun σ H vs ds D' s _ _ _ => h σ H vs ds _ s
theorem exE_ret {te : TE} (h : EvE B te e) : Ex B (tRet te) e P := fun σ H vs ds D' s _ _ _ => h σ H vs ds _ s
theorem exE_if {te : TE} {t u : TS} (h : EvE B te e) : Ex B (tIfS (tTest te) t u) e P := fun σ H vs ds D' s _ _ _ => h σ H vs ds _ s
theorem exE_app {te : TE} {i : Nat} {xs : List D} (h0 : e[i]? = some (some (.own (.lst xs)))) (h : EvE B te e) : Ex B (tDrop (tBM B.K "list" rAppend (tVar i) (tCons te tNil))) e P := fun σ H vs ds D' ⟨G0, s0⟩ _ _ _ => by
  obtain ⟨p, ws, ep, hp, _, _⟩ := own_lst s0 h0
  exact ⟨.ref p, ep, ty_lst hp, h σ H vs ds _ ⟨G0, s0⟩⟩
/-- arguments of which one raises -/
def EaE (B : Bs) (ta : TA) (e : En) : Prop := ∀ (σ : L2.St) (H : Hp) (vs : List V) (ds : List D) (Q : List V → Hp → Prop), Sta B σ H e vs ds → ta σ H Q
theorem eaE_at {te : TE} {tr : TA} (h : EvE B te e) : EaE B (tCons te tr) e := fun σ H vs ds Q s => h σ H vs ds _ s
theorem eaE_cons {te : TE} {tr : TA} {d : D} (h : Ev B te e d e1) (hr : EaE B tr e1) : EaE B (tCons te tr) e := fun σ H vs ds Q s => h σ H vs ds _ s fun v H1 s1 => hr σ H1 _ _ _ s1
theorem evE_make {C : Addr} {sp : Sp} {E : XK} {ta : TA} (h : EaE B ta e) : EvE B (tMake C sp [] E ta) e := fun σ H vs ds Q s => h σ H vs ds _ s
end
end Dl
namespace One
open PySem PySem.Spec PyProof.Rows L2 NdefX Dl
open VaidxBase (Group Table Filter Index)
/-! ### reading a list of numbers from a place on; none: it isn't whole -/
abbrev Md (α : Type) := List Int → Nat → Option α × Nat
def bnd {α β : Type} (m : Md α) (k : α → Md β) : Md β := fun l p => match m l p with
  | (none, q) => (none, q)
  | (some a, q) => k a l q
def ret {α : Type} (a : α) : Md α := fun _ p => (some a, p)
def fail {α : Type} : Md α := fun _ p => (none, p)
theorem bnd_none {α β : Type} {m : Md α} {k : α → Md β} {l : List Int} {p q : Nat} (h : m l p = (none, q)) : bnd m k l p = (none, q) := by unfold bnd; rw [h]
theorem bnd_some {α β : Type} {m : Md α} {k : α → Md β} {l : List Int} {p q : Nat} {a : α} (h : m l p = (some a, q)) : bnd m k l p = k a l q := by unfold bnd; rw [h]
def tkM (lo hi : Nat) : Md Nat := fun l p => match l[p]? with
  | none => (none, p)
  | some z => if (lo : Int) ≤ z ∧ z ≤ (hi : Int) then (some z.toNat, p + 1) else (none, p)
def rep {α : Type} (f : Nat → α → Md α) : Nat → Nat → α → Md α
  | 0, _, a => ret a
  | n + 1, i, a => bnd (f i a) (rep f n (i + 1))
def finM : Md Unit := fun l p => if p < l.length then (none, p) else (some (), p)
def colStep (w : Nat) (_ : Nat) (cs : List Nat) : Md (List Nat) := bnd (tkM 0 (w - 1)) fun c => ret (cs ++ [c])
def colEnd (cs : List Nat) : Md (List Nat) := if cs.Nodup then ret cs else fail
def rCols (w least : Nat) : Md (List Nat) := bnd (tkM least w) fun n => bnd (rep (colStep w) n 0 []) colEnd
def rFilter (w : Nat) : Md Filter := bnd (tkM 0 (w - 1)) fun c => bnd (tkM 0 9) fun lo => bnd (tkM lo 9) fun hi => ret ⟨c, lo, hi⟩
def filStep (w : Nat) (_ : Nat) (fs : List Filter) : Md (List Filter) := bnd (rFilter w) fun f => ret (fs ++ [f])
def filEnd (fs : List Filter) : Md (List Filter) := if (fs.map fun f => f.col).Nodup then ret fs else fail
def rFilters (w : Nat) : Md (List Filter) := bnd (tkM 0 w) fun n => bnd (rep (filStep w) n 0 []) filEnd
def rQuestion (w : Nat) : Md VaidxBase.Question := bnd (rFilters w) fun fs => bnd (rCols w 0) fun order => bnd (tkM 0 1) fun b => bnd (rCols w 0) fun wants => bnd (tkM 0 1000000) fun lim => bnd (tkM 0 1000) fun asked => bnd finM fun _ => ret ⟨fs, order, b == 1, wants, lim, asked⟩
def rOnly (w : Nat) : Md (Option Filter) := bnd (tkM 0 1) fun b => if b = 1 then bnd (rFilter w) fun f => ret (some f) else ret none
def rIndex (w : Nat) : Md Index := bnd (rCols w 1) fun ks => bnd (rCols w 0) fun inc => if (ks ++ inc).Nodup then bnd (rOnly w) fun only => bnd finM fun _ => ret ⟨ks, inc, only⟩ else fail
def cellStep (_ : Nat) (cs : List Nat) : Md (List Nat) := bnd (tkM 0 9) fun c => ret (cs ++ [c])
def grpEnd (gs : List Group) (cells : List Nat) : Md (List Group) := if cells ∈ gs.map (fun g => g.row) then fail else bnd (tkM 1 1000000) fun c => ret (gs ++ [⟨cells, c⟩])
def grpStep (w : Nat) (_ : Nat) (gs : List Group) : Md (List Group) := bnd (rep cellStep w 0 []) (grpEnd gs)
def tabEnd (w : Nat) (gs : List Group) : Md Table := bnd finM fun _ => ret ⟨w, gs⟩
def rTable : Md Table := bnd (tkM 1 4) fun w => bnd (tkM 0 12) fun n => bnd (rep (grpStep w) n 0 []) (tabEnd w)
theorem tkM_le {lo hi : Nat} {l : List Int} {p q z : Nat} (h : tkM lo hi l p = (some z, q)) : lo ≤ z ∧ z ≤ hi ∧ q = p + 1 := by
  unfold tkM at h
  split at h
  · cases h
  · split at h
    · cases h
      rename_i c
      exact ⟨by omega, by omega, rfl⟩
    · cases h
theorem cols_rep {w : Nat} (hw : 1 ≤ w) {l : List Int} : ∀ {n i : Nat} {cs ds : List Nat} {p q : Nat}, rep (colStep w) n i cs l p = (some ds, q) → (∀ c ∈ cs, c < w) → ds.length = cs.length + n ∧ ∀ c ∈ ds, c < w
  | 0, i, cs, ds, p, q, h, hc => by
    cases (Prod.mk.inj h).1
    exact ⟨rfl, hc⟩
  | n + 1, i, cs, ds, p, q, h, hc => by
    rcases z : tkM 0 (w - 1) l p with ⟨_ | c, r⟩
    · have : rep (colStep w) (n + 1) i cs l p = (none, r) := bnd_none (bnd_none z)
      rw [this] at h; cases h
    · have e : rep (colStep w) (n + 1) i cs l p = rep (colStep w) n (i + 1) (cs ++ [c]) l r := bnd_some (bnd_some z)
      rw [e] at h
      have le := tkM_le z
      obtain ⟨h1, h2⟩ := cols_rep hw h (fun x hx => by
        rcases List.mem_append.mp hx with y | y
        · exact hc x y
        · rw [List.mem_singleton.mp y]; omega)
      rw [List.length_append, List.length_singleton] at h1
      exact ⟨by omega, h2⟩
theorem cols_ok {w least : Nat} (hw : 1 ≤ w) {l : List Int} {p q : Nat} {cs : List Nat} (h : rCols w least l p = (some cs, q)) : least ≤ cs.length ∧ cs.length ≤ w ∧ (∀ c ∈ cs, c < w) ∧ cs.Nodup := by
  unfold rCols at h
  rcases z : tkM least w l p with ⟨_ | n, r⟩
  · rw [bnd_none z] at h; cases h
  · rw [bnd_some z] at h
    have le := tkM_le z
    rcases z2 : rep (colStep w) n 0 [] l r with ⟨_ | ds, r2⟩
    · rw [bnd_none z2] at h; cases h
    · rw [bnd_some z2] at h
      obtain ⟨h1, h2⟩ := cols_rep hw z2 (fun _ hx => nomatch hx)
      unfold colEnd at h
      split at h
      · rename_i nd
        cases (Prod.mk.inj h).1
        rw [List.length_nil] at h1
        exact ⟨by omega, by omega, h2, nd⟩
      · cases (Prod.mk.inj h).1
theorem bnd_step {α β : Type} {m : Md α} {k : α → Md β} {m2 : Md α} {l : List Int} {p q : Nat} (h : m l p = m2 l q) : bnd m k l p = bnd m2 k l q := by unfold bnd; rw [h]
theorem rep_more {α : Type} {f : Nat → α → Md α} {n i : Nat} {a : α} (h : i < n) : rep f (n - i) i a = bnd (f i a) (rep f (n - (i + 1)) (i + 1)) := by
  have e : n - i = (n - (i + 1)) + 1 := by omega
  rw [e]; rfl
theorem nodup_int : ∀ cs : List Nat, (cs.map fun (n : Nat) => (n : Int)).Nodup ↔ cs.Nodup
  | [] => ⟨fun _ => List.nodup_nil, fun _ => List.nodup_nil⟩
  | c :: cs => by
    rw [List.map_cons, List.nodup_cons, List.nodup_cons, nodup_int cs, List.mem_map]
    refine and_congr_left fun _ => not_congr ⟨fun ⟨x, hx, e⟩ => ?_, fun h => ⟨c, h, rfl⟩⟩
    have : x = c := by omega
    rw [← this]; exact hx
/-! ### a reader -/
def rdF (l : List Int) (p : Nat) : List (Str × D) := [("numbers", .lst (l.map D.int)), ("place", .int (p : Int))]
def resR {α : Type} (enc : α → D) : Option α → Res
  | none => .error (-1)
  | some a => .ok (enc a)
/-- what a def that reads comes to -/
def relM {α : Type} (m : Md α) (enc : α → D) (fs : List (Str × D)) (r : Res) (fs' : List (Str × D)) : Prop := ∃ l p, fs = rdF l p ∧ r = resR enc (m l p).1 ∧ fs' = rdF l (m l p).2
section
variable {B : Bs} {e e1 e2 : En} {P : Bh} {α : Type} {m : Md α} {enc : α → D} {l : List Int} {p : Nat}
/-- a reader's method, a def over a reader: the two ends -/
structure Mx (B : Bs) (te : TE) (e : En) (j : Nat) (t : Ent) (C CR : Addr) (E : XK) (enc : α → D) (r : Option α × Nat) (fs : Nat → List (Str × D)) (e1 : En) : Prop where
  no : ∀ q, r = (none, q) → Xo B CR E (-1) (e1.set j (some (t.put C (fs q)))) → EvE B te e
  ok : ∀ a q, r = (some a, q) → Ev B te e (enc a) (e1.set j (some (t.put C (fs q))))
theorem mx_meth {sp : Sp} {CR C : Addr} {f : List (Str × D) → List D → Res → List (Str × D) → Prop} {E : XK} {ta : TA} {nm : Str} {j : Nat} {t : Ent} {as : List D} (h : EvA B ta e as e1) (h0 : e[j]? = some (some t)) (hj : e1[j]? = some (some t))
    (q : t.ob = some (C, rdF l p)) (hm : (rdF l p).lookup nm = none) (hf : f (rdF l p) as (resR enc (m l p).1) (rdF l (m l p).2)) (hs : sp = SpB B.K B.T CR C f := by rfl) : Mx B (tMeth C nm sp [] E (tVar j) ta) e j t C CR E enc (m l p) (rdF l) e1 where
  no := fun z er x => by
    rw [er] at hf
    exact evE_x (n := -1) (ev_methB h h0 hj q hm hf (fun n en => by cases en; exact x) hs)
  ok := fun a z er => by
    rw [er] at hf
    exact ev_ok (ev_methB h h0 hj q hm hf (fun n en => nomatch en) hs)
theorem mx_call {sp : Sp} {CR C : Addr} {f : List (Str × D) → List D → Res → List (Str × D) → Prop} {E : XK} {ta : TA} {j : Nat} {t : Ent} {as : List D} (h : EvA B ta e as e1) (h0 : e[j]? = some (some t)) (hj : e1[j]? = some (some t))
    (q : t.ob = some (C, rdF l p)) (hf : f (rdF l p) as (resR enc (m l p).1) (rdF l (m l p).2)) (hs : sp = SpB B.K B.T CR C f := by rfl) : Mx B (tCall sp [] E (tCons (tVar j) ta)) e j t C CR E enc (m l p) (rdF l) e1 where
  no := fun z er x => by
    rw [er] at hf
    exact evE_x (n := -1) (ev_callB h h0 hj q hf (fun n en => by cases en; exact x) hs)
  ok := fun a z er => by
    rw [er] at hf
    exact ev_ok (ev_callB h h0 hj q hf (fun n en => nomatch en) hs)
theorem ev_nat (n : Nat) {i : Int} (h : i = (n : Int)) : Ev B (tC (.int i)) e (nD n) e := ev_eq ev_int (congrArg D.int h)
theorem ex_thaw {i : Nat} {o : Own} {t : TS} (h : e[i]? = some (some (.own o))) (q : Ex B t (e.set i (some (.val o.d))) P) : Ex B t e P := fun σ H vs ds D' ⟨G, s⟩ n r b => by
  obtain ⟨G', v, s', _⟩ := s.know h
  exact q σ H vs ds D' ⟨G', s'.pop.1⟩ n r b
/-- .. into a slot -/
theorem ex_setM {te : TE} {j i : Nat} {t : Ent} {C CR : Addr} {E : XK} {r : Option α × Nat} {fs : Nat → List (Str × D)} (x : Mx B te e j t C CR E enc r fs e1) (hi : i < e1.length)
    (hE : ∀ q, r = (none, q) → Xo B CR E (-1) (e1.set j (some (t.put C (fs q))))) (hN : ∀ a q, r = (some a, q) → P.nx ((e1.set j (some (t.put C (fs q)))).set i (some (.val (enc a))))) : Ex B (tAsg te (gName i)) e P := by
  obtain ⟨o, q⟩ := r
  cases o with
  | none => exact exE_set (x.no q rfl (hE q rfl))
  | some a => exact ex_set (x.ok a q rfl) (by rw [List.length_set]; exact hi) (hN a q rfl)
theorem ex_dropM {te : TE} {j : Nat} {t : Ent} {C CR : Addr} {E : XK} {r : Option α × Nat} {fs : Nat → List (Str × D)} (x : Mx B te e j t C CR E enc r fs e1)
    (hE : ∀ q, r = (none, q) → Xo B CR E (-1) (e1.set j (some (t.put C (fs q))))) (hN : ∀ a q, r = (some a, q) → P.nx (e1.set j (some (t.put C (fs q))))) : Ex B (tDrop te) e P := by
  obtain ⟨o, q⟩ := r
  cases o with
  | none => exact exE_drop (x.no q rfl (hE q rfl))
  | some a => exact ex_drop (x.ok a q rfl) (hN a q rfl)
theorem ex_appM {te : TE} {j i : Nat} {t : Ent} {C CR : Addr} {E : XK} {r : Option α × Nat} {fs : Nat → List (Str × D)} {xs : List D} (x : Mx B te e j t C CR E enc r fs e1) (h0 : e[i]? = some (some (.own (.lst xs)))) (h1 : ∀ q, (e1.set j (some (t.put C (fs q))))[i]? = some (some (.own (.lst xs)))) (hl : xs.length < 1000000)
    (hE : ∀ q, r = (none, q) → Xo B CR E (-1) (e1.set j (some (t.put C (fs q))))) (hN : ∀ a q, r = (some a, q) → P.nx ((e1.set j (some (t.put C (fs q)))).set i (some (.own (.lst (xs ++ [enc a])))))) : Ex B (tDrop (tBM B.K "list" rAppend (tVar i) (tCons te tNil))) e P := by
  obtain ⟨o, q⟩ := r
  cases o with
  | none => exact exE_app h0 (x.no q rfl (hE q rfl))
  | some a => exact ex_app h0 (evx_ok (x.ok a q rfl)) (h1 q) hl fun d z => by cases z; exact hN a q rfl
end
end One
namespace One
open PySem PySem.Spec PyProof.Rows L2 NdefX Dl
abbrev intsOf (l : List Nat) : List Int := l.map fun (n : Nat) => (n : Int)
abbrev rowsI (gs : List VaidxBase.Group) : List (List Int) := gs.map fun g => intsOf g.row
theorem rows_eq (gs : List VaidxBase.Group) : D.lst (gs.zipIdx.map fun g => nsD g.1.row) = D.lst ((rowsI gs).map fun ns => D.lst (ns.map D.int)) := by
  congr 1
  rw [List.map_map]
  apply List.ext_getElem
  · rw [List.length_map, List.length_map, List.length_zipIdx]
  · intro i h1 h2
    rw [List.getElem_map, List.getElem_map, List.getElem_zipIdx]
    unfold nsD
    rw [map_nD]
    rfl
theorem rows_mem (cs : List Nat) (gs : List VaidxBase.Group) : D.bl (decide (intsOf cs ∈ rowsI gs)) = D.bl (decide (cs ∈ gs.map fun g => g.row)) := by
  congr 1
  refine dec_nn ?_
  have inj : ∀ a b : List Nat, (a.map fun (n : Nat) => (n : Int)) = (b.map fun (n : Nat) => (n : Int)) → a = b := by
    intro a
    induction a with
    | nil => intro b h; cases b with | nil => rfl | cons _ _ => cases h
    | cons x a ih =>
      intro b h
      cases b with
      | nil => cases h
      | cons y b =>
        rw [List.map_cons, List.map_cons] at h
        obtain ⟨h1, h2⟩ := List.cons.inj h
        rw [ih b h2, show x = y by omega]
  constructor
  · intro h
    obtain ⟨g, hg, e⟩ := List.mem_map.mp h
    exact List.mem_map.mpr ⟨g, hg, inj _ _ e⟩
  · intro h
    obtain ⟨g, hg, e⟩ := List.mem_map.mp h
    exact List.mem_map.mpr ⟨g, hg, by rw [e]⟩
end One
namespace Lm
open PySem PySem.Spec PyProof.Rows L2 NdefX LamX
/-! ### a lambda is made -/
section
variable {X : Cx} {pins : List (Addr × Obj)} {σ : L2.St} {H : Hp} {s : Shared}
/-- what is known of a lambda just made: the object, its code; nothing that was tracked is gone -/
structure Made (X : Cx) (pins : List (Addr × Obj)) (σ : L2.St) (T : List (Addr × Str)) (H H1 : Hp) (s1 : Shared) (f cc : Addr) (F : NF) (body : Expr) : Prop where
  inv : Inv X pins σ H1 s1
  ext : ExtN H H1
  was : ∀ b, H1 b = none → H b = none
  tab : Tabs T H1
  obj : ∃ pm ctv, s1.heap.get? f = some (PySem.W.kla_obj F.name F.qual F.params body F.scope F.cl pm cc ctv)
  fp : FpOk X pins H1 f
  code : H1 cc = some (CodeO cc F.qual)
abbrev lamF (X : Cx) (params : Arguments) (scope : Scope) (cc : Addr) : NF := ⟨"<lambda>", X.env.qual ++ "<lambda>", params, [], scope, cloFrom X.env.cells scope.names [], cc⟩
theorem lam_mk {T : List (Addr × Str)} {c P : Addr} {params : Arguments} {body : Expr} {scope : Scope} {pos : Pos} {E : Value → Shared → Prop} {Q : Value → Shared → Prop} (I : Inv X pins σ H s) (B : TabB X.base X.mg c P) (hc0 : X.env.code = .ref c)
    (mem : (P, X.env.qual ++ "<lambda>") ∈ T) (one : ∀ p ∈ T, p.1 = P → p.2 = X.env.qual ++ "<lambda>") (tabs : Tabs T H) (nodef : defaultsOf params X.env = ([], [])) (free : ∀ y ∈ scope.names, y.2 = .free → ∃ c, X.env.cells.lookup y.1 = some c)
    (k : ∀ f cc H1 s1, Made X pins σ T H H1 s1 f cc (lamF X params scope cc) body → Q (.ref f) s1) :
    wpAny (model X.prog X.w) X.A (eval (.Lambda params body scope pos) X.env) Q E s := by
  obtain ⟨tb, atP, tri, among⟩ := tabs _ mem
  have blt := B.bm.keeps I.bk
  have heapP : s.heap.get? P = some { cls := .none, data := .fields tb } := I.hok P _ atP
  apply PySem.W.kla_eval nodef
  rcases found : codeAmong pos tb.toList with _ | cv
  · refine PySem.W.kla_makeFunction (clos := cloFrom X.env.cells scope.names []) (closure_ok free) I.ok.glob (I.mod.glob.keeps I.bk) hc0 (B.code.keeps I.bk) heapP tri found B.gP blt fun cc ctv g tk ext ge lt rec_ tbl => ?_
    obtain ⟨c2, oc, fv, t0, q, eoc, ed, ev⟩ := rec_
    obtain rfl := Value.ref.inj q
    have hn : H cc = none := I.hok.fresh ge
    have le : s.heap.objs.size ≤ g.objs.size := Nat.le_of_lt (Nat.lt_of_le_of_lt ge lt)
    have J := inv_table (t' := tk) (more := #[rawInt pos.line, rawInt pos.col, .ref cc]) (h' := g.push (PySem.W.kla_obj "<lambda>" (X.env.qual ++ "<lambda>") params body scope (cloFrom X.env.cells scope.names []) ((X.mg "__name__").getD .none) cc ctv)) I atP
      (fun b o nb eb => Heap.get?_push_of_some _ (ext b o nb eb)) (Heap.get?_push_of_some _ tbl) ge ⟨oc, fv, t0, Heap.get?_push_of_some _ eoc, ed, ev⟩
    have kept : ExtN H (upd (upd H P (.tbl (tb ++ #[rawInt pos.line, rawInt pos.col, .ref cc]))) cc (CodeO cc (X.env.qual ++ "<lambda>"))) := fun b o eb nt => by
      have n1 := ne_of_none eb hn
      have n2 : b ≠ P := fun z => nt tb (Option.some.inj (eb.symm.trans (z ▸ atP)))
      rw [upd_ne n1, upd_ne n2, eb]
    have tail : (tb ++ #[rawInt pos.line, rawInt pos.col, .ref cc]).toList = tb.toList ++ [rawInt pos.line, rawInt pos.col, .ref cc] := by simp
    have nf : upd (upd H P (.tbl (tb ++ #[rawInt pos.line, rawInt pos.col, .ref cc]))) cc (CodeO cc (X.env.qual ++ "<lambda>")) g.objs.size = none := by
      rw [upd_ne (Nat.ne_of_gt lt), upd_ne (Nat.ne_of_gt (Nat.lt_of_lt_of_le (Heap.lt_size heapP) le))]
      exact I.hok.fresh le
    refine k _ cc _ _ ⟨J, kept, fun b eb => upd_none (upd_none eb), fun p hp => ?_, ⟨_, ctv, Heap.get?_push_size _ rfl⟩, I.fpOk le nf, upd_same⟩
    rcases Classical.em (p.1 = P) with hb | hb
    · refine (one p hp hb).symm ▸ hb.symm ▸ ⟨_, (upd_ne (ne_of_none atP hn)).trans upd_same, tail.symm ▸ PySem.TriplesOk_snoc _ _ _ _ tri, fun p2 v2 e2 => ?_⟩
      rcases among_app _ tri (tail ▸ e2) with z | z
      · obtain ⟨a0, z1, z2⟩ := among p2 v2 z
        exact ⟨a0, z1, kept _ _ z2 codeO_ne⟩
      · exact ⟨cc, z, upd_same⟩
    · obtain ⟨tb2, a1, a2, a3⟩ := tabs p hp
      refine ⟨tb2, ((upd_ne (ne_of_none a1 hn)).trans (upd_ne hb)).trans a1, a2, fun p2 v2 e2 => ?_⟩
      obtain ⟨a0, z1, z2⟩ := a3 p2 v2 e2
      exact ⟨a0, z1, kept _ _ z2 codeO_ne⟩
  · obtain ⟨cc, q, old⟩ := among pos cv found
    subst q
    refine PySem.W.kla_makeFunctionHit (clos := cloFrom X.env.cells scope.names []) (closure_ok free) I.ok.glob (I.mod.glob.keeps I.bk) hc0 (B.code.keeps I.bk) heapP tri found blt fun ctv g tk ext le => ?_
    exact k _ cc H _ ⟨I.kept fun b o eb => Heap.get?_push_of_some _ (ext b o eb), ExtN.refl H, fun _ z => z, tabs, ⟨_, ctv, Heap.get?_push_size _ rfl⟩, I.fpOk le (I.hok.fresh le), old⟩
end
/-! ### a lambda is called -/
theorem lam_run {P : Program} {w : World} {K : PySem.W.Frag} {mg : Str → Option Value} {base : Heap} {N ps fr : List Str} {F : NF} {f : Addr} {pm ctv : Value} {body : Expr} {k : Nat} {te : TE} {A : Around} {outer : List Env} {s : Shared} {H : Hp}
    {us : List Value} {vs : List V} {ws : List (Option V)} {Q : VK} {E : XK} (S : NScope N ps fr F.scope) (hr : Room (k + 1) A) (e0 : Env0 P w K mg base A outer s H) (ho : s.heap.get? f = some (PySem.W.kla_obj F.name F.qual F.params body F.scope F.cl pm F.c ctv))
    (hc : H F.c = some (CodeO F.c F.qual)) (hb : bindArgs (PySem.W.kla_fn F.name F.qual F.params body F.scope F.cl pm (.ref F.c) ctv) ⟨us, []⟩ = pure (ps.zip us)) (C : CellsAt F.cl fr ws s.heap H) (r : Vals vs us) (hl : vs.length = ps.length)
    (he : Room k (A.deeper (envF F f s.heap.objs.size)) → PE (ncx CX0 P w K mg base N F f A outer s H E) body te) (hq : te (startF N vs ws) H Q) : codeAny (model P w) A (.call (.ref f) ⟨us, []⟩) (CR CX0 outer P w H s Q E) s := by
  have lim : s.heap.NoLimit := e0.mod.nolimit.keeps fun b o z => (e0.bs b o z).1
  refine PySem.W.kla_callFunE hr.depth ho rfl S.co S.gen rfl (codeO_at e0.hok hc) (hb.symm ▸ wpAny_pure (wpAny_newFunctionEnv S.nocell (fun ⟨n, _⟩ hy => S.par n (List.of_mem_zip hy).1) (fun g hns hsb => ⟨lim.fresh _ hsb, ?_⟩) S.kind))
  show codeAny _ _ (.expr body (envF F f s.heap.objs.size)) _ _
  have J : Inv (ncx CX0 P w K mg base N F f A outer s H E) [] (startF N vs ws) H { s with heap := g, toks := s.toks + (ps.zip us).length } :=
    inv_startN S hr.hd e0 hl r C hns fun b o z => hsb.extBut b o (Nat.ne_of_lt (Heap.lt_size z)) (Heap.get?_push_of_some _ z)
  refine PySem.W.kla_codeExpr (wpAny_mono ((he (hr.deeper _)).run [] _ (startF N vs ws) H Q J hq) (fun u s' z => ?_) fun e s' z => z)
  obtain ⟨v, H', J', rv, q⟩ := z
  exact ⟨v, H', J'.os, J'.bare, J'.base, J'.hok, rv, q⟩
/-! ### sorted by keys that are lists of whole numbers -/
open Dl in
/-- the sorted values: by their keys, those alike as they lay -/
noncomputable def sortOut (b : Bool) (ks : List (List Int)) (xs : List V) : List V := ((xs.zip ks).mergeSort (PySem.W.dataLe b fun z => pdI z.2)).map (·.1)
section
variable {X : Cx} {pins : List (Addr × Obj)} {σ : L2.St} {H : Hp} {s : Shared}
/-- two objects of ours that are not tracked may be anything -/
theorem touch {h' : Heap} {t' : Nat} {a b : Addr} (I : Inv X pins σ H s) (k : ∀ c o, c ≠ a → c ≠ b → s.heap.get? c = some o → h'.get? c = some o) (fa : FpOk X pins H a) (fb : FpOk X pins H b) : Inv X pins σ H { s with heap := h', toks := t' } := by
  obtain ⟨na, la, _, a1, a2, a3⟩ := fa
  obtain ⟨nb, lb, _, b1, b2, b3⟩ := fb
  have ne : ∀ {c : Addr}, c ∉ [a, b] → c ≠ a ∧ c ≠ b := fun {c} z => ⟨fun e => z (by rw [e]; simp), fun e => z (by rw [e]; simp)⟩
  have nt : ∀ {c : Addr} {u : HO}, H c = some u → c ≠ a ∧ c ≠ b := fun {c u} e => ⟨(fun z => by rw [z, na] at e; cases e), (fun z => by rw [z, nb] at e; cases e)⟩
  refine I.step (g' := s.gens) (d' := s.drawn) (ch := [a, b]) (fun c hc => ?_) (fun c o _ _ z e _ => k c o (ne z).1 (ne z).2 e) (fun c o _ _ z e _ => ⟨o.slots, k c o (ne z).1 (ne z).2 e⟩) (fun _ _ _ _ n => n) (fun c o z e => ⟨o, k c o (ne z).1 (ne z).2 e⟩)
    (fun _ _ e => e) (fun _ _ _ e => e) (fun _ ps e => ⟨#[], by rw [e]; simp⟩) (fun m hm => ?_) (fun c u e => ?_) I.bare
  · rcases List.mem_cons.mp hc with rfl | hc
    · exact ⟨a1, la, a2, a3⟩
    · rw [List.mem_singleton.mp hc]
      exact ⟨b1, lb, b2, b3⟩
  · obtain ⟨o, es, ep, ho, r⟩ := hm
    exact ⟨o, es, ep, k _ o la.symm lb.symm ho, r⟩
  · refine (I.hok c u e).stay (fun d v hd q => ?_) (fun d q => q) fun d _ q => q
    have nd : d ≠ a ∧ d ≠ b := hd.elim (fun z => z ▸ nt e) fun z => nt z
    exact k d v nd.1 nd.2 q
theorem keys_read (I : Inv X pins σ H s) : ∀ {kv : List V} {us : List Value} {ds : List PyData}, DpAll X.K H kv ds → Vals kv us → PySem.W.EachIs (fun v d => ∃ as, Reads s.heap v d as) us ds
  | _, _, _, .nil, .nil => .nil
  | _, _, _, .cons hd tl, .cons r rs => .cons (Dp.reads I _ _ _ hd r) (keys_read I tl rs)
theorem zip_rel : ∀ {xs : List V} {us : List Value} (ks : List (List Int)), Vals xs us → ks.length = xs.length → PySem.W.EachIs (fun u (z : V × List Int) => RelV z.1 u) us (xs.zip ks)
  | _, _, [], .nil, _ => .nil
  | _, _, k :: ks, .nil, h => by cases h
  | _, _, [], .cons r rs, h => by cases h
  | _, _, k :: ks, .cons r rs, h => .cons r (zip_rel ks rs (by simpa using h))
theorem rel_vals : ∀ {us : List Value} {l : List (V × List Int)}, PySem.W.EachIs (fun u (z : V × List Int) => RelV z.1 u) us l → Vals (l.map (·.1)) us
  | _, _, .nil => .nil
  | _, _, .cons r rs => .cons r (rel_vals rs)
theorem vals_snoc {x : V} {u : Value} (hx : RelV x u) : ∀ {xs : List V} {us : List Value}, Vals xs us → Vals (xs ++ [x]) (us ++ [u])
  | _, _, .nil => .cons hx .nil
  | _, _, .cons r rs => .cons r (vals_snoc hx rs)
theorem alike_keys (ks : List (List Int)) : PySem.W.AllAlike (ks.map Dl.pdI) := PySem.W.AllAlike.of fun a b => by
  unfold Dl.pdI
  simp only [PySem.W.alike]
  exact PySem.W.alike_ints a b
theorem sortOut_len {b : Bool} {ks : List (List Int)} {xs : List V} (h : ks.length = xs.length) : (sortOut b ks xs).length = xs.length := by
  unfold sortOut
  rw [List.length_map, (List.mergeSort_perm _ _).length_eq, List.length_zip, h, Nat.min_self]
/-- sorted(xs, key=f, ..), f's calls told by turn; J i kv: behind i calls the keys are kv -/
theorem sorted_inv {a f : Addr} {fo : Obj} {xs : List V} {ks : List (List Int)} {b : Bool} {kw : List (Str × Value)} {J : Nat → List V → Hp → Prop} {Q : VK} (hu : X.A.units + 10 < cLine) (I : Inv X pins σ H s) (hs : SqL X.K H a xs) (hz : xs.length ≤ 1000)
    (hf : s.heap.get? f = some fo) (ff : FpOk X pins H f) (fd : ∀ v, fo.data ≠ .cell v) (ha1 : ∀ x, argsOk "sorted" ⟨[x], kw⟩) (ha2 : ∀ x, argsOk "list.sort" ⟨[x], kw⟩) (ht : ∀ x, Builtin.«list.sort» ⟨[.ref x], kw⟩ = ksk_tree x (.ref f) b)
    (lk : ks.length = xs.length) (j0 : J 0 [] H)
    (turn : ∀ (pl : List (Addr × Obj)) (i : Nat) (x : V) (u : Value) (kv : List V) (s' : Shared) (H' : Hp), Inv X (pins ++ pl) σ H' s' → s'.heap.get? f = some fo → xs[i]? = some x → RelV x u → J i kv H' →
      wpAny (model X.prog X.w) X.A.in1.in1 (call (.ref f) [u]) (EP X (pins ++ pl) σ fun y H'' => J (i + 1) (kv ++ [y]) H'') (fun _ _ => False) s')
    (kd : ∀ kv H', J xs.length kv H' → DpAll X.K H' kv (ks.map Dl.pdI)) (hq : ∀ kv H' p, J xs.length kv H' → H' p = none → Q (.ref p) (upd H' p (.lst (sortOut b ks xs)))) :
    wpAny (model X.prog X.w) X.A (call (.builtin "sorted") [.ref a] kw) (EP X pins σ Q) X.xe s := by
  obtain ⟨its, rv, pl, _⟩ := I.list hs
  have li : its.length = xs.length := rv.length.symm
  have big : (1000 : Nat) ≤ sizeLine := by decide
  obtain ⟨hp, g0, d0, t0, os0⟩ := s
  refine PySem.W.sorted_of_sort (vs := its) pl.isList (by omega) (ha1 _) (fun x => ha2 _) fun E' => ?_
  rw [ht]
  have fD : FpOk X pins H (hp.objs.size + 1) := I.fpOk (Nat.le_succ _) (I.hok.fresh (Nat.le_succ _))
  have hD := PySem.W.copyHeap_at hp its
  have ltD : hp.objs.size + 1 < (PySem.W.copyHeap hp its).objs.size := Heap.lt_size hD
  obtain ⟨e1, hD1⟩ : ∃ e1, ((PySem.W.copyHeap hp its).update (hp.objs.size + 1) (Obj.mapSeq fun _ => #[])).get? (hp.objs.size + 1) = some (seqObj "list" #[] e1) := ⟨_, get?_update_seq hD fun _ => #[]⟩
  unfold ksk_tree
  refine wpAny_bind (listItems_at hD rfl (wpAny_bind (listUpdate_at hD rfl (wpAny_bind (seqEpoch_at hD1 rfl (wpAny_bind (wpAny_newTuple (wpAny_bind (wpAny_newList (wpAny_holding ?_) (Nat.zero_le _))) (by show its.length ≤ _; omega))))) (by rw [List.size_toArray]; omega) (Nat.zero_le _))))
  have ek : (((PySem.W.copyHeap hp its).update (hp.objs.size + 1) (Obj.mapSeq fun _ => #[])).push (seqObj "tuple" its.toArray 0)).objs.size = (PySem.W.copyHeap hp its).objs.size + 1 := by rw [size_push', Heap.size_update]
  have old : ∀ c o, hp.get? c = some o → (PySem.W.sortingHeap (PySem.W.copyHeap hp its) (hp.objs.size + 1) its).get? c = some o := fun c o e => PySem.W.sortingHeap_old (Nat.ne_of_lt (Nat.lt_succ_of_lt (Heap.lt_size e))) (PySem.W.copyHeap_old e)
  generalize hk : (((PySem.W.copyHeap hp its).update (hp.objs.size + 1) (Obj.mapSeq fun _ => #[])).push (seqObj "tuple" its.toArray 0)).objs.size = kS at ek ⊢
  have geK : hp.objs.size ≤ kS := by omega
  have fK : FpOk X pins H kS := I.fpOk geK (I.hok.fresh geK)
  have neK : kS ≠ hp.objs.size + 1 := by omega
  have hK : (PySem.W.sortingHeap (PySem.W.copyHeap hp its) (hp.objs.size + 1) its).get? kS = some (seqObj "list" #[] 0) := by rw [← hk]; exact Heap.get?_push_size _ rfl
  have hD2 : (PySem.W.sortingHeap (PySem.W.copyHeap hp its) (hp.objs.size + 1) its).get? (hp.objs.size + 1) = some (seqObj "list" #[] e1) := Heap.get?_push_of_some _ (Heap.get?_push_of_some _ hD1)
  have I0 : Inv X pins σ H ⟨PySem.W.sortingHeap (PySem.W.copyHeap hp its) (hp.objs.size + 1) its, g0, d0, t0, os0⟩ := I.kept old
  unfold ksk_rest
  refine wpAny_bind (wpAny_rule ?_)
  rw [List.forIn_toArray]
  refine wpAny_bind (ksk_fold (fun i s' => ∃ (kA : Array Value) (e : Nat) (kv : List V) (H' : Hp), Inv X pins σ H' s' ∧ s'.heap.get? kS = some (seqObj "list" kA e) ∧ s'.heap.get? (hp.objs.size + 1) = some (seqObj "list" #[] e1) ∧ s'.heap.get? f = some fo ∧ Vals kv kA.toList ∧ kv.length = i ∧ J i kv H' ∧
      H' (hp.objs.size + 1) = none ∧ H' kS = none ∧ H' f = none) its 0 _ ⟨#[], 0, [], H, I0, hK, hD2, old _ _ hf, .nil, rfl, j0, fD.1, fK.1, ff.1⟩ ?_ ?_)
  · rintro j u s' hj ⟨kA, e, kv, H', I', nk, nD, nf, rk, lkv, hJ, zD, zK, zf⟩
    rw [Nat.zero_add] at hJ lkv ⊢
    obtain ⟨x, hx⟩ : ∃ x, xs[j]? = some x := ⟨_, List.getElem?_eq_getElem (by rw [← li]; exact (List.getElem?_eq_some_iff.mp hj).1)⟩
    obtain ⟨u2, hu2, rx⟩ := rv.get hx
    rw [hj] at hu2
    obtain rfl := Option.some.inj hu2
    have jlt : j < 1000 := by have := (List.getElem?_eq_some_iff.mp hx).1; omega
    have kz : kA.size = j := by rw [← Array.length_toList, ← rk.length]; exact lkv
    have dat : ∀ (kA : Array Value) e v, (seqObj "list" kA e).data ≠ .cell v := fun _ _ _ z => nomatch z
    have I2 : Inv X (pins ++ [(hp.objs.size + 1, seqObj "list" #[] e1), (kS, seqObj "list" kA e), (f, fo)]) σ H' s' := I'.pins_of fun p hp' => (List.mem_append.mp hp').elim (fun z => I'.pin p (List.mem_append_right _ z)) fun z => by
      rcases List.mem_cons.mp z with rfl | z
      · exact ⟨nD, zD, fD.2.1, fD.2.2.1, dat _ _⟩
      · rcases List.mem_cons.mp z with rfl | z
        · exact ⟨nk, zK, fK.2.1, fK.2.2.1, dat _ _⟩
        · obtain rfl := List.mem_singleton.mp z
          exact ⟨nf, zf, ff.2.1, ff.2.2.1, fd⟩
    refine wpAny_bind (wpAny_attempt (wpAny_mono (turn _ j x u kv s' H' I2 nf hx rx hJ) (fun v s2 he => ?_) fun _ _ z => z.elim))
    obtain ⟨y, H2, I3, ry, hJ2⟩ := he
    obtain ⟨pD, zD2, _⟩ := I3.pin (hp.objs.size + 1, seqObj "list" #[] e1) (by simp)
    obtain ⟨pK, zK2, _⟩ := I3.pin (kS, seqObj "list" kA e) (by simp)
    obtain ⟨pF, zF2, _⟩ := I3.pin (f, fo) (by simp)
    have I4 := I3.unpinned
    have sb := Heap.SameBut.update s2.heap kS (Obj.mapSeq (·.push v))
    obtain ⟨c2, hc2⟩ : ∃ c2, (s2.heap.update kS (Obj.mapSeq (·.push v))).get? kS = some (seqObj "list" (kA.push v) c2) := ⟨_, get?_update_seq pK (·.push v)⟩
    have nfk : f ≠ kS := fun z => by
      rw [z, pK] at pF
      have := old _ _ hf
      rw [z] at this hf
      have h9 : kS < hp.objs.size := Heap.lt_size hf
      omega
    refine wpAny_bind (listUpdate_at pK rfl (wpAny_pure ⟨rfl, kA.push v, c2, kv ++ [y], H2, ?_, hc2, (sb.2 _ neK.symm).trans pD, (sb.2 _ nfk).trans pF, ?_, ?_, hJ2, zD2, zK2, zF2⟩) (by rw [kz]; omega) (by rw [Array.size_push, kz]; omega))
    · exact touch (t' := s2.toks) I4 (fun c o _ nc e => (sb.2 c nc).trans e) ⟨zK2, fK.2⟩ ⟨zK2, fK.2⟩
    · have e3 : (kA.push v).toList = kA.toList ++ [v] := by simp
      rw [e3]
      exact vals_snoc ry rk
    · rw [List.length_append, lkv]; rfl
  · rintro s' ⟨kA, e, kv, H', I', nk, nD, nf, rk, lkv, hJ, zD, zK, zf⟩
    rw [Nat.zero_add, li] at hJ lkv
    have kz : kA.size = its.length := by rw [← Array.length_toList, ← rk.length, li]; exact lkv
    have dp := kd kv H' hJ
    refine wpAny_bind (listItems_at nk rfl ?_)
    obtain ⟨G, g1, g2⟩ := restrict s'.heap fun c => decide (c ≠ kS)
    have gk : ∀ c o, G.get? c = some o → c ≠ kS ∧ s'.heap.get? c = some o := fun c o z => by
      have nc : c ≠ kS := fun q => by rw [q, g2 kS (by simp)] at z; cases z
      exact ⟨nc, (g1 c (decide_eq_true nc)).symm.trans z⟩
    have rd := keys_read I' dp rk
    have hal := alike_keys ks
    refine PySem.W.keyH_end (κ := PySem.W.dataKind s'.heap (ks.map Dl.pdI)) (h₁ := G) (fun c o _ z => (gk c o z).2) (g2 kS (by simp)) nk nD neK (PySem.W.SortsAt.data (s := s') rd hal (PySem.W.Sortable.others fun b => ⟨(fun z => nomatch z), fun _ z => nomatch z⟩) fun d hd => ?_) kz (by omega) fun g' tk' c k3 n3 => ⟨rfl, ?_⟩
    · obtain ⟨z, _, rfl⟩ := List.mem_map.mp hd
      have h1 := Dl.depth_ints z
      have h2 : (Dl.pdI z).depth ≤ 3 := by unfold Dl.pdI; simp only [PyData.depth]; omega
      show X.A.units + 1 + 1 + _ < cLine
      omega
    · have ko : PySem.W.KeyedOut b ((xs.zip ks).map fun z => Dl.pdI z.2) its (PySem.W.sortVals (PySem.W.dataKind s'.heap (ks.map Dl.pdI)) b kA.toList its) := by
        have e0 : ((xs.zip ks).map fun z => Dl.pdI z.2) = ks.map Dl.pdI := by
          rw [show (fun z : V × List Int => Dl.pdI z.2) = Dl.pdI ∘ Prod.snd from rfl, ← List.map_map, List.map_snd_zip (by omega)]
        rw [e0]
        exact ⟨s'.heap, kA.toList, hal, rfl, rd⟩
      have out := rel_vals (PySem.W.keyedOut_each (fun z : V × List Int => Dl.pdI z.2) ko (zip_rel ks rv lk))
      have I5 : Inv X pins σ H' { s' with heap := g', toks := tk' } := touch (t' := tk') I' (fun c o n1 n2 z => k3 c o n1 ((g1 c (decide_eq_true n2)).trans z)) ⟨zD, fD.2⟩ ⟨zK, fK.2⟩
      have I6 := I5.take (t' := tk') (o := .lst (sortOut b ks xs)) (fun c o _ z => z) (it := hp.objs.size + 1) ⟨zD, fD.2⟩ ⟨by rw [sortOut_len lk]; omega, _, c, out, n3⟩
      exact ⟨.ref (hp.objs.size + 1), _, I6, rfl, hq kv H' _ hJ zD⟩
end
end Lm
namespace Lm
open PySem PySem.Spec PyProof.Rows L2 NdefX LamX
/-- sorted(e, key=lambda x: body, ..); te: the body's reading, N its names, js: where the captured ones stand -/
def tSortK (K : PySem.W.Frag) (T : List (Addr × Str)) (N : List Str) (js : List Nat) (b : Bool) (tl te : TE) : TE := fun σ H Q => tl σ H fun x H1 => ∃ (a : Addr) (xs : List V), x = .ref a ∧ SqL K H1 a xs ∧ xs.length ≤ 1000 ∧ Tabs T H1 ∧
  ∀ H2, ExtN H1 H2 → (∀ c, H2 c = none → H1 c = none) → Tabs T H2 → ∃ (ks : List (List Int)) (J : Nat → List V → Hp → Prop), ks.length = xs.length ∧ J 0 [] H2 ∧ (∀ i kv H3, J i kv H3 → ExtN H2 H3) ∧
    (∀ i x kv H3, xs[i]? = some x → J i kv H3 → te (startF N [x] (js.map (slotAt σ))) H3 fun y H4 => J (i + 1) (kv ++ [y]) H4) ∧
    (∀ kv H3, J xs.length kv H3 → DpAll K H3 kv (ks.map Dl.pdI) ∧ ∀ p, H3 p = none → Q (.ref p) (upd H3 p (.lst (sortOut b ks xs))))
/-- what a lambda of one parameter must be, and its place in the def that makes it -/
structure LamOk (X : Cx) (T : List (Addr × Str)) (c P : Addr) (N : List Str) (fr : List Str) (js : List Nat) (params : Arguments) (body : Expr) (scope : Scope) (k : Nat) (te : TE) : Prop where
  tb : TabB X.base X.mg c P
  code : X.env.code = .ref c
  mem : (P, X.env.qual ++ "<lambda>") ∈ T
  one : ∀ p ∈ T, p.1 = P → p.2 = X.env.qual ++ "<lambda>"
  nodef : defaultsOf params X.env = ([], [])
  free : ∀ y ∈ scope.names, y.2 = .free → X.env.scope.names.lookup y.1 = some .cell ∨ X.env.scope.names.lookup y.1 = some .free
  frs : ∀ y ∈ fr, (y, NameKind.free) ∈ scope.names
  at_ : js.map (fun j => X.N[j]?) = fr.map some
  room : Room (k + 3) X.A
  call : ∀ (cc f : Addr) (A : Around) (s : Shared) (H : Hp) (u : Value) (x : V) (ws : List (Option V)) (Q : VK) (E : XK) (pm ctv : Value), Room (k + 1) A → Env0 X.prog X.w X.K X.mg X.base A X.stack s H →
    s.heap.get? f = some (PySem.W.kla_obj "<lambda>" (X.env.qual ++ "<lambda>") params body scope (cloFrom X.env.cells scope.names []) pm cc ctv) → H cc = some (CodeO cc (X.env.qual ++ "<lambda>")) → CellsAt (cloFrom X.env.cells scope.names []) fr ws s.heap H → RelV x u →
    te (startF N [x] ws) H Q → codeAny (model X.prog X.w) A (.call (.ref f) ⟨[u], []⟩) (CR CX0 X.stack X.prog X.w H s Q E) s
section
variable {X : Cx} {T : List (Addr × Str)} {c P : Addr} {N : List Str} {fr : List Str} {js : List Nat} {params : Arguments} {body : Expr} {scope : Scope} {k : Nat} {te tl : TE} {b : Bool}
theorem sort_core {pins : List (Addr × Obj)} {σ : L2.St} {H1 H2 : Hp} {s2 : Shared} {f cc a : Addr} {xs : List V} {u : Value} {kw : List (Str × Value)} {Q : VK} (L : LamOk X T c P N fr js params body scope k te) (M : Made X pins σ T H1 H2 s2 f cc (lamF X params scope cc) body)
    (hu : u = .ref a) (hs : SqL X.K H1 a xs) (hz : xs.length ≤ 1000) (hkw : kw = [(Str.ofString "key", .ref f)] ∧ b = false ∨ kw = [(Str.ofString "key", .ref f), (Str.ofString "reverse", .bool b)])
    (h : ∀ H2, ExtN H1 H2 → (∀ c, H2 c = none → H1 c = none) → Tabs T H2 → ∃ (ks : List (List Int)) (J : Nat → List V → Hp → Prop), ks.length = xs.length ∧ J 0 [] H2 ∧ (∀ i kv H3, J i kv H3 → ExtN H2 H3) ∧
      (∀ i x kv H3, xs[i]? = some x → J i kv H3 → te (startF N [x] (js.map (slotAt σ))) H3 fun y H4 => J (i + 1) (kv ++ [y]) H4) ∧
      (∀ kv H3, J xs.length kv H3 → DpAll X.K H3 kv (ks.map Dl.pdI) ∧ ∀ p, H3 p = none → Q (.ref p) (upd H3 p (.lst (sortOut b ks xs))))) :
    wpAny (model X.prog X.w) X.A (call (.builtin "sorted") [u] kw) (EP X pins σ Q) X.xe s2 := by
  subst hu
  obtain ⟨ks, J, lk, j0, je, jt, jd⟩ := h H2 M.ext M.was M.tab
  obtain ⟨pm, ctv, ho⟩ := M.obj
  have hs2 : SqL X.K H2 a xs := by
    rcases hs with (e | ⟨o, e⟩) | e
    · exact .inl (.inl (M.ext _ _ e fun _ z => nomatch z))
    · exact .inl (.inr ⟨o, M.ext _ _ e fun _ z => nomatch z⟩)
    · exact .inr e
  have un := L.room.un
  have tree : ∀ x : Addr, Builtin.«list.sort» ⟨[.ref x], kw⟩ = ksk_tree x (.ref f) b := fun x => by
    rcases hkw with ⟨rfl, rfl⟩ | rfl
    · exact ksk_t1 f x
    · exact ksk_t2 f x b
  refine sorted_inv (ks := ks) (b := b) (J := J) (by omega) M.inv hs2 hz ho M.fp (fun _ z => nomatch z) (fun x => ?_) (fun x => ?_) tree lk j0 (fun pl i x u kv s' H' I' hf hx rx hJ => ?_) (fun kv H' hJ => (jd kv H' hJ).1) fun kv H' p hJ hp => (jd kv H' hJ).2 p hp
  · rcases hkw with ⟨rfl, rfl⟩ | rfl
    · exact ksk_s1 _ _
    · exact ksk_s2 _ _ _
  · rcases hkw with ⟨rfl, rfl⟩ | rfl
    · exact ksk_l1 _ _
    · exact ksk_l2 _ _ _
  · have cp : Caps X (cloFrom X.env.cells scope.names []) fr js := Caps.made I'.ok L.free L.frs L.at_
    refine wpAny_call (codeAny_mono (L.call cc f _ _ _ u x (js.map (slotAt σ)) (fun y H'' => J (i + 1) (kv ++ [y]) H'') (fun _ _ _ => False) pm ctv L.room.in1.in1 I'.env0.in1.in1 hf (je _ _ _ hJ _ _ M.code codeO_ne) (cells_of I' cp) rx (jt i x kv H' hx hJ)) fun r s3 z => ?_)
    cases r with
    | error e => exact z.elim
    | ok fl =>
      cases fl with
      | ret v => exact I'.after z
      | next => exact z.elim
      | brk => exact z.elim
      | cont => exact z.elim
variable {le : Expr} {p pos lpos kp kp2 bp : Pos}
theorem pe_sortK (L : LamOk X T c P N fr js params body scope k te) (hg : Gl X "sorted") (hm : X.mg "sorted" = none) (ha : PA X [le] (tCons tl tNil))
    (he : backTo pos (starEach [le] X.env) = (false, eval le X.env) :: backTo pos (starEach [] X.env) := by rfl) (hpl : (backTo pos (starEach [le] X.env)).any (·.1) = false := by rfl) :
    PE X (.Call (.Name "sorted" p) [le] [⟨some "key", .Lambda params body scope lpos, kp⟩] pos) (tSortK X.K T N js false tl te) := by
  refine ⟨fun pins s σ H Q I h => wpAny_Call_Name_kw (ld_blt I hg hm PyProof.Rows.Boot.«sorted» (PyProof.Rows.callWith_kw (thn (ha.run pos pins s σ H (fun vs H1 => match vs with
    | [x] => ∃ (a : Addr) (xs : List V), x = .ref a ∧ SqL X.K H1 a xs ∧ xs.length ≤ 1000 ∧ Tabs T H1 ∧ ∀ H2, ExtN H1 H2 → (∀ c, H2 c = none → H1 c = none) → Tabs T H2 → ∃ (ks : List (List Int)) (J : Nat → List V → Hp → Prop), ks.length = xs.length ∧ J 0 [] H2 ∧ (∀ i kv H3, J i kv H3 → ExtN H2 H3) ∧
        (∀ i x kv H3, xs[i]? = some x → J i kv H3 → te (startF N [x] (js.map (slotAt σ))) H3 fun y H4 => J (i + 1) (kv ++ [y]) H4) ∧ (∀ kv H3, J xs.length kv H3 → DpAll X.K H3 kv (ks.map Dl.pdI) ∧ ∀ p, H3 p = none → Q (.ref p) (upd H3 p (.lst (sortOut false ks xs))))
    | _ => False) I h) fun us s1 ⟨vs, H1, I1, r1, q1⟩ => ?_) he hpl rfl rfl) (by decide) (by decide))⟩
  match vs, q1 with
  | [x], ⟨a, xs, ex, hs, hz, tabs, q⟩ =>
    cases r1 with
    | @cons _ u _ ur ru rr =>
      cases rr
      subst ex
      obtain rfl : u = Value.ref a := ru
      show wpAny _ _ (evalAll [do let v ← eval (.Lambda params body scope lpos) X.env; standAt pos; pure v]) _ _ _
      refine wpAny_evalAll_cons (wpAny_bind (lam_mk I1 L.tb L.code L.mem L.one tabs L.nodef (fun y hy e => (L.free y hy e).elim (fun z => I1.ok.has _ (.inl z)) fun z => I1.ok.has _ (.inr z)) fun f cc H2 s2 M => wpAny_bind (wpAny_standAt (wpAny_pure (wpAny_evalAll_nil ?_)))))
      exact sort_core (kw := [(Str.ofString "key", .ref f)]) L M rfl hs hz (.inl ⟨rfl, rfl⟩) q
theorem pe_sortKR (L : LamOk X T c P N fr js params body scope k te) (hg : Gl X "sorted") (hm : X.mg "sorted" = none) (ha : PA X [le] (tCons tl tNil))
    (he : backTo pos (starEach [le] X.env) = (false, eval le X.env) :: backTo pos (starEach [] X.env) := by rfl) (hpl : (backTo pos (starEach [le] X.env)).any (·.1) = false := by rfl) {j : Nat} :
    PE X (.Call (.Name "sorted" p) [le] [⟨some "key", .Lambda params body scope lpos, kp⟩, ⟨some "reverse", .Constant (.bool true) j bp, kp2⟩] pos) (tSortK X.K T N js true tl te) := by
  refine ⟨fun pins s σ H Q I h => wpAny_Call_Name_kw (ld_blt I hg hm PyProof.Rows.Boot.«sorted» (PyProof.Rows.callWith_kw (thn (ha.run pos pins s σ H (fun vs H1 => match vs with
    | [x] => ∃ (a : Addr) (xs : List V), x = .ref a ∧ SqL X.K H1 a xs ∧ xs.length ≤ 1000 ∧ Tabs T H1 ∧ ∀ H2, ExtN H1 H2 → (∀ c, H2 c = none → H1 c = none) → Tabs T H2 → ∃ (ks : List (List Int)) (J : Nat → List V → Hp → Prop), ks.length = xs.length ∧ J 0 [] H2 ∧ (∀ i kv H3, J i kv H3 → ExtN H2 H3) ∧
        (∀ i x kv H3, xs[i]? = some x → J i kv H3 → te (startF N [x] (js.map (slotAt σ))) H3 fun y H4 => J (i + 1) (kv ++ [y]) H4) ∧ (∀ kv H3, J xs.length kv H3 → DpAll X.K H3 kv (ks.map Dl.pdI) ∧ ∀ p, H3 p = none → Q (.ref p) (upd H3 p (.lst (sortOut true ks xs))))
    | _ => False) I h) fun us s1 ⟨vs, H1, I1, r1, q1⟩ => ?_) he hpl rfl rfl) (by decide) (by decide))⟩
  match vs, q1 with
  | [x], ⟨a, xs, ex, hs, hz, tabs, q⟩ =>
    cases r1 with
    | @cons _ u _ ur ru rr =>
      cases rr
      subst ex
      obtain rfl : u = Value.ref a := ru
      show wpAny _ _ (evalAll [do let v ← eval (.Lambda params body scope lpos) X.env; standAt pos; pure v, do let v ← eval (.Constant (.bool true) j bp) X.env; standAt pos; pure v]) _ _ _
      refine wpAny_evalAll_cons (wpAny_bind (lam_mk I1 L.tb L.code L.mem L.one tabs L.nodef (fun y hy e => (L.free y hy e).elim (fun z => I1.ok.has _ (.inl z)) fun z => I1.ok.has _ (.inr z)) fun f cc H2 s2 M => wpAny_bind (wpAny_standAt (wpAny_pure ?_))))
      refine wpAny_evalAll_cons (wpAny_bind (Constant_bool (wpAny_bind (wpAny_standAt (wpAny_pure (wpAny_evalAll_nil ?_))))))
      exact sort_core (kw := [(Str.ofString "key", .ref f), (Str.ofString "reverse", .bool true)]) L M rfl hs hz (.inr rfl) q
end
/-! ### the two kinds of lambdas -/
section
variable {X : Cx} {N fr : List Str} {params : Arguments} {body : Expr} {scope : Scope} {k : Nat} {te : TE} {arg y : Str} {rest : List Str}
/-- none of its names is a cell of its own -/
theorem call_plain (S : NScope N [arg] fr scope) (hb : ∀ (q : Str) (cl : List (Str × Addr)) (pm cd ctv u : Value), bindArgs (PySem.W.kla_fn "<lambda>" q params body scope cl pm cd ctv) ⟨[u], []⟩ = pure [(arg, u)])
    (run : ∀ (cc f : Addr) (A : Around) (s : Shared) (H : Hp) (E : XK), Room k (A.deeper (envF (lamF X params scope cc) f s.heap.objs.size)) → PE (ncx CX0 X.prog X.w X.K X.mg X.base N (lamF X params scope cc) f A X.stack s H E) body te) :
    ∀ (cc f : Addr) (A : Around) (s : Shared) (H : Hp) (u : Value) (x : V) (ws : List (Option V)) (Q : VK) (E : XK) (pm ctv : Value), Room (k + 1) A → Env0 X.prog X.w X.K X.mg X.base A X.stack s H →
    s.heap.get? f = some (PySem.W.kla_obj "<lambda>" (X.env.qual ++ "<lambda>") params body scope (cloFrom X.env.cells scope.names []) pm cc ctv) → H cc = some (CodeO cc (X.env.qual ++ "<lambda>")) → CellsAt (cloFrom X.env.cells scope.names []) fr ws s.heap H → RelV x u →
    te (startF N [x] ws) H Q → codeAny (model X.prog X.w) A (.call (.ref f) ⟨[u], []⟩) (CR CX0 X.stack X.prog X.w H s Q E) s :=
  fun cc f A s H u x ws Q E pm ctv hr e0 hf hc C rx q => lam_run (F := lamF X params scope cc) (vs := [x]) (us := [u]) (k := k) S hr e0 hf hc (hb _ _ _ _ _ _) C (.cons rx .nil) rfl (fun r => run cc f _ _ _ _ r) q
/-- the parameter's cell ahead of the captured ones -/
abbrev envK (F : NF) (arg : Str) (f L : Addr) : Env := PySem.W.envX F.qual F.scope L f (.ref F.c) ((arg, L + 1) :: F.cl)
def kcx (P : Program) (w : World) (K : PySem.W.Frag) (mg : Str → Option Value) (base : Heap) (N : List Str) (F : NF) (arg : Str) (f : Addr) (A : Around) (outer : List Env) (s : Shared) (H : Hp) (E : XK) : Cx :=
  { ncx CX0 P w K mg base N F f A outer s H E with
    A := A.deeper (envK F arg f s.heap.objs.size)
    env := envK F arg f s.heap.objs.size
    stack := envK F arg f s.heap.objs.size :: outer
    xe := fun e s' => wpAny (model P w) (A.deeper (envK F arg f s.heap.objs.size)) (leaving (envK F arg f s.heap.objs.size) e) (fun _ s'' => CX0 outer H s E e s'') (fun e' s'' => CX0 outer H s E e' s'') s' }
theorem look_head (a b : Str) (c : Addr) (l : List (Str × Addr)) : ((a, c) :: l).lookup b = if b = a then some c else l.lookup b := Dl.look_cons a b c l
theorem inv_startK {P : Program} {w : World} {K : PySem.W.Frag} {mg : Str → Option Value} {base : Heap} {F : NF} {f : Addr} {A : Around} {outer : List Env} {s : Shared} {H : Hp} {E : XK} {u : Value} {x : V} {ws : List (Option V)} {h1 : Heap} {tk : Nat}
    (hk : F.scope.kind = .function) (hn : F.scope.names = [(arg, .cell), (y, .free)]) (ne : arg ≠ y) (hN : N = arg :: y :: rest) (nd : N.Nodup) (only : ∀ z c, F.cl.lookup z = some c → z = y) (hd : A.handled = none) (e0 : Env0 P w K mg base A outer s H) (rx : RelV x u) (C : CellsAt F.cl [y] ws s.heap H)
    (hns : h1.Ns s.heap.objs.size fun _ => none) (hcell : h1.IsCell (s.heap.objs.size + 1) (some u)) (kp : ∀ b o, s.heap.get? b = some o → h1.get? b = some o) :
    Inv (kcx P w K mg base N F arg f A outer s H E) [] (startF N [x] ws) H { s with heap := h1, toks := tk } := by
  have sz : ∀ {c : Addr} {v : Option Value}, s.heap.IsCell c v → c < s.heap.objs.size := fun {c v} z => z.lt
  have cl : ∀ z c, ((arg, s.heap.objs.size + 1) :: F.cl).lookup z = some c → (z = arg ∧ c = s.heap.objs.size + 1) ∨ (z = y ∧ F.cl.lookup z = some c ∧ c < s.heap.objs.size) := fun z c e => by
    rw [look_head] at e
    split at e
    · rename_i q; cases e; exact .inl ⟨q, rfl⟩
    · obtain ⟨_, v, hv⟩ := C.all z c e
      exact .inr ⟨only z c e, e, sz hv⟩
  obtain ⟨cy, hcy, hwy⟩ := C.has 0 y rfl
  have hcy' : ((arg, s.heap.objs.size + 1) :: F.cl).lookup y = some cy := by rw [look_head, if_neg ne.symm]; exact hcy
  have nox : ∀ b : Addr, b ∉ (kcx P w K mg base N F arg f A outer s H E).ex := fun b z => absurd (show b ∈ ([] : List Addr) from z) (by simp)
  have lk : ∀ z, F.scope.names.lookup z = if z = arg then some .cell else if z = y then some .free else none := fun z => by
    rw [hn, Dl.look_cons, Dl.look_cons]; rfl
  refine ⟨⟨e0.mod, hk, rfl, rfl, Nat.le_refl _, fun a b c h1 h2 => ?_, fun a ha => ?_, fun a c z _ => ?_, fun _ => hd, Around.frames_deeper e0.frames, .inr ⟨rfl, rfl⟩, fun b z => absurd z (nox b), e0.bs, e0.bsz, fun b _ _ => nox b, fun b z => absurd z (nox b), e0.funs, e0.frf⟩,
    rfl, e0.bare, Un.kept kp, ⟨_, hns, fun i a v q1 q2 q3 => ?_⟩, fun a c e => ?_, e0.hok.fresh (Nat.le_refl _), fun a c e => ?_, fun q hq => absurd (show q ∈ ([] : List (Addr × Obj)) ++ [] from hq) (by simp), e0.hok.kept kp, ?_⟩
  · rcases cl a c h1 with ⟨z1, z2⟩ | ⟨z1, _, z2⟩ <;> rcases cl b c h2 with ⟨t1, t2⟩ | ⟨t1, _, t2⟩
    · rw [z1, t1]
    · omega
    · omega
    · rw [z1, t1]
  · have ha : F.scope.names.lookup a = some .cell ∨ F.scope.names.lookup a = some .free := ha
    rw [lk] at ha
    by_cases q : a = arg
    · exact ⟨_, by show ((arg, _) :: F.cl).lookup a = _; rw [look_head, if_pos q]⟩
    · rw [if_neg q] at ha
      by_cases q2 : a = y
      · exact ⟨cy, by rw [q2]; exact hcy'⟩
      · rw [if_neg q2] at ha
        rcases ha with z | z <;> cases z
  · have z : false = true := z
    cases z
  · have q1 : N[i]? = some a := q1
    subst hN
    match i, q1, q2 with
    | 0, q1, q2 =>
      obtain rfl := Option.some.inj q1
      have q2 : some (some x) = some (some v) := q2
      obtain rfl := Option.some.inj (Option.some.inj q2)
      exact ⟨u, rx, .inr ⟨.inl (by show F.scope.names.lookup _ = _; rw [lk, if_pos rfl]), _, by show ((_, _) :: F.cl).lookup _ = _; rw [look_head, if_pos rfl], hcell⟩⟩
    | 1, q1, q2 =>
      obtain rfl := Option.some.inj q1
      have lw := C.len
      match ws, lw, q2, hwy with
      | [w0], _, q2, hwy =>
        have q2 : some w0 = some (some v) := q2
        obtain ⟨u0, r0, o, ho, hd0⟩ := hwy v q2
        exact ⟨u0, r0, .inr ⟨.inr (by show F.scope.names.lookup _ = _; rw [lk, if_neg ne.symm, if_pos rfl]), cy, hcy', o, kp _ _ ho, hd0⟩⟩
    | i + 2, q1, q2 =>
      have lw : ws.length = 1 := C.len
      unfold startF at q2
      rw [List.getElem?_append_right (by simp), List.getElem?_append_right (by simp; omega), List.getElem?_replicate] at q2
      split at q2 <;> cases q2
  · rcases cl a c e with ⟨_, rfl⟩ | ⟨_, h2, _⟩
    · exact ⟨_, hcell⟩
    · obtain ⟨v, o, ho, hd0⟩ := (C.all a c h2).2
      exact ⟨v, o, kp _ _ ho, hd0⟩
  · rcases cl a c e with ⟨_, rfl⟩ | ⟨_, h2, _⟩
    · exact e0.hok.fresh (Nat.le_succ _)
    · exact (C.all a c h2).1
  · have lw : ws.length = 1 := C.len
    subst hN
    unfold startF
    show _ = (arg :: y :: rest).length
    simp [lw]
    omega
/-- its parameter is a cell: a comprehension in it reads it -/
theorem call_cell (hk : scope.kind = .function) (hco : scope.isCoroutine = false) (hgn : scope.isGenerator = false) (hn : scope.names = [(arg, .cell), (y, .free)]) (ne : arg ≠ y) (hN : N = arg :: y :: rest) (nd : N.Nodup)
    (hb : ∀ (q : Str) (cl : List (Str × Addr)) (pm cd ctv u : Value), bindArgs (PySem.W.kla_fn "<lambda>" q params body scope cl pm cd ctv) ⟨[u], []⟩ = pure [(arg, u)])
    (run : ∀ (cc f : Addr) (A : Around) (s : Shared) (H : Hp) (E : XK), Room k (A.deeper (envK (lamF X params scope cc) arg f s.heap.objs.size)) → PE (kcx X.prog X.w X.K X.mg X.base N (lamF X params scope cc) arg f A X.stack s H E) body te) :
    ∀ (cc f : Addr) (A : Around) (s : Shared) (H : Hp) (u : Value) (x : V) (ws : List (Option V)) (Q : VK) (E : XK) (pm ctv : Value), Room (k + 1) A → Env0 X.prog X.w X.K X.mg X.base A X.stack s H →
    s.heap.get? f = some (PySem.W.kla_obj "<lambda>" (X.env.qual ++ "<lambda>") params body scope (cloFrom X.env.cells scope.names []) pm cc ctv) → H cc = some (CodeO cc (X.env.qual ++ "<lambda>")) → CellsAt (cloFrom X.env.cells scope.names []) [y] ws s.heap H → RelV x u →
    te (startF N [x] ws) H Q → codeAny (model X.prog X.w) A (.call (.ref f) ⟨[u], []⟩) (CR CX0 X.stack X.prog X.w H s Q E) s := fun cc f A s H u x ws Q E pm ctv hr e0 hf hc C rx q => by
  have lim : s.heap.NoLimit := e0.mod.nolimit.keeps fun b o z => (e0.bs b o z).1
  have ecl : cloFrom X.env.cells scope.names [] = cloFrom X.env.cells [(arg, .cell), (y, .free)] [] := by rw [hn]
  have only : ∀ z c, (cloFrom X.env.cells scope.names []).lookup z = some c → z = y := fun z c e => by
    rcases cloFrom_mem (PySem.mem_of_lookup e) with hm | ⟨h1, _⟩
    · cases hm
    · rw [hn] at h1
      rcases List.mem_cons.mp h1 with q | q
      · cases q
      · exact (Prod.mk.inj (List.mem_singleton.mp q)).1
  refine PySem.W.kla_callFunE hr.depth hf rfl hco hgn rfl (codeO_at e0.hok hc) ((hb _ _ _ _ _ _).symm ▸ wpAny_pure ?_)
  have hkd : (newEnv scope s.heap.objs.size mainGlobals ((arg, s.heap.objs.size + 1) :: cloFrom X.env.cells scope.names []) ((X.env.qual ++ "<lambda>") ++ ".<locals>.") (some f) (.ref cc) none builtinsNs) = envK (lamF X params scope cc) arg f s.heap.objs.size := rfl
  simp only [newFunctionEnv, Option.isSome_none, Bool.false_eq_true, if_false]
  refine wpAny_bind (wpAny_alloc (wpAny_bind (wpAny_layCells _ (fun name kind cells => by cases hkc : kind == NameKind.cell <;> simp [hkc]) _ _ _ _ ?_)))
  have e1 : (s.heap.push { cls := .type "frame", data := .dict #[] }).objs.size = s.heap.objs.size + 1 := Heap.size_push ..
  have ec : cellsFrom (s.heap.push { cls := .type "frame", data := .dict #[] }).objs.size scope.names (cloFrom X.env.cells scope.names []) = (arg, s.heap.objs.size + 1) :: cloFrom X.env.cells scope.names [] := by
    rw [e1, hn]; rfl
  have eh : pushCells (s.heap.push { cls := .type "frame", data := .dict #[] }) scope.names = (s.heap.push { cls := .type "frame", data := .dict #[] }).push { cls := .type "cell", data := .cell none } := by
    rw [hn]; rfl
  rw [ec, eh]
  have hL : ((s.heap.push { cls := .type "frame", data := .dict #[] }).push { cls := .type "cell", data := .cell none }).get? (s.heap.objs.size + 1) = some ({ cls := .type "cell", data := .cell none } : Obj) := by rw [← e1]; exact Heap.get?_push_size _ rfl
  refine wpAny_bind ?_
  rw [List.forIn_cons]
  refine wpAny_bind (wpAny_bind (wpAny_storeName_cell (env := envK (lamF X params scope cc) arg f s.heap.objs.size) (c := s.heap.objs.size + 1) (v₀ := none) hk (by show scope.names.lookup arg = _; rw [hn, Dl.look_cons, if_pos rfl]) (by show ((arg, _) :: _).lookup arg = _; rw [look_head, if_pos rfl]) ⟨_, hL, rfl⟩ fun h2 hc2 hs2 => wpAny_pure ?_))
  show wpAny _ _ (forIn ([] : List (Str × Value)) PUnit.unit _) _ _ _
  rw [List.forIn_nil]
  have kp : ∀ b o, s.heap.get? b = some o → h2.get? b = some o := fun b o z => (hs2.2 b (Nat.ne_of_lt (Nat.lt_succ_of_lt (Heap.lt_size z)))).trans (Heap.get?_push_of_some _ (Heap.get?_push_of_some _ z))
  have hns : h2.Ns s.heap.objs.size fun _ => none := ((Heap.Ns.new s.heap (.type "frame")).keeps fun b o z => Heap.get?_push_of_some _ z).sameBut hs2 (Nat.ne_of_lt (Nat.lt_succ_self _))
  refine wpAny_pure (wpAny_pure ⟨lim.keeps kp, ?_⟩)
  show codeAny _ _ (.expr body (envK (lamF X params scope cc) arg f s.heap.objs.size)) _ _
  have J := inv_startK (P := X.prog) (w := X.w) (K := X.K) (mg := X.mg) (base := X.base) (F := lamF X params scope cc) (f := f) (E := E) (tk := s.toks) hk hn ne hN nd only hr.hd e0 rx C hns hc2 kp
  refine PySem.W.kla_codeExpr (wpAny_mono ((run cc f A s H E (hr.deeper _)).run [] _ (startF N [x] ws) H Q J q) (fun v s' z => ?_) fun e s' z => z)
  obtain ⟨v, H', J', rv, q⟩ := z
  exact ⟨v, H', J'.os, J'.bare, J'.base, J'.hok, rv, q⟩
end
end Lm
namespace Lm
open PySem PySem.Spec PyProof.Rows L2 NdefX LamX Dl
section
variable {K : PySem.W.Frag} {G : Hp}
theorem rps_rel {α : Type} {enc : α → D} : ∀ {xs : List V} {l : List α}, Rps K G xs (l.map enc) → ∀ p ∈ xs.zip l, Rp K G p.1 (enc p.2)
  | [], _, _, p, hp => by simp at hp
  | x :: xs, [], h, p, hp => by simp at hp
  | x :: xs, a :: l, h, p, hp => by
    cases h with
    | cons r rs =>
      rcases List.mem_cons.mp hp with rfl | hp
      · exact r
      · exact rps_rel rs p hp
theorem rel_rps {α : Type} {enc : α → D} : ∀ {z : List (V × α)}, (∀ p ∈ z, Rp K G p.1 (enc p.2)) → Rps K G (z.map (·.1)) ((z.map (·.2)).map enc)
  | [], _ => .nil
  | p :: z, h => .cons (h p (List.mem_cons_self ..)) (rel_rps fun q hq => h q (List.mem_cons_of_mem _ hq))
theorem sort_rel {α : Type} {enc : α → D} {b : Bool} {kk : α → List Int} {xs : List V} {l : List α} (h : Rps K G xs (l.map enc)) : Rps K G (sortOut b (l.map kk) xs) ((l.mergeSort (PySem.W.dataLe b fun a => pdI (kk a))).map enc) := by
  have le : xs.length = l.length := by rw [h.len, List.length_map]
  have e1 : xs.zip (l.map kk) = (xs.zip l).map fun p => (p.1, kk p.2) := by rw [List.zip_map_right]; rfl
  have m1 : ((xs.zip l).mergeSort fun p q => PySem.W.dataLe b (fun a => pdI (kk a)) p.2 q.2).map (fun p => (p.1, kk p.2)) = ((xs.zip l).map fun p => (p.1, kk p.2)).mergeSort (PySem.W.dataLe b fun z => pdI z.2) := List.map_mergeSort fun _ _ _ _ => rfl
  have m2 : ((xs.zip l).mergeSort fun p q => PySem.W.dataLe b (fun a => pdI (kk a)) p.2 q.2).map (·.2) = ((xs.zip l).map (·.2)).mergeSort (PySem.W.dataLe b fun a => pdI (kk a)) := List.map_mergeSort fun _ _ _ _ => rfl
  rw [List.map_snd_zip (by omega)] at m2
  unfold sortOut
  rw [e1, ← m1, List.map_map, ← m2]
  exact rel_rps fun p hp => rps_rel h p ((List.mergeSort_perm _ _).mem_iff.mp hp)
end
theorem tabs_to {T0 : List (Addr × Str)} {H : Hp} (h : TabsN (T0.map fun p => (p.1, fun _ _ => p.2)) H) : Tabs T0 H := fun p hp => TabN.to (h _ (List.mem_map.mpr ⟨p, hp, rfl⟩))
theorem tabs_of {T0 : List (Addr × Str)} {H : Hp} (h : Tabs T0 H) : TabsN (T0.map fun p => (p.1, fun _ _ => p.2)) H := fun p hp => by
  obtain ⟨q, hq, rfl⟩ := List.mem_map.mp hp
  exact TabN.of (h q hq)
section
variable {B : Bs} {e e1 : En}
/-- the slots of a lambda's body -/
def lamEn (n : Nat) (js : List Nat) (d : D) (e1 : En) : En := some (.val d) :: (js.map (fun j => (e1[j]?).elim none valE) ++ List.replicate (n - 1 - js.length) none)
theorem eo_sortK {α : Type} {tl te : TE} {N : List Str} {js : List Nat} {b : Bool} {enc : α → D} {l : List α} {kk : α → List Int} {T0 : List (Addr × Str)} (hT : B.T = T0.map fun p => (p.1, fun _ _ => p.2)) (hl : Ev B tl e (.lst (l.map enc)) e1) (hz : l.length ≤ 1000)
    (he : ∀ (G2 H2 : Hp), ∀ a ∈ l, ∃ e3, Ev (B.at_ G2 H2) te (lamEn N.length js (enc a) e1) (.lst ((kk a).map D.int)) e3) : EvO B (tSortK B.K T0 N js b tl te) e (.lst ((l.mergeSort (PySem.W.dataLe b fun a => pdI (kk a))).map enc)) e1 := fun σ H vs ds Q s k =>
  hl σ H vs ds _ s fun v1 H1 ⟨G1, s1⟩ => by
    obtain ⟨s2, r⟩ := s1.pop
    cases r with
    | @lst a xs _ ga ra =>
      have lx : xs.length = l.length := by rw [ra.len, List.length_map]
      refine ⟨a, xs, rfl, .inl (.inl (s2.ev.gh _ _ ga)), by omega, tabs_to (hT ▸ s2.ev.tb), fun H2 ex was tb => ?_⟩
      have E0 : Evo B.T noA G1 H1 G1 H2 := ⟨Same.refl _, fun c o eb => ex c o (s2.ev.gh _ _ eb) fun ps z => s2.ev.nt c ps (z ▸ eb), s2.ev.nt, fun c o eb _ nt => ex c o eb nt, fun c hc => .inl hc, fun c hc z => hc (was c z), hT ▸ tabs_of tb⟩
      refine ⟨l.map kk, fun i kv H3 => i ≤ l.length ∧ ∃ G3, Evo B.T noA G1 H2 G3 H3 ∧ Rps B.K G3 kv ((l.take i).map fun a => D.lst ((kk a).map D.int)), by rw [List.length_map, lx], ⟨Nat.zero_le _, G1, Evo.refl E0.pre, .nil⟩, fun i kv H3 ⟨_, G3, ev, _⟩ c o eb nt => ev.hh c o eb (fun z => z) nt,
        fun i x kv H3 hx ⟨hi, G3, ev, rk⟩ => ?_, fun kv H3 ⟨_, G3, ev, rk⟩ => ⟨?_, fun p hp => ?_⟩⟩
      · obtain ⟨dx, hdx, rx⟩ := (ra.mono ev.gg).at_ hx
        rw [List.getElem?_map] at hdx
        obtain ⟨y, hy, rfl⟩ := Option.map_eq_some_iff.mp hdx
        have a3 := s2.step (E0.trans ev)
        have jl : (js.map (slotAt σ)).length = js.length := List.length_map _
        have ok : Ok (B.at_ G3 H3) G3 (startF N [x] (js.map (slotAt σ))) H3 (lamEn N.length js (enc y) e1) [] [] := by
          refine ⟨Evo.refl ev.pre, fun i t q => ?_, fun i j t u p q _ m _ _ _ => ?_, .nil, ?_⟩
          · unfold startF
            cases i with
            | zero =>
              obtain rfl := Option.some.inj (Option.some.inj q)
              exact ⟨_, rfl, x, rfl, rx⟩
            | succ i =>
              have q : (js.map (fun j => (e1[j]?).elim none valE) ++ List.replicate (N.length - 1 - js.length) none)[i]? = some (some t) := q
              show ∃ y, (js.map (slotAt σ) ++ _)[i]? = some y ∧ _
              rw [List.getElem?_append] at q
              split at q
              · rename_i lt
                rw [List.getElem?_map] at q
                obtain ⟨j, hj, q2⟩ := Option.map_eq_some_iff.mp q
                rw [List.getElem?_append_left (by rw [jl]; rw [List.length_map] at lt; exact lt), List.getElem?_map, hj]
                cases q3 : e1[j]? with
                | none => rw [q3] at q2; cases q2
                | some t0 =>
                  rw [q3] at q2
                  have q2 : valE t0 = some t := q2
                  cases t0 with
                  | none => cases q2
                  | some t1 =>
                    cases t1 with
                    | val d =>
                      obtain rfl := Option.some.inj q2
                      obtain ⟨z, ez, v, rfl, rv⟩ := a3.slot j _ q3
                      exact ⟨some v, congrArg some (slotAt_of ez), v, rfl, rv⟩
                    | own o => cases q2
                    | bor o => cases q2
              · have z : (some t : Option Ent) = none := List.eq_of_mem_replicate (List.mem_of_getElem? q)
                cases z
          · exfalso
            unfold lamEn at q
            cases i with
            | zero =>
              obtain rfl := Option.some.inj (Option.some.inj q)
              exact m
            | succ i =>
              have q : (js.map (fun j => (e1[j]?).elim none valE) ++ List.replicate (N.length - 1 - js.length) none)[i]? = some (some t) := q
              rw [List.getElem?_append] at q
              split at q
              · rw [List.getElem?_map] at q
                obtain ⟨j, hj, q2⟩ := Option.map_eq_some_iff.mp q
                cases q3 : e1[j]? with
                | none => rw [q3] at q2; cases q2
                | some t0 =>
                  rw [q3] at q2
                  have q2 : valE t0 = some t := q2
                  cases t0 with
                  | none => cases q2
                  | some t1 =>
                    cases t1 with
                    | val d => obtain rfl := Option.some.inj q2; exact m
                    | own o => cases q2
                    | bor o => cases q2
              · have z : (some t : Option Ent) = none := List.eq_of_mem_replicate (List.mem_of_getElem? q)
                cases z
          · unfold startF lamEn
            simp
        obtain ⟨e3, h3⟩ := he G3 H3 y (List.mem_of_getElem? hy)
        refine h3 _ H3 [] [] _ ⟨G3, ok⟩ fun v H4 ⟨G4, s4⟩ => ?_
        obtain ⟨s5, rv⟩ := s4.pop
        have e5 : Evo B.T noA G3 H3 G4 H4 := s5.ev
        have lt := (List.getElem?_eq_some_iff.mp hy).1
        refine ⟨lt, G4, ev.trans e5, ?_⟩
        rw [List.take_add_one, hy, List.map_append]
        exact (rk.mono e5.gg).app (.cons rv .nil)
      · rw [lx, List.take_length] at rk
        have := dp_rows (H := H3) ev.gh (l.map kk) (by rw [List.map_map]; exact rk)
        exact this
      · have s3 := s2.step (E0.trans ev)
        obtain ⟨x1, x2⟩ := s3.made (o := .lst ((l.mergeSort (PySem.W.dataLe b fun a => pdI (kk a))).map enc)) hp ⟨_, upd_same, sort_rel (ra.mono ev.gg)⟩
        exact k p _ _ x1 x2
end
end Lm
namespace One
open PySem PySem.Spec PyProof.Rows L2 NdefX Dl
section
variable {P : Program} {w : World} {K : PySem.W.Frag} {mg : Str → Option Value} {base : Heap} {TT : List NTab}
abbrev N_Way_init : List Str := ["self", "question", "groups", "free", "touch_cost", "look_up_filters"]
theorem sc_Way_init : FnScope N_Way_init ["self", "question", "groups", "free", "touch_cost", "look_up_filters"] (defScope s_Way_init) := ⟨rfl, rfl, rfl, by decide +kernel, rfl, by decide +kernel, by decide +kernel⟩
def f_Way_init (K : PySem.W.Frag) : List (Str × D) → List D → Res → List (Str × D) → Prop := fun fs as r fs2 => ∃ d0 d1 d2 d3 d4 : D, fs = [] ∧ as = [d0, d1, d2, d3, d4] ∧ r = .ok .non ∧ fs2 = [(("question" : Str), d0), (("groups" : Str), d1), (("free" : Str), d2), (("touch_cost" : Str), d3), (("look_up_filters" : Str), d4)]
abbrev sp_Way_init (K : PySem.W.Frag) (TT : List NTab) : Sp := SpB K TT (He.ga K "Refusal") (He.ga K "Way") (f_Way_init K)
theorem len_Way_init : ∀ (fs : List (Str × D)) (as : List D) r fs2, f_Way_init K fs as r fs2 → as.length + 1 = 6 := by
  intro fs as r fs2 h
  obtain ⟨_, _, _, _, _, _, rfl, _⟩ := h; rfl
theorem ok_Way_init (T : Txt K mg) : DefOk P w K mg base CX0 1 ("Way", some "__init__") ["self", "question", "groups", "free", "touch_cost", "look_up_filters"] (sp_Way_init K TT) := by
  obtain ⟨fd, F⟩ := T.def_ (i := 57) (d := d_Way_init) rfl
  refine ⟨⟨fd, FunD.ok F sc_Way_init (sp_lenB (n := 6) len_Way_init) (fun cdv A outer s H vs Q E hr h => ?_), F.bindsN fun _ _ _ _ _ _ us hl => match us, hl with | [_, _, _, _, _, _], _ => rfl⟩, F.kp⟩
  refine ⟨_, PSs.nox (pss_cons (ps_fld (pv 0) (pv 1) rfl)
    (pss_cons (ps_fld (pv 0) (pv 2) rfl)
    (pss_cons (ps_fld (pv 0) (pv 3) rfl)
    (pss_cons (ps_fld (pv 0) (pv 4) rfl)
    (pss_one (ps_fld (pv 0) (pv 5) rfl)))))), ?_⟩
  refine body_B 6 rfl (fun fs as r fs2 h => by rw [len_Way_init fs as r fs2 h]; decide) (fun B fs as r fs2 hK hT hf hX => ?_) vs H Q h
  subst hK hT
  obtain ⟨d0, d1, d2, d3, d4, rfl, rfl, rfl, rfl⟩ := hf
  refine ex_seq (ex_fld (evx_ok (ev_var (i := 1) rfl)) (i := 0) rfl rfl T.cls_Way T.n_Way_question (of_decide_eq_true rfl) (fun d q => ?_))
  cases q
  refine ex_seq (ex_fld (evx_ok (ev_var (i := 2) rfl)) (i := 0) rfl rfl T.cls_Way T.n_Way_groups (of_decide_eq_true rfl) (fun d q => ?_))
  cases q
  refine ex_seq (ex_fld (evx_ok (ev_var (i := 3) rfl)) (i := 0) rfl rfl T.cls_Way T.n_Way_free (of_decide_eq_true rfl) (fun d q => ?_))
  cases q
  refine ex_seq (ex_fld (evx_ok (ev_var (i := 4) rfl)) (i := 0) rfl rfl T.cls_Way T.n_Way_touch_cost (of_decide_eq_true rfl) (fun d q => ?_))
  cases q
  refine ex_fld (evx_ok (ev_var (i := 5) rfl)) (i := 0) rfl rfl T.cls_Way T.n_Way_look_up_filters (of_decide_eq_true rfl) (fun d q => ?_)
  cases q
  exact ⟨rfl, rfl⟩
abbrev N_Step_init : List Str := ["self", "group", "touched", "looked_up", "found"]
theorem sc_Step_init : FnScope N_Step_init ["self", "group", "touched", "looked_up", "found"] (defScope s_Step_init) := ⟨rfl, rfl, rfl, by decide +kernel, rfl, by decide +kernel, by decide +kernel⟩
def f_Step_init (K : PySem.W.Frag) : List (Str × D) → List D → Res → List (Str × D) → Prop := fun fs as r fs2 => ∃ d0 d1 d2 d3 : D, fs = [] ∧ as = [d0, d1, d2, d3] ∧ r = .ok .non ∧ fs2 = [(("group" : Str), d0), (("touched" : Str), d1), (("looked_up" : Str), d2), (("found" : Str), d3)]
abbrev sp_Step_init (K : PySem.W.Frag) (TT : List NTab) : Sp := SpB K TT (He.ga K "Refusal") (He.ga K "Step") (f_Step_init K)
theorem len_Step_init : ∀ (fs : List (Str × D)) (as : List D) r fs2, f_Step_init K fs as r fs2 → as.length + 1 = 5 := by
  intro fs as r fs2 h
  obtain ⟨_, _, _, _, _, rfl, _⟩ := h; rfl
theorem ok_Step_init (T : Txt K mg) : DefOk P w K mg base CX0 1 ("Step", some "__init__") ["self", "group", "touched", "looked_up", "found"] (sp_Step_init K TT) := by
  obtain ⟨fd, F⟩ := T.def_ (i := 0) (d := d_Step_init) rfl
  refine ⟨⟨fd, FunD.ok F sc_Step_init (sp_lenB (n := 5) len_Step_init) (fun cdv A outer s H vs Q E hr h => ?_), F.bindsN fun _ _ _ _ _ _ us hl => match us, hl with | [_, _, _, _, _], _ => rfl⟩, F.kp⟩
  refine ⟨_, PSs.nox (pss_cons (ps_fld (pv 0) (pv 1) rfl)
    (pss_cons (ps_fld (pv 0) (pv 2) rfl)
    (pss_cons (ps_fld (pv 0) (pv 3) rfl)
    (pss_one (ps_fld (pv 0) (pv 4) rfl))))), ?_⟩
  refine body_B 5 rfl (fun fs as r fs2 h => by rw [len_Step_init fs as r fs2 h]; decide) (fun B fs as r fs2 hK hT hf hX => ?_) vs H Q h
  subst hK hT
  obtain ⟨d0, d1, d2, d3, rfl, rfl, rfl, rfl⟩ := hf
  refine ex_seq (ex_fld (evx_ok (ev_var (i := 1) rfl)) (i := 0) rfl rfl T.cls_Step T.n_Step_group (of_decide_eq_true rfl) (fun d q => ?_))
  cases q
  refine ex_seq (ex_fld (evx_ok (ev_var (i := 2) rfl)) (i := 0) rfl rfl T.cls_Step T.n_Step_touched (of_decide_eq_true rfl) (fun d q => ?_))
  cases q
  refine ex_seq (ex_fld (evx_ok (ev_var (i := 3) rfl)) (i := 0) rfl rfl T.cls_Step T.n_Step_looked_up (of_decide_eq_true rfl) (fun d q => ?_))
  cases q
  refine ex_fld (evx_ok (ev_var (i := 4) rfl)) (i := 0) rfl rfl T.cls_Step T.n_Step_found (of_decide_eq_true rfl) (fun d q => ?_)
  cases q
  exact ⟨rfl, rfl⟩
abbrev N_Work_init : List Str := ["self", "touched", "looked_up", "put_in_order", "cost"]
theorem sc_Work_init : FnScope N_Work_init ["self", "touched", "looked_up", "put_in_order", "cost"] (defScope s_Work_init) := ⟨rfl, rfl, rfl, by decide +kernel, rfl, by decide +kernel, by decide +kernel⟩
def f_Work_init (K : PySem.W.Frag) : List (Str × D) → List D → Res → List (Str × D) → Prop := fun fs as r fs2 => ∃ d0 d1 d2 d3 : D, fs = [] ∧ as = [d0, d1, d2, d3] ∧ r = .ok .non ∧ fs2 = [(("touched" : Str), d0), (("looked_up" : Str), d1), (("put_in_order" : Str), d2), (("cost" : Str), d3)]
abbrev sp_Work_init (K : PySem.W.Frag) (TT : List NTab) : Sp := SpB K TT (He.ga K "Refusal") (He.ga K "Work") (f_Work_init K)
theorem len_Work_init : ∀ (fs : List (Str × D)) (as : List D) r fs2, f_Work_init K fs as r fs2 → as.length + 1 = 5 := by
  intro fs as r fs2 h
  obtain ⟨_, _, _, _, _, rfl, _⟩ := h; rfl
theorem ok_Work_init (T : Txt K mg) : DefOk P w K mg base CX0 1 ("Work", some "__init__") ["self", "touched", "looked_up", "put_in_order", "cost"] (sp_Work_init K TT) := by
  obtain ⟨fd, F⟩ := T.def_ (i := 1) (d := d_Work_init) rfl
  refine ⟨⟨fd, FunD.ok F sc_Work_init (sp_lenB (n := 5) len_Work_init) (fun cdv A outer s H vs Q E hr h => ?_), F.bindsN fun _ _ _ _ _ _ us hl => match us, hl with | [_, _, _, _, _], _ => rfl⟩, F.kp⟩
  refine ⟨_, PSs.nox (pss_cons (ps_fld (pv 0) (pv 1) rfl)
    (pss_cons (ps_fld (pv 0) (pv 2) rfl)
    (pss_cons (ps_fld (pv 0) (pv 3) rfl)
    (pss_one (ps_fld (pv 0) (pv 4) rfl))))), ?_⟩
  refine body_B 5 rfl (fun fs as r fs2 h => by rw [len_Work_init fs as r fs2 h]; decide) (fun B fs as r fs2 hK hT hf hX => ?_) vs H Q h
  subst hK hT
  obtain ⟨d0, d1, d2, d3, rfl, rfl, rfl, rfl⟩ := hf
  refine ex_seq (ex_fld (evx_ok (ev_var (i := 1) rfl)) (i := 0) rfl rfl T.cls_Work T.n_Work_touched (of_decide_eq_true rfl) (fun d q => ?_))
  cases q
  refine ex_seq (ex_fld (evx_ok (ev_var (i := 2) rfl)) (i := 0) rfl rfl T.cls_Work T.n_Work_looked_up (of_decide_eq_true rfl) (fun d q => ?_))
  cases q
  refine ex_seq (ex_fld (evx_ok (ev_var (i := 3) rfl)) (i := 0) rfl rfl T.cls_Work T.n_Work_put_in_order (of_decide_eq_true rfl) (fun d q => ?_))
  cases q
  refine ex_fld (evx_ok (ev_var (i := 4) rfl)) (i := 0) rfl rfl T.cls_Work T.n_Work_cost (of_decide_eq_true rfl) (fun d q => ?_)
  cases q
  exact ⟨rfl, rfl⟩
abbrev N_Share_init : List Str := ["self", "group", "size"]
theorem sc_Share_init : FnScope N_Share_init ["self", "group", "size"] (defScope s_Share_init) := ⟨rfl, rfl, rfl, by decide +kernel, rfl, by decide +kernel, by decide +kernel⟩
def f_Share_init (K : PySem.W.Frag) : List (Str × D) → List D → Res → List (Str × D) → Prop := fun fs as r fs2 => ∃ d0 d1 : D, fs = [] ∧ as = [d0, d1] ∧ r = .ok .non ∧ fs2 = [(("group" : Str), d0), (("size" : Str), d1)]
abbrev sp_Share_init (K : PySem.W.Frag) (TT : List NTab) : Sp := SpB K TT (He.ga K "Refusal") (He.ga K "Share") (f_Share_init K)
theorem len_Share_init : ∀ (fs : List (Str × D)) (as : List D) r fs2, f_Share_init K fs as r fs2 → as.length + 1 = 3 := by
  intro fs as r fs2 h
  obtain ⟨_, _, _, rfl, _⟩ := h; rfl
theorem ok_Share_init (T : Txt K mg) : DefOk P w K mg base CX0 1 ("Share", some "__init__") ["self", "group", "size"] (sp_Share_init K TT) := by
  obtain ⟨fd, F⟩ := T.def_ (i := 4) (d := d_Share_init) rfl
  refine ⟨⟨fd, FunD.ok F sc_Share_init (sp_lenB (n := 3) len_Share_init) (fun cdv A outer s H vs Q E hr h => ?_), F.bindsN fun _ _ _ _ _ _ us hl => match us, hl with | [_, _, _], _ => rfl⟩, F.kp⟩
  refine ⟨_, PSs.nox (pss_cons (ps_fld (pv 0) (pv 1) rfl)
    (pss_one (ps_fld (pv 0) (pv 2) rfl))), ?_⟩
  refine body_B 3 rfl (fun fs as r fs2 h => by rw [len_Share_init fs as r fs2 h]; decide) (fun B fs as r fs2 hK hT hf hX => ?_) vs H Q h
  subst hK hT
  obtain ⟨d0, d1, rfl, rfl, rfl, rfl⟩ := hf
  refine ex_seq (ex_fld (evx_ok (ev_var (i := 1) rfl)) (i := 0) rfl rfl T.cls_Share T.n_Share_group (of_decide_eq_true rfl) (fun d q => ?_))
  cases q
  refine ex_fld (evx_ok (ev_var (i := 2) rfl)) (i := 0) rfl rfl T.cls_Share T.n_Share_size (of_decide_eq_true rfl) (fun d q => ?_)
  cases q
  exact ⟨rfl, rfl⟩
abbrev N_Run_init : List Str := ["self", "touched", "looked_up", "put_in_order", "found_groups"]
theorem sc_Run_init : FnScope N_Run_init ["self", "touched", "looked_up", "put_in_order", "found_groups"] (defScope s_Run_init) := ⟨rfl, rfl, rfl, by decide +kernel, rfl, by decide +kernel, by decide +kernel⟩
def f_Run_init (K : PySem.W.Frag) : List (Str × D) → List D → Res → List (Str × D) → Prop := fun fs as r fs2 => ∃ d0 d1 d2 d3 : D, fs = [] ∧ as = [d0, d1, d2, d3] ∧ r = .ok .non ∧ fs2 = [(("touched" : Str), d0), (("looked_up" : Str), d1), (("put_in_order" : Str), d2), (("found_groups" : Str), d3)]
abbrev sp_Run_init (K : PySem.W.Frag) (TT : List NTab) : Sp := SpB K TT (He.ga K "Refusal") (He.ga K "Run") (f_Run_init K)
theorem len_Run_init : ∀ (fs : List (Str × D)) (as : List D) r fs2, f_Run_init K fs as r fs2 → as.length + 1 = 5 := by
  intro fs as r fs2 h
  obtain ⟨_, _, _, _, _, rfl, _⟩ := h; rfl
theorem ok_Run_init (T : Txt K mg) : DefOk P w K mg base CX0 1 ("Run", some "__init__") ["self", "touched", "looked_up", "put_in_order", "found_groups"] (sp_Run_init K TT) := by
  obtain ⟨fd, F⟩ := T.def_ (i := 9) (d := d_Run_init) rfl
  refine ⟨⟨fd, FunD.ok F sc_Run_init (sp_lenB (n := 5) len_Run_init) (fun cdv A outer s H vs Q E hr h => ?_), F.bindsN fun _ _ _ _ _ _ us hl => match us, hl with | [_, _, _, _, _], _ => rfl⟩, F.kp⟩
  refine ⟨_, PSs.nox (pss_cons (ps_fld (pv 0) (pv 1) rfl)
    (pss_cons (ps_fld (pv 0) (pv 2) rfl)
    (pss_cons (ps_fld (pv 0) (pv 3) rfl)
    (pss_one (ps_fld (pv 0) (pv 4) rfl))))), ?_⟩
  refine body_B 5 rfl (fun fs as r fs2 h => by rw [len_Run_init fs as r fs2 h]; decide) (fun B fs as r fs2 hK hT hf hX => ?_) vs H Q h
  subst hK hT
  obtain ⟨d0, d1, d2, d3, rfl, rfl, rfl, rfl⟩ := hf
  refine ex_seq (ex_fld (evx_ok (ev_var (i := 1) rfl)) (i := 0) rfl rfl T.cls_Run T.n_Run_touched (of_decide_eq_true rfl) (fun d q => ?_))
  cases q
  refine ex_seq (ex_fld (evx_ok (ev_var (i := 2) rfl)) (i := 0) rfl rfl T.cls_Run T.n_Run_looked_up (of_decide_eq_true rfl) (fun d q => ?_))
  cases q
  refine ex_seq (ex_fld (evx_ok (ev_var (i := 3) rfl)) (i := 0) rfl rfl T.cls_Run T.n_Run_put_in_order (of_decide_eq_true rfl) (fun d q => ?_))
  cases q
  refine ex_fld (evx_ok (ev_var (i := 4) rfl)) (i := 0) rfl rfl T.cls_Run T.n_Run_found_groups (of_decide_eq_true rfl) (fun d q => ?_)
  cases q
  exact ⟨rfl, rfl⟩
abbrev N_Way_finds : List Str := ["self", "group"]
theorem sc_Way_finds : FnScope N_Way_finds ["self", "group"] (defScope s_Way_finds) := ⟨rfl, rfl, rfl, by decide +kernel, rfl, by decide +kernel, by decide +kernel⟩
def f_Way_finds (K : PySem.W.Frag) : List D → D → Prop := fun as d => ∃ (y : Wy) (g : Gr) (w : Nat), as = [wD K y, gD K g] ∧ Ww w y ∧ Gw w g ∧ d = .bl (y.finds g.1.row)
abbrev sp_Way_finds (K : PySem.W.Frag) (TT : List NTab) : Sp := SpP K TT (f_Way_finds K)
theorem len_Way_finds : ∀ (as : List D) d, f_Way_finds K as d → as.length = 2 := by
  intro as d h
  obtain ⟨_, _, _, rfl, _⟩ := h; rfl
theorem ok_Way_finds (T : Txt K mg) : DefOk P w K mg base CX0 3 ("Way", some "finds") ["self", "group"] (sp_Way_finds K TT) := by
  obtain ⟨⟨fd_passes_all, F_passes_all, b_passes_all⟩, kp_passes_all⟩ := ok_passes_all (P := P) (w := w) (base := base) (TT := TT) T
  obtain ⟨fd, F⟩ := T.def_ (i := 58) (d := d_Way_finds) rfl
  refine ⟨⟨fd, FunD.ok F sc_Way_finds (sp_lenP (n := 2) len_Way_finds) (fun cdv A outer s H vs Q E hr h => ?_), F.bindsN fun _ _ _ _ _ _ us hl => match us, hl with | [_, _], _ => rfl⟩, F.kp⟩
  refine ⟨_, PSs.nox (pss_one (ps_ret (pe_call F_passes_all (hr.mono (by decide)) rfl T.glo_passes_all kp_passes_all b_passes_all .nil pass0 (pa_cons (pe_fld (pe_fld (pv 0) rfl) rfl) (pa_cons (pv 1) pa_nil))))), ?_⟩
  refine body_P 2 rfl (fun as d h => by rw [len_Way_finds as d h]; decide) (fun B as d hK hT hf => ?_) vs H Q E h
  subst hK hT

  obtain ⟨y, g, w, rfl, hw, hg, rfl⟩ := hf
  refine ex_ret (ev_call (f := f_passes_all _) (ea_cons (ev_fld (ev_fld (ev_var (i := 0) rfl) T.cls_Way T.n_Way_question rfl) T.cls_Question T.n_Question_filters rfl) (ea_cons (ev_var (i := 1) rfl) ea_nil)) ⟨y.q.filters, g, rfl, fun f hf => by rw [hg.row]; exact (hw.q.fs f hf).col, by have := hw.q.fl; omega, rfl⟩) rfl
abbrev N_Way_looks_up : List Str := ["self", "group"]
theorem sc_Way_looks_up : FnScope N_Way_looks_up ["self", "group"] (defScope s_Way_looks_up) := ⟨rfl, rfl, rfl, by decide +kernel, rfl, by decide +kernel, by decide +kernel⟩
def f_Way_looks_up (K : PySem.W.Frag) : List D → D → Prop := fun as d => ∃ (y : Wy) (g : Gr) (w : Nat), as = [wD K y, gD K g] ∧ Ww w y ∧ Gw w g ∧ d = .bl (y.looks g.1.row)
abbrev sp_Way_looks_up (K : PySem.W.Frag) (TT : List NTab) : Sp := SpP K TT (f_Way_looks_up K)
theorem len_Way_looks_up : ∀ (as : List D) d, f_Way_looks_up K as d → as.length = 2 := by
  intro as d h
  obtain ⟨_, _, _, rfl, _⟩ := h; rfl
theorem ok_Way_looks_up (T : Txt K mg) : DefOk P w K mg base CX0 3 ("Way", some "looks_up") ["self", "group"] (sp_Way_looks_up K TT) := by
  obtain ⟨⟨fd_passes_all, F_passes_all, b_passes_all⟩, kp_passes_all⟩ := ok_passes_all (P := P) (w := w) (base := base) (TT := TT) T
  obtain ⟨fd, F⟩ := T.def_ (i := 59) (d := d_Way_looks_up) rfl
  refine ⟨⟨fd, FunD.ok F sc_Way_looks_up (sp_lenP (n := 2) len_Way_looks_up) (fun cdv A outer s H vs Q E hr h => ?_), F.bindsN fun _ _ _ _ _ _ us hl => match us, hl with | [_, _], _ => rfl⟩, F.kp⟩
  refine ⟨_, PSs.nox (pss_one (ps_ret (pe_and (pe_cmp (pc_notN (pe_fld (pv 0) rfl))) (pe_one (pe_call F_passes_all (hr.mono (by decide)) rfl T.glo_passes_all kp_passes_all b_passes_all .nil pass0 (pa_cons (pe_fld (pv 0) rfl) (pa_cons (pv 1) pa_nil))))))), ?_⟩
  refine body_P 2 rfl (fun as d h => by rw [len_Way_looks_up as d h]; decide) (fun B as d hK hT hf => ?_) vs H Q E h
  subst hK hT

  obtain ⟨y, g, w, rfl, hw, hg, rfl⟩ := hf
  cases ho : y.look with
  | none =>
    refine ex_ret (ev_eq (ev_and (a := false) (b := false) (ev_eq (ev_notN (ev_fld (ev_var (i := 0) rfl) T.cls_Way T.n_Way_look_up_filters rfl)) (by rw [ho]; rfl)) (fun h => nomatch h)) ?_) rfl
    unfold Wy.looks
    rw [ho]; rfl
  | some l =>
    have hl := hw.look l ho
    refine ex_ret (ev_eq (ev_and (a := true) (b := l.all (VaidxBase.passes g.1.row)) (ev_eq (ev_notN (ev_fld (ev_var (i := 0) rfl) T.cls_Way T.n_Way_look_up_filters rfl)) (by rw [ho]; rfl)) (fun _ => ev_call (f := f_passes_all _) (ea_cons (ev_eq (ev_fld (ev_var (i := 0) rfl) T.cls_Way T.n_Way_look_up_filters rfl) (by rw [ho]; rfl)) (ea_cons (ev_var (i := 1) rfl) ea_nil)) ⟨l, g, rfl, fun f hf => by rw [hg.row]; exact (hl.1 f hf).col, by omega, rfl⟩)) ?_) rfl
    unfold Wy.looks
    rw [ho]; rfl
abbrev N_Way_found_at_end : List Str := ["self"]
theorem sc_Way_found_at_end : FnScope N_Way_found_at_end ["self"] (defScope s_Way_found_at_end) := ⟨rfl, rfl, rfl, by decide +kernel, rfl, by decide +kernel, by decide +kernel⟩
def f_Way_found_at_end (K : PySem.W.Frag) : List D → D → Prop := fun as d => ∃ (y : Wy), as = [wD K y] ∧ d = nD y.stop
abbrev sp_Way_found_at_end (K : PySem.W.Frag) (TT : List NTab) : Sp := SpP K TT (f_Way_found_at_end K)
theorem len_Way_found_at_end : ∀ (as : List D) d, f_Way_found_at_end K as d → as.length = 1 := by
  intro as d h
  obtain ⟨_, rfl, _⟩ := h; rfl
theorem ok_Way_found_at_end (T : Txt K mg) : DefOk P w K mg base CX0 1 ("Way", some "found_at_end") ["self"] (sp_Way_found_at_end K TT) := by
  obtain ⟨fd, F⟩ := T.def_ (i := 60) (d := d_Way_found_at_end) rfl
  refine ⟨⟨fd, FunD.ok F sc_Way_found_at_end (sp_lenP (n := 1) len_Way_found_at_end) (fun cdv A outer s H vs Q E hr h => ?_), F.bindsN fun _ _ _ _ _ _ us hl => match us, hl with | [_], _ => rfl⟩, F.kp⟩
  refine ⟨_, PSs.nox (pss_one (ps_ret (pe_ifExp (pt_val (pe_fld (pv 0) rfl)) (pe_fld (pe_fld (pv 0) rfl) rfl) pe_int))), ?_⟩
  refine body_P 1 rfl (fun as d h => by rw [len_Way_found_at_end as d h]; decide) (fun B as d hK hT hf => ?_) vs H Q E h
  subst hK hT

  obtain ⟨y, rfl, rfl⟩ := hf
  refine ex_ret (ev_eq (ev_if2 (et_B (ev_fld (ev_var (i := 0) rfl) T.cls_Way T.n_Way_free rfl)) (fun _ => (ev_fld (ev_fld (ev_var (i := 0) rfl) T.cls_Way T.n_Way_question rfl) T.cls_Question T.n_Question_limit rfl)) (fun _ => ev_int (i := 0))) (if_int rfl rfl)) rfl
abbrev N_way_by_table : List Str := ["table", "question"]
theorem sc_way_by_table : FnScope N_way_by_table ["table", "question"] (defScope s_way_by_table) := ⟨rfl, rfl, rfl, by decide +kernel, rfl, by decide +kernel, by decide +kernel⟩
def f_way_by_table (K : PySem.W.Frag) : List D → D → Prop := fun as d => ∃ (t : VaidxBase.Table) (q : VaidxBase.Question) (w : Nat), as = [tD K t, qD K q] ∧ Qw w q ∧ d = wD K ⟨q, t.groups.zipIdx, (VaidxBase.orderLeft q).isEmpty, 2, none⟩
abbrev sp_way_by_table (K : PySem.W.Frag) (TT : List NTab) : Sp := SpP K TT (f_way_by_table K)
theorem len_way_by_table : ∀ (as : List D) d, f_way_by_table K as d → as.length = 2 := by
  intro as d h
  obtain ⟨_, _, _, rfl, _⟩ := h; rfl
theorem ok_way_by_table (T : Txt K mg) : DefOk P w K mg base CX0 5 ("way_by_table", none) ["table", "question"] (sp_way_by_table K TT) := by
  obtain ⟨⟨fd_is_free_by_table, F_is_free_by_table, b_is_free_by_table⟩, kp_is_free_by_table⟩ := ok_is_free_by_table (P := P) (w := w) (base := base) (TT := TT) T
  obtain ⟨⟨fd_Way_init, F_Way_init, b_Way_init⟩, kp_Way_init⟩ := ok_Way_init (P := P) (w := w) (base := base) (TT := TT) T
  obtain ⟨fd, F⟩ := T.def_ (i := 61) (d := d_way_by_table) rfl
  refine ⟨⟨fd, FunD.ok F sc_way_by_table (sp_lenP (n := 2) len_way_by_table) (fun cdv A outer s H vs Q E hr h => ?_), F.bindsN fun _ _ _ _ _ _ us hl => match us, hl with | [_, _], _ => rfl⟩, F.kp⟩
  refine ⟨_, PSs.nox (pss_one (ps_ret (pe_make T.mkr_Way F_Way_init (hr.mono (by decide)) rfl T.glo_Way b_Way_init .nil pass0 (pa_cons (pv 1) (pa_cons (pe_fld (pv 0) rfl) (pa_cons (pe_call F_is_free_by_table (hr.mono (by decide)) rfl T.glo_is_free_by_table kp_is_free_by_table b_is_free_by_table .nil pass0 (pa_cons (pv 1) pa_nil)) (pa_cons (pe_gI rfl T.int_TABLE_TOUCH_COST) (pa_cons pe_non pa_nil)))))))), ?_⟩
  refine body_P 2 rfl (fun as d h => by rw [len_way_by_table as d h]; decide) (fun B as d hK hT hf => ?_) vs H Q E h
  subst hK hT

  obtain ⟨t, q, w, rfl, hq, rfl⟩ := hf
  refine ex_ret (ev_make (f := f_Way_init B.K) (ea_cons (ev_var (i := 1) rfl) (ea_cons (ev_fld (ev_var (i := 0) rfl) T.cls_Table T.n_Table_groups rfl) (ea_cons (ev_call (f := f_is_free_by_table _) (ea_cons (ev_var (i := 1) rfl) ea_nil) ⟨q, rfl, hq.nd, hq.fl, hq.ol, rfl⟩) (ea_cons (ev_int (i := 2)) (ea_cons ev_non ea_nil))))) ⟨_, _, _, _, _, rfl, rfl, rfl, rfl⟩) rfl
abbrev N_steps_of : List Str := ["way", "found_at_end", "missing", "steps", "group", "is_found", "touched", "looked_up"]
theorem sc_steps_of : FnScope N_steps_of ["way"] (defScope s_steps_of) := ⟨rfl, rfl, rfl, by decide +kernel, rfl, by decide +kernel, by decide +kernel⟩
def f_steps_of (K : PySem.W.Frag) : List D → D → Prop := fun as d => ∃ (y : Wy) (w : Nat), as = [wD K y] ∧ Ww w y ∧ d = ssD K (y.steps y.gs y.stop)
abbrev sp_steps_of (K : PySem.W.Frag) (TT : List NTab) : Sp := SpP K TT (f_steps_of K)
theorem len_steps_of : ∀ (as : List D) d, f_steps_of K as d → as.length = 1 := by
  intro as d h
  obtain ⟨_, _, rfl, _⟩ := h; rfl
theorem ok_steps_of (T : Txt K mg) : DefOk P w K mg base CX0 4 ("steps_of", none) ["way"] (sp_steps_of K TT) := by
  obtain ⟨⟨fd_Way_finds, F_Way_finds, b_Way_finds⟩, kp_Way_finds⟩ := ok_Way_finds (P := P) (w := w) (base := base) (TT := TT) T
  obtain ⟨⟨fd_Way_found_at_end, F_Way_found_at_end, b_Way_found_at_end⟩, kp_Way_found_at_end⟩ := ok_Way_found_at_end (P := P) (w := w) (base := base) (TT := TT) T
  obtain ⟨⟨fd_Way_looks_up, F_Way_looks_up, b_Way_looks_up⟩, kp_Way_looks_up⟩ := ok_Way_looks_up (P := P) (w := w) (base := base) (TT := TT) T
  obtain ⟨⟨fd_Step_init, F_Step_init, b_Step_init⟩, kp_Step_init⟩ := ok_Step_init (P := P) (w := w) (base := base) (TT := TT) T
  obtain ⟨fd, F⟩ := T.def_ (i := 2) (d := d_steps_of) rfl
  refine ⟨⟨fd, FunD.ok F sc_steps_of (sp_lenP (n := 1) len_steps_of) (fun cdv A outer s H vs Q E hr h => ?_), F.bindsN fun _ _ _ _ _ _ us hl => match us, hl with | [_], _ => rfl⟩, F.kp⟩
  refine ⟨_, PSs.nox (pss_cons (ps_set (i := 1) sc_steps_of.nd rfl (Or.inl rfl) (pe_meth0 (pv 0) T.cls_Way T.meth_Way_found_at_end F_Way_found_at_end (hr.mono (by decide)) b_Way_found_at_end .nil pass0))
    (pss_cons (ps_set (i := 2) sc_steps_of.nd rfl (Or.inl rfl) (pv 1))
    (pss_cons (ps_set (i := 3) sc_steps_of.nd rfl (Or.inl rfl) (pe_lst pa_nil))
    (pss_cons (ps_for PassesOwn.never rfl (pi_list (pe_fld (pv 0) rfl)) (pg_name (i := 4) sc_steps_of.nd rfl (Or.inl rfl))
    (pss_cons (ps_set (i := 5) sc_steps_of.nd rfl (Or.inl rfl) (pe_meth (pv 0) T.cls_Way T.meth_Way_finds F_Way_finds (hr.mono (by decide)) b_Way_finds .nil pass0 (pa_cons (pv 4) pa_nil)))
    (pss_cons (ps_set (i := 6) sc_steps_of.nd rfl (Or.inl rfl) (pe_fld (pv 4) rfl))
    (pss_cons (ps_if (PW.pt (pw_and (pt_cmpR op_gt (pv 1) pe_int (nomark _)) (pw_and1 (pt_val (pv 5))))) (pss_cons (ps_set (i := 6) sc_steps_of.nd rfl (Or.inl rfl) (pe_callB (call_min2 rfl) (by rfl) T.free_min (by decide +kernel) (pa_cons (pv 6) (pa_cons (pv 2) pa_nil))))
    (pss_one (ps_aug (i := 2) sc_steps_of.nd rfl (Or.inl rfl) (pv 6) ip_sub))) pss_nil)
    (pss_cons (ps_set (i := 7) sc_steps_of.nd rfl (Or.inl rfl) (pe_ifExp (pt_val (pe_meth (pv 0) T.cls_Way T.meth_Way_looks_up F_Way_looks_up (hr.mono (by decide)) b_Way_looks_up .nil pass0 (pa_cons (pv 4) pa_nil))) (pv 6) pe_int))
    (pss_cons (ps_expr (pe_bm PySem.F.plainAttrs_list PySem.F.slot_list_append PySem.F.type_list_append mt_append (pv 3) (pa_cons (pe_make T.mkr_Step F_Step_init (hr.mono (by decide)) rfl T.glo_Step b_Step_init .nil pass0 (pa_cons (pv 4) (pa_cons (pv 6) (pa_cons (pv 7) (pa_cons (pe_ifExp (pt_val (pv 5)) (pv 6) pe_int) pa_nil))))) pa_nil)))
    (pss_one (ps_if (PW.pt (pw_and (pt_cmpR op_gt (pv 1) pe_int (nomark _)) (pw_and1 (pt_cmpR op_eq (pv 2) pe_int (nomark _))))) (pss_one ps_break) pss_nil))))))))
    (pss_one (ps_ret (pv 3))))))), ?_⟩
  refine body_P 8 rfl (fun as d h => by rw [len_steps_of as d h]; decide) (fun B as d hK hT hf => ?_) vs H Q E h
  subst hK hT

  obtain ⟨y, w, rfl, hw, rfl⟩ := hf
  refine ex_seq (ex_set (ev_meth (f := f_Way_found_at_end _) (ev_var (i := 0) rfl) rfl ea_nil ⟨y, rfl, rfl⟩) (of_decide_eq_true rfl) ?_)
  refine ex_seq (ex_set (ev_var (i := 1) rfl) (of_decide_eq_true rfl) ?_)
  refine ex_seq (ex_setO (eo_lst ea_nil (of_decide_eq_true rfl)) (of_decide_eq_true rfl) ?_)
  refine ex_seq (ex_for (l := y.gs) (enc := gD B.K) (ev_fld (ev_var (i := 0) rfl) T.cls_Way T.n_Way_groups rfl) (fun n e2 => ∃ (m : Nat) (acc : List Sp1) (x4 x5 x6 x7 : Option Ent), e2 = [some (.val (wD B.K y)), some (.val (nD y.stop)), some (.val (nD m)), some (.own (.lst (acc.map (sD B.K)))), x4, x5, x6, x7] ∧ acc.length = n ∧ y.steps y.gs y.stop = acc ++ y.steps (y.gs.drop n) m) ⟨y.stop, [], none, none, none, none, rfl, rfl, rfl⟩ ?_ ?_ ?_)
  · rintro n e2 ⟨m, acc, x4, x5, x6, x7, rfl, _, _⟩
    exact of_decide_eq_true rfl
  · rintro n g e2 hi ⟨m, acc, x4, x5, x6, x7, rfl, hl, iv⟩
    have hg := hw.gs g (List.mem_of_getElem? hi)
    have hn : n < 12 := Nat.lt_of_lt_of_le (List.getElem?_eq_some_iff.mp hi).1 hw.gl
    rw [drop_some hi, Wy.steps] at iv
    refine ex_seq (ex_set (ev_meth (f := f_Way_finds _) (ev_var (i := 0) rfl) rfl (ea_cons (ev_var (i := 4) (d := gD B.K g) rfl) ea_nil) ⟨y, g, w, rfl, hw, hg, rfl⟩) (of_decide_eq_true rfl) ?_)
    refine ex_seq (ex_set (ev_fld (ev_var (i := 4) (d := gD B.K g) rfl) T.cls_Group T.n_Group_size rfl) (of_decide_eq_true rfl) ?_)
    refine ex_mid [some (.val (wD B.K y)), some (.val (nD y.stop)), some (.val (nD (y.left g m))), some (.own (.lst (acc.map (sD B.K)))), some (.val (gD B.K g)), some (.val (.bl (y.finds g.1.row))), some (.val (nD (y.take g m))), x7] ?_ ?_
    · refine ex_if (c := decide (0 < y.stop) && y.finds g.1.row) (et_and (et_eq (et_test (ev_ib (ev_var (i := 1) rfl) (ev_int (i := 0)))) (dec_gt0 _)) (fun _ => et_B (ev_var (i := 5) rfl))) (fun h => ?_) (fun h => ex_next ?_)
      · have q1 : y.take g m = min g.1.count m := if_pos h
        have q2 : y.left g m = m - min g.1.count m := by unfold Wy.left; rw [if_pos h, q1]
        refine ex_seq (ex_set (d := nD (y.take g m)) (ev_eq (ev_min (ev_var (i := 6) rfl) (ev_var (i := 2) rfl)) (by rw [q1]; exact congrArg D.int (min_nat _ _))) (of_decide_eq_true rfl) ?_)
        refine ex_augE (f := fun a b => a - b) (a := (m : Int)) (b := (y.take g m : Nat)) (d := nD (y.left g m)) rfl (ev_var (i := 6) rfl) (of_decide_eq_true rfl) ?_ rfl
        rw [q1, q2]
        exact congrArg D.int (by omega)
      · have h' : ¬ (decide (0 < y.stop) && y.finds g.1.row) = true := by rw [h]; decide
        have q1 : y.take g m = g.1.count := if_neg h'
        have q2 : y.left g m = m := if_neg h'
        rw [q1, q2]
        rfl
    · refine ex_seq (ex_set (d := nD (if y.looks g.1.row = true then y.take g m else 0)) (ev_eq (ev_if2 (et_B (ev_meth (f := f_Way_looks_up _) (ev_var (i := 0) rfl) rfl (ea_cons (ev_var (i := 4) rfl) ea_nil) ⟨y, g, w, rfl, hw, hg, rfl⟩)) (fun _ => (ev_var (i := 6) rfl)) (fun _ => ev_int (i := 0))) (if_int rfl rfl)) (of_decide_eq_true rfl) ?_)
      refine ex_seq (ex_app rfl (evx_ok (ev_make (f := f_Step_init B.K) (ea_cons (ev_var (i := 4) rfl) (ea_cons (ev_var (i := 6) rfl) (ea_cons (ev_var (i := 7) rfl) (ea_cons (ev_eq (ev_if2 (et_B (ev_var (i := 5) rfl)) (fun _ => (ev_var (i := 6) rfl)) (fun _ => ev_int (i := 0))) (if_int (x := y.take g m) (y := 0) rfl rfl)) ea_nil)))) ⟨_, _, _, _, rfl, rfl, rfl, rfl⟩)) rfl (by rw [List.length_map]; omega) fun d z => ?_)
      cases z
      have ea : acc.map (sD B.K) ++ [sD B.K (y.step g m)] = (acc ++ [y.step g m]).map (sD B.K) := by rw [List.map_append]; rfl
      refine ex_if (c := decide (0 < y.stop) && decide (y.left g m = 0)) (et_and (et_eq (et_test (ev_ib (ev_var (i := 1) rfl) (ev_int (i := 0)))) (dec_gt0 _)) (fun _ => et_eq (et_test (ev_eqI (ev_var (i := 2) rfl) (ev_int (i := 0)))) (dec_eq (y.left g m) 0))) (fun h => ?_) (fun h => ex_next ?_)
      · rw [h, if_pos rfl] at iv
        refine ex_brk (ex_ret (ev_own rfl) ?_)
        show D.lst (acc.map (sD B.K) ++ [sD B.K (y.step g m)]) = ssD B.K _
        rw [iv, ea]
        rfl
      · rw [h, if_neg (by decide)] at iv
        refine ⟨y.left g m, acc ++ [y.step g m], some (.val (gD B.K g)), some (.val (.bl (y.finds g.1.row))), some (.val (nD (y.take g m))), some (.val (nD (if y.looks g.1.row = true then y.take g m else 0))), ?_, ?_, ?_⟩
        · rw [← ea]
          rfl
        · rw [List.length_append, hl]; rfl
        · rw [iv, List.append_assoc]; rfl
  · rintro e2 ⟨m, acc, x4, x5, x6, x7, rfl, hl, iv⟩
    rw [List.drop_length, Wy.steps, List.append_nil] at iv
    refine ex_ret (ev_own rfl) ?_
    rw [iv]
    rfl
abbrev N_work_of : List Str := ["way", "steps", "touched", "step", "looked_up", "put_in_order", "cost"]
theorem sc_work_of : FnScope N_work_of ["way"] (defScope s_work_of) := ⟨rfl, rfl, rfl, by decide +kernel, rfl, by decide +kernel, by decide +kernel⟩
def f_work_of (K : PySem.W.Frag) : List D → D → Prop := fun as d => ∃ (y : Wy) (w : Nat), as = [wD K y] ∧ Ww w y ∧ d = kD K y.work
abbrev sp_work_of (K : PySem.W.Frag) (TT : List NTab) : Sp := SpP K TT (f_work_of K)
theorem len_work_of : ∀ (as : List D) d, f_work_of K as d → as.length = 1 := by
  intro as d h
  obtain ⟨_, _, rfl, _⟩ := h; rfl
theorem ok_work_of (T : Txt K mg) : DefOk P w K mg base CX0 5 ("work_of", none) ["way"] (sp_work_of K TT) := by
  obtain ⟨⟨fd_steps_of, F_steps_of, b_steps_of⟩, kp_steps_of⟩ := ok_steps_of (P := P) (w := w) (base := base) (TT := TT) T
  obtain ⟨⟨fd_Work_init, F_Work_init, b_Work_init⟩, kp_Work_init⟩ := ok_Work_init (P := P) (w := w) (base := base) (TT := TT) T
  obtain ⟨fd, F⟩ := T.def_ (i := 3) (d := d_work_of) rfl
  refine ⟨⟨fd, FunD.ok F sc_work_of (sp_lenP (n := 1) len_work_of) (fun cdv A outer s H vs Q E hr h => ?_), F.bindsN fun _ _ _ _ _ _ us hl => match us, hl with | [_], _ => rfl⟩, F.kp⟩
  refine ⟨_, PSs.nox (pss_cons (ps_set (i := 1) sc_work_of.nd rfl (Or.inl rfl) (pe_call F_steps_of (hr.mono (by decide)) rfl T.glo_steps_of kp_steps_of b_steps_of .nil pass0 (pa_cons (pv 0) pa_nil)))
    (pss_cons (ps_set (i := 2) sc_work_of.nd rfl (Or.inl rfl) (pe_callB (cr_sum rfl) (by rfl) T.free_sum (by decide +kernel) (pa_cons (pe_lc (own := [("step", 3)]) (g := gName 3) (by rfl) sc_work_of.nd (pi_list (pv 1)) (blkOk_by (own := [("step", 3)]) (N := N_work_of) (sc := defScope s_work_of) (by decide +kernel)) (fun _ _ _ _ _ => pg_name (i := 3) sc_work_of.nd rfl (Or.inl rfl)) (fun _ _ _ _ _ => by exact pts_nil) (fun _ _ _ _ _ => by exact (pe_fldB (pv 3) rfl))) pa_nil)))
    (pss_cons (ps_set (i := 4) sc_work_of.nd rfl (Or.inl rfl) (pe_callB (cr_sum rfl) (by rfl) T.free_sum (by decide +kernel) (pa_cons (pe_lc (own := [("step", 3)]) (g := gName 3) (by rfl) sc_work_of.nd (pi_list (pv 1)) (blkOk_by (own := [("step", 3)]) (N := N_work_of) (sc := defScope s_work_of) (by decide +kernel)) (fun _ _ _ _ _ => pg_name (i := 3) sc_work_of.nd rfl (Or.inl rfl)) (fun _ _ _ _ _ => by exact pts_nil) (fun _ _ _ _ _ => by exact (pe_fldB (pv 3) rfl))) pa_nil)))
    (pss_cons (ps_set (i := 5) sc_work_of.nd rfl (Or.inl rfl) (pe_ifExp (pt_val (pe_fld (pv 0) rfl)) pe_int (pe_callB (cr_sum rfl) (by rfl) T.free_sum (by decide +kernel) (pa_cons (pe_lc (own := [("step", 3)]) (g := gName 3) (by rfl) sc_work_of.nd (pi_list (pv 1)) (blkOk_by (own := [("step", 3)]) (N := N_work_of) (sc := defScope s_work_of) (by decide +kernel)) (fun _ _ _ _ _ => pg_name (i := 3) sc_work_of.nd rfl (Or.inl rfl)) (fun _ _ _ _ _ => by exact pts_nil) (fun _ _ _ _ _ => by exact (pe_fldB (pv 3) rfl))) pa_nil))))
    (pss_cons (ps_set (i := 6) sc_work_of.nd rfl (Or.inl rfl) (pe_op op_add (pe_op op_add (pe_op op_mul (pe_fld (pv 0) rfl) (pv 2)) (pe_op op_mul (pe_gI rfl T.int_LOOK_UP_COST) (pv 4))) (pe_op op_mul (pe_gI rfl T.int_SORT_COST) (pv 5))))
    (pss_one (ps_ret (pe_make T.mkr_Work F_Work_init (hr.mono (by decide)) rfl T.glo_Work b_Work_init .nil pass0 (pa_cons (pv 2) (pa_cons (pv 4) (pa_cons (pv 5) (pa_cons (pv 6) pa_nil)))))))))))), ?_⟩
  refine body_P 7 rfl (fun as d h => by rw [len_work_of as d h]; decide) (fun B as d hK hT hf => ?_) vs H Q E h
  subst hK hT

  obtain ⟨y, w, rfl, hw, rfl⟩ := hf
  have sl := steps_len y y.gs y.stop
  have gl := hw.gl
  refine ex_seq (ex_set (ev_call (f := f_steps_of _) (ea_cons (ev_var (i := 0) rfl) ea_nil) ⟨y, w, rfl, hw, rfl⟩) (of_decide_eq_true rfl) ?_)
  unfold Wy.work
  generalize y.steps y.gs y.stop = l at sl ⊢
  refine ex_seq (ex_set (d := nD (tot (l.map Sp1.touched))) (ev_eq (ev_sum (ns := l.map fun s => (s.touched : Int)) (ev_eq (ev_ofO (eo_lcM (l := l) (enc := sD B.K) (g := fun s => nD s.touched) (ev_var (i := 1) rfl) (of_decide_eq_true rfl) (by omega) fun G2 H2 s hm => (ev_fld (ev_var (i := 3) rfl) T.cls_Step T.n_Step_touched rfl))) (by rw [List.map_map]; rfl))) (congrArg D.int (sum_tot Sp1.touched l))) (of_decide_eq_true rfl) ?_)
  refine ex_seq (ex_set (d := nD (tot (l.map Sp1.looked))) (ev_eq (ev_sum (ns := l.map fun s => (s.looked : Int)) (ev_eq (ev_ofO (eo_lcM (l := l) (enc := sD B.K) (g := fun s => nD s.looked) (ev_var (i := 1) rfl) (of_decide_eq_true rfl) (by omega) fun G2 H2 s hm => (ev_fld (ev_var (i := 3) rfl) T.cls_Step T.n_Step_looked_up rfl))) (by rw [List.map_map]; rfl))) (congrArg D.int (sum_tot Sp1.looked l))) (of_decide_eq_true rfl) ?_)
  refine ex_seq (ex_set (d := nD (if y.free = true then 0 else tot (l.map Sp1.found))) (ev_eq (ev_if2 (et_B (ev_fld (ev_var (i := 0) rfl) T.cls_Way T.n_Way_free rfl)) (fun _ => ev_int (i := 0)) (fun _ => (ev_eq (ev_sum (ns := l.map fun s => (s.found : Int)) (ev_eq (ev_ofO (eo_lcM (l := l) (enc := sD B.K) (g := fun s => nD s.found) (ev_var (i := 1) rfl) (of_decide_eq_true rfl) (by omega) fun G2 H2 s hm => (ev_fld (ev_var (i := 3) rfl) T.cls_Step T.n_Step_found rfl))) (by rw [List.map_map]; rfl))) (congrArg D.int (sum_tot Sp1.found l))))) (if_int rfl rfl)) (of_decide_eq_true rfl) ?_)
  refine ex_seq (ex_set (d := nD (y.sum l).cost) (ev_eq (ev_ii (f := fun a b => a + b) (ev_ii (f := fun a b => a + b) (ev_iiC (C := CMul) (f := fun a b => a * b) (ev_fld (ev_var (i := 0) rfl) T.cls_Way T.n_Way_touch_cost rfl) (ev_var (i := 2) rfl) (.inl (by have := hw.ct; omega))) (ev_iiC (C := CMul) (f := fun a b => a * b) (ev_int (i := 4)) (ev_var (i := 4) rfl) (.inl (by decide)))) (ev_iiC (C := CMul) (f := fun a b => a * b) (ev_int (i := 3)) (ev_var (i := 5) rfl) (.inl (by decide)))) ?_) (of_decide_eq_true rfl) ?_)
  · show D.int _ = D.int ((y.sum l).cost : Nat)
    congr 1
  · refine ex_ret (ev_make (f := f_Work_init B.K) (ea_cons (ev_var (i := 2) rfl) (ea_cons (ev_var (i := 4) rfl) (ea_cons (ev_var (i := 5) rfl) (ea_cons (ev_var (i := 6) rfl) ea_nil)))) ⟨_, _, _, _, rfl, rfl, rfl, rfl⟩) rfl
abbrev N_cells_in_order : List Str := ["step", "question", "column"]
theorem sc_cells_in_order : FnScope N_cells_in_order ["step", "question"] (defScope s_cells_in_order) := ⟨rfl, rfl, rfl, by decide +kernel, rfl, by decide +kernel, by decide +kernel⟩
def f_cells_in_order (K : PySem.W.Frag) : List D → D → Prop := fun as d => ∃ (s : Sp1) (q : VaidxBase.Question) (w : Nat), as = [sD K s, qD K q] ∧ Gw w s.g ∧ Qw w q ∧ d = nsD (q.order.map (VaidxBase.valueAt s.g.1.row))
abbrev sp_cells_in_order (K : PySem.W.Frag) (TT : List NTab) : Sp := SpP K TT (f_cells_in_order K)
theorem len_cells_in_order : ∀ (as : List D) d, f_cells_in_order K as d → as.length = 2 := by
  intro as d h
  obtain ⟨_, _, _, rfl, _⟩ := h; rfl
theorem ok_cells_in_order (T : Txt K mg) : DefOk P w K mg base CX0 1 ("cells_in_order", none) ["step", "question"] (sp_cells_in_order K TT) := by
  obtain ⟨fd, F⟩ := T.def_ (i := 7) (d := d_cells_in_order) rfl
  refine ⟨⟨fd, FunD.ok F sc_cells_in_order (sp_lenP (n := 2) len_cells_in_order) (fun cdv A outer s H vs Q E hr h => ?_), F.bindsN fun _ _ _ _ _ _ us hl => match us, hl with | [_, _], _ => rfl⟩, F.kp⟩
  refine ⟨_, PSs.nox (pss_one (ps_ret (pe_lc (own := [("column", 2)]) (g := gName 2) (by rfl) sc_cells_in_order.nd (pi_list (pe_fld (pv 1) rfl)) (blkOk_by (own := [("column", 2)]) (N := N_cells_in_order) (sc := defScope s_cells_in_order) (by decide +kernel)) (fun _ _ _ _ _ => pg_name (i := 2) sc_cells_in_order.nd rfl (Or.inl rfl)) (fun _ _ _ _ _ => by exact pts_nil) (fun _ _ _ _ _ => by exact (pe_ixB (pe_fldB (pe_fldB (pv 0) rfl) rfl) (pv 2) (fun _ _ => rfl)))))), ?_⟩
  refine body_P 3 rfl (fun as d h => by rw [len_cells_in_order as d h]; decide) (fun B as d hK hT hf => ?_) vs H Q E h
  subst hK hT

  obtain ⟨s, q, w, rfl, hg, hq, rfl⟩ := hf
  have ol := hq.ol
  refine ex_ret (ev_eq (ev_ofO (eo_lcM (l := q.order) (enc := nD) (g := fun c => nD (VaidxBase.valueAt s.g.1.row c)) (ev_fld (ev_var (i := 1) rfl) T.cls_Question T.n_Question_order rfl) (of_decide_eq_true rfl) (by omega) fun G2 H2 c hm => ?_)) ?_) rfl
  · exact ev_ix (j := c) (ev_fld (ev_fld (ev_var (i := 0) rfl) T.cls_Step T.n_Step_group rfl) T.cls_Group T.n_Group_cells rfl) (ev_var (i := 2) (d := .int (c : Int)) rfl) (by rw [List.getElem?_map, getD_at (by rw [hg.row]; exact hq.ord c hm)]; rfl)
  · unfold nsD
    rw [List.map_map]
    rfl
abbrev N_first_shares : List Str := ["steps", "limit", "left", "step", "shares", "taken"]
theorem sc_first_shares : FnScope N_first_shares ["steps", "limit"] (defScope s_first_shares) := ⟨rfl, rfl, rfl, by decide +kernel, rfl, by decide +kernel, by decide +kernel⟩
def f_first_shares (K : PySem.W.Frag) : List D → D → Prop := fun as d => ∃ (l : List Sp1) (n : Nat), as = [ssD K l, nD n] ∧ l.length ≤ 12 ∧ d = hsD K (shares l (limitOf l n))
abbrev sp_first_shares (K : PySem.W.Frag) (TT : List NTab) : Sp := SpP K TT (f_first_shares K)
theorem len_first_shares : ∀ (as : List D) d, f_first_shares K as d → as.length = 2 := by
  intro as d h
  obtain ⟨_, _, rfl, _⟩ := h; rfl
theorem ok_first_shares (T : Txt K mg) : DefOk P w K mg base CX0 3 ("first_shares", none) ["steps", "limit"] (sp_first_shares K TT) := by
  obtain ⟨⟨fd_Share_init, F_Share_init, b_Share_init⟩, kp_Share_init⟩ := ok_Share_init (P := P) (w := w) (base := base) (TT := TT) T
  obtain ⟨fd, F⟩ := T.def_ (i := 8) (d := d_first_shares) rfl
  refine ⟨⟨fd, FunD.ok F sc_first_shares (sp_lenP (n := 2) len_first_shares) (fun cdv A outer s H vs Q E hr h => ?_), F.bindsN fun _ _ _ _ _ _ us hl => match us, hl with | [_, _], _ => rfl⟩, F.kp⟩
  refine ⟨_, PSs.nox (pss_cons (ps_set (i := 2) sc_first_shares.nd rfl (Or.inl rfl) (pe_ifExp (pt_cmpR op_gt (pv 1) pe_int (nomark _)) (pv 1) (pe_callB (cr_sum rfl) (by rfl) T.free_sum (by decide +kernel) (pa_cons (pe_lc (own := [("step", 3)]) (g := gName 3) (by rfl) sc_first_shares.nd (pi_list (pv 0)) (blkOk_by (own := [("step", 3)]) (N := N_first_shares) (sc := defScope s_first_shares) (by decide +kernel)) (fun _ _ _ _ _ => pg_name (i := 3) sc_first_shares.nd rfl (Or.inl rfl)) (fun _ _ _ _ _ => by exact pts_nil) (fun _ _ _ _ _ => by exact (pe_fldB (pv 3) rfl))) pa_nil))))
    (pss_cons (ps_set (i := 4) sc_first_shares.nd rfl (Or.inl rfl) (pe_lst pa_nil))
    (pss_cons (ps_for PassesOwn.never rfl (pi_list (pv 0)) (pg_name (i := 3) sc_first_shares.nd rfl (Or.inl rfl))
    (pss_cons (ps_set (i := 5) sc_first_shares.nd rfl (Or.inl rfl) (pe_callB (call_min2 rfl) (by rfl) T.free_min (by decide +kernel) (pa_cons (pe_fld (pv 3) rfl) (pa_cons (pv 2) pa_nil))))
    (pss_one (ps_if (pt_cmpR op_gt (pv 5) pe_int (nomark _)) (pss_cons (ps_expr (pe_bm PySem.F.plainAttrs_list PySem.F.slot_list_append PySem.F.type_list_append mt_append (pv 4) (pa_cons (pe_make T.mkr_Share F_Share_init (hr.mono (by decide)) rfl T.glo_Share b_Share_init .nil pass0 (pa_cons (pe_fld (pv 3) rfl) (pa_cons (pv 5) pa_nil))) pa_nil)))
    (pss_one (ps_aug (i := 2) sc_first_shares.nd rfl (Or.inl rfl) (pv 5) ip_sub))) pss_nil))))
    (pss_one (ps_ret (pv 4)))))), ?_⟩
  refine body_P 6 rfl (fun as d h => by rw [len_first_shares as d h]; decide) (fun B as d hK hT hf => ?_) vs H Q E h
  subst hK hT

  obtain ⟨l, n, rfl, hl, rfl⟩ := hf
  refine ex_seq (ex_set (d := nD (limitOf l n)) (ev_eq (ev_if2 (b := decide (0 < n)) (et_eq (et_test (ev_ib (ev_var (i := 1) rfl) (ev_int (i := 0)))) (dec_gt0 _)) (fun _ => (ev_var (i := 1) rfl)) (fun _ => (ev_eq (ev_sum (ns := l.map fun s => (s.found : Int)) (ev_eq (ev_ofO (eo_lcM (l := l) (enc := sD B.K) (g := fun s => nD s.found) (ev_var (i := 0) rfl) (of_decide_eq_true rfl) (by omega) fun G2 H2 s hm => (ev_fld (ev_var (i := 3) rfl) T.cls_Step T.n_Step_found rfl))) (by rw [List.map_map]; rfl))) (congrArg D.int (sum_tot Sp1.found l))))) ?_) (of_decide_eq_true rfl) ?_)
  · refine (if_int rfl rfl).trans ?_
    unfold limitOf
    by_cases h : 0 < n
    · rw [if_pos h, if_pos (decide_eq_true h)]
    · rw [if_neg h, if_neg (by rw [decide_eq_false h]; decide)]
  refine ex_seq (ex_setO (eo_lst ea_nil (of_decide_eq_true rfl)) (of_decide_eq_true rfl) ?_)
  refine ex_seq (ex_for (l := l) (enc := sD B.K) (ev_var (i := 0) rfl) (fun i e2 => ∃ (m : Nat) (acc : List (Gr × Nat)) (x3 x5 : Option Ent), e2 = [some (.val (ssD B.K l)), some (.val (nD n)), some (.val (nD m)), x3, some (.own (.lst (acc.map (hD B.K)))), x5] ∧ acc.length ≤ i ∧ shares l (limitOf l n) = acc ++ shares (l.drop i) m) ⟨limitOf l n, [], none, none, rfl, Nat.le_refl _, rfl⟩ ?_ ?_ ?_)
  · rintro i e2 ⟨m, acc, x3, x5, rfl, _, _⟩
    exact of_decide_eq_true rfl
  · rintro i s e2 hi ⟨m, acc, x3, x5, rfl, ha, iv⟩
    have hn : i < 12 := Nat.lt_of_lt_of_le (List.getElem?_eq_some_iff.mp hi).1 hl
    rw [drop_some hi, shares] at iv
    refine ex_seq (ex_set (d := nD (min s.found m)) (ev_eq (ev_min (ev_fld (ev_var (i := 3) (d := sD B.K s) rfl) T.cls_Step T.n_Step_found rfl) (ev_var (i := 2) rfl)) (congrArg D.int (min_nat _ _))) (of_decide_eq_true rfl) ?_)
    refine ex_if (c := decide (0 < min s.found m)) (et_eq (et_test (ev_ib (ev_var (i := 5) rfl) (ev_int (i := 0)))) (dec_gt0 _)) (fun h => ?_) (fun h => ex_next ?_)
    · rw [if_pos (of_decide_eq_true h)] at iv
      refine ex_seq (ex_app rfl (evx_ok (ev_make (f := f_Share_init B.K) (ea_cons (ev_fld (ev_var (i := 3) (d := sD B.K s) rfl) T.cls_Step T.n_Step_group rfl) (ea_cons (ev_var (i := 5) rfl) ea_nil)) ⟨_, _, rfl, rfl, rfl, rfl⟩)) rfl (by rw [List.length_map]; omega) fun d z => ?_)
      cases z
      refine ex_augE (f := fun a b => a - b) (a := (m : Int)) (b := (min s.found m : Nat)) (d := nD (m - min s.found m)) rfl (ev_var (i := 5) rfl) (of_decide_eq_true rfl) (congrArg D.int (by omega)) ⟨m - min s.found m, acc ++ [(s.g, min s.found m)], some (.val (sD B.K s)), some (.val (nD (min s.found m))), ?_, ?_, ?_⟩
      · rw [List.map_append]
        rfl
      · rw [List.length_append]; simp; omega
      · rw [iv, List.append_assoc]; rfl
    · rw [if_neg (of_decide_eq_false h)] at iv
      exact ⟨m, acc, some (.val (sD B.K s)), some (.val (nD (min s.found m))), rfl, by omega, iv⟩
  · rintro e2 ⟨m, acc, x3, x5, rfl, ha, iv⟩
    rw [List.drop_length, shares, List.append_nil] at iv
    refine ex_ret (ev_own rfl) ?_
    rw [iv]
    rfl
abbrev N_group_of_each_row : List Str := ["groups", "each_row", "group"]
theorem sc_group_of_each_row : FnScope N_group_of_each_row ["groups"] (defScope s_group_of_each_row) := ⟨rfl, rfl, rfl, by decide +kernel, rfl, by decide +kernel, by decide +kernel⟩
def f_group_of_each_row (K : PySem.W.Frag) : List D → D → Prop := fun as d => ∃ (l : List Gr), as = [gsD K l] ∧ VaidxBase.rowsOf (l.map (·.1)) ≤ 1000000 ∧ d = gsD K (each l)
abbrev sp_group_of_each_row (K : PySem.W.Frag) (TT : List NTab) : Sp := SpP K TT (f_group_of_each_row K)
theorem len_group_of_each_row : ∀ (as : List D) d, f_group_of_each_row K as d → as.length = 1 := by
  intro as d h
  obtain ⟨_, rfl, _⟩ := h; rfl
theorem ok_group_of_each_row (T : Txt K mg) : DefOk P w K mg base CX0 1 ("group_of_each_row", none) ["groups"] (sp_group_of_each_row K TT) := by
  obtain ⟨fd, F⟩ := T.def_ (i := 11) (d := d_group_of_each_row) rfl
  refine ⟨⟨fd, FunD.ok F sc_group_of_each_row (sp_lenP (n := 1) len_group_of_each_row) (fun cdv A outer s H vs Q E hr h => ?_), F.bindsN fun _ _ _ _ _ _ us hl => match us, hl with | [_], _ => rfl⟩, F.kp⟩
  refine ⟨_, PSs.nox (pss_cons (ps_set (i := 1) sc_group_of_each_row.nd rfl (Or.inl rfl) (pe_lst pa_nil))
    (pss_cons (ps_for PassesOwn.never rfl (pi_list (pv 0)) (pg_name (i := 2) sc_group_of_each_row.nd rfl (Or.inl rfl))
    (pss_one (ps_expr (pe_bm PySem.F.plainAttrs_list PySem.F.slot_list_extend PySem.F.type_list_extend mt_extend (pv 1) (pa_cons (pe_op op_rep (pe_lst (pa_cons (pv 2) pa_nil)) (pe_fld (pv 2) rfl)) pa_nil)))))
    (pss_one (ps_ret (pv 1))))), ?_⟩
  refine body_P 3 rfl (fun as d h => by rw [len_group_of_each_row as d h]; decide) (fun B as d hK hT hf => ?_) vs H Q E h
  subst hK hT

  obtain ⟨l, rfl, hl, rfl⟩ := hf
  refine ex_seq (ex_setO (eo_lst ea_nil (of_decide_eq_true rfl)) (of_decide_eq_true rfl) ?_)
  refine ex_seq (ex_for (l := l) (enc := gD B.K) (ev_var (i := 0) rfl) (fun i e2 => ∃ (x2 : Option Ent), e2 = [some (.val (gsD B.K l)), some (.own (.lst ((each (l.take i)).map (gD B.K)))), x2]) ⟨none, rfl⟩ ?_ ?_ ?_)
  · rintro i e2 ⟨x2, rfl⟩
    exact of_decide_eq_true rfl
  · rintro i g e2 hi ⟨x2, rfl⟩
    have r1 : each (l.take (i + 1)) = each (l.take i) ++ List.replicate g.1.count g := by
      rw [take_more hi]
      unfold each
      rw [List.flatMap_append, List.flatMap_cons, List.flatMap_nil, List.append_nil]
    have r2 : (each (l.take (i + 1))).length ≤ 1000000 := by
      rw [each_len]
      have := rows_app (l.take (i + 1)) (l.drop (i + 1))
      rw [List.take_append_drop] at this
      omega
    rw [r1, List.length_append, List.length_replicate] at r2
    refine ex_ext (ys := (List.replicate g.1.count g).map (gD B.K)) rfl (ev_eq (ev_ofO (eo_rep (xs := [gD B.K g]) (n := g.1.count) (ev_lst (ea_cons (ev_var (i := 2) (d := gD B.K g) rfl) ea_nil) (of_decide_eq_true rfl)) (ev_fld (ev_var (i := 2) (d := gD B.K g) rfl) T.cls_Group T.n_Group_size rfl) (of_decide_eq_true rfl) (by simp; omega))) ?_) rfl ?_ ⟨some (.val (gD B.K g)), ?_⟩
    · rw [rep_flat, List.map_replicate]; rfl
    · rw [List.length_map, List.length_map, List.length_replicate]; omega
    · rw [r1, List.map_append]; rfl
  · rintro e2 ⟨x2, rfl⟩
    refine ex_ret (ev_own rfl) ?_
    rw [List.take_length]
    rfl
abbrev N_run_of : List Str := ["way", "found_at_end", "touched", "looked_up", "found_groups", "group", "put_in_order"]
theorem sc_run_of : FnScope N_run_of ["way"] (defScope s_run_of) := ⟨rfl, rfl, rfl, by decide +kernel, rfl, by decide +kernel, by decide +kernel⟩
def f_run_of (K : PySem.W.Frag) : List D → D → Prop := fun as d => ∃ (y : Wy) (w : Nat), as = [wD K y] ∧ Ww w y ∧ VaidxBase.rowsOf (y.gs.map (·.1)) ≤ 1000 ∧ d = rnD K y (y.run (each y.gs) ⟨0, 0, []⟩)
abbrev sp_run_of (K : PySem.W.Frag) (TT : List NTab) : Sp := SpP K TT (f_run_of K)
theorem len_run_of : ∀ (as : List D) d, f_run_of K as d → as.length = 1 := by
  intro as d h
  obtain ⟨_, _, rfl, _⟩ := h; rfl
theorem ok_run_of (T : Txt K mg) : DefOk P w K mg base CX0 4 ("run_of", none) ["way"] (sp_run_of K TT) := by
  obtain ⟨⟨fd_Way_finds, F_Way_finds, b_Way_finds⟩, kp_Way_finds⟩ := ok_Way_finds (P := P) (w := w) (base := base) (TT := TT) T
  obtain ⟨⟨fd_Way_found_at_end, F_Way_found_at_end, b_Way_found_at_end⟩, kp_Way_found_at_end⟩ := ok_Way_found_at_end (P := P) (w := w) (base := base) (TT := TT) T
  obtain ⟨⟨fd_Way_looks_up, F_Way_looks_up, b_Way_looks_up⟩, kp_Way_looks_up⟩ := ok_Way_looks_up (P := P) (w := w) (base := base) (TT := TT) T
  obtain ⟨⟨fd_group_of_each_row, F_group_of_each_row, b_group_of_each_row⟩, kp_group_of_each_row⟩ := ok_group_of_each_row (P := P) (w := w) (base := base) (TT := TT) T
  obtain ⟨⟨fd_Run_init, F_Run_init, b_Run_init⟩, kp_Run_init⟩ := ok_Run_init (P := P) (w := w) (base := base) (TT := TT) T
  obtain ⟨fd, F⟩ := T.def_ (i := 10) (d := d_run_of) rfl
  refine ⟨⟨fd, FunD.ok F sc_run_of (sp_lenP (n := 1) len_run_of) (fun cdv A outer s H vs Q E hr h => ?_), F.bindsN fun _ _ _ _ _ _ us hl => match us, hl with | [_], _ => rfl⟩, F.kp⟩
  refine ⟨_, PSs.nox (pss_cons (ps_set (i := 1) sc_run_of.nd rfl (Or.inl rfl) (pe_meth0 (pv 0) T.cls_Way T.meth_Way_found_at_end F_Way_found_at_end (hr.mono (by decide)) b_Way_found_at_end .nil pass0))
    (pss_cons (ps_set (i := 2) sc_run_of.nd rfl (Or.inl rfl) pe_int)
    (pss_cons (ps_set (i := 3) sc_run_of.nd rfl (Or.inl rfl) pe_int)
    (pss_cons (ps_set (i := 4) sc_run_of.nd rfl (Or.inl rfl) (pe_lst pa_nil))
    (pss_cons (ps_for PassesOwn.never rfl (pi_list (pe_call F_group_of_each_row (hr.mono (by decide)) rfl T.glo_group_of_each_row kp_group_of_each_row b_group_of_each_row .nil pass0 (pa_cons (pe_fld (pv 0) rfl) pa_nil))) (pg_name (i := 5) sc_run_of.nd rfl (Or.inl rfl))
    (pss_cons (ps_aug (i := 2) sc_run_of.nd rfl (Or.inl rfl) pe_int ip_add)
    (pss_cons (ps_if (pt_val (pe_meth (pv 0) T.cls_Way T.meth_Way_looks_up F_Way_looks_up (hr.mono (by decide)) b_Way_looks_up .nil pass0 (pa_cons (pv 5) pa_nil))) (pss_one (ps_aug (i := 3) sc_run_of.nd rfl (Or.inl rfl) pe_int ip_add)) pss_nil)
    (pss_one (ps_if (pt_val (pe_meth (pv 0) T.cls_Way T.meth_Way_finds F_Way_finds (hr.mono (by decide)) b_Way_finds .nil pass0 (pa_cons (pv 5) pa_nil))) (pss_cons (ps_expr (pe_bm PySem.F.plainAttrs_list PySem.F.slot_list_append PySem.F.type_list_append mt_append (pv 4) (pa_cons (pv 5) pa_nil)))
    (pss_one (ps_if (PW.pt (pw_and (pt_cmpR op_gt (pv 1) pe_int (nomark _)) (pw_and1 (pt_cmpR op_eq (pe_callB call_len_seq (by rfl) T.free_len PySem.boot_len (pa_cons (pv 4) pa_nil)) (pv 1) (nomark _))))) (pss_one ps_break) pss_nil))) pss_nil)))))
    (pss_cons (ps_set (i := 6) sc_run_of.nd rfl (Or.inl rfl) (pe_ifExp (pt_val (pe_fld (pv 0) rfl)) pe_int (pe_callB call_len_seq (by rfl) T.free_len PySem.boot_len (pa_cons (pv 4) pa_nil))))
    (pss_one (ps_ret (pe_make T.mkr_Run F_Run_init (hr.mono (by decide)) rfl T.glo_Run b_Run_init .nil pass0 (pa_cons (pv 2) (pa_cons (pv 3) (pa_cons (pv 6) (pa_cons (pv 4) pa_nil))))))))))))), ?_⟩
  refine body_P 7 rfl (fun as d h => by rw [len_run_of as d h]; decide) (fun B as d hK hT hf => ?_) vs H Q E h
  subst hK hT

  obtain ⟨y, w, rfl, hw, hr, rfl⟩ := hf
  refine ex_seq (ex_set (ev_meth (f := f_Way_found_at_end _) (ev_var (i := 0) rfl) rfl ea_nil ⟨y, rfl, rfl⟩) (of_decide_eq_true rfl) ?_)
  refine ex_seq (ex_set (ev_int (i := 0)) (of_decide_eq_true rfl) ?_)
  refine ex_seq (ex_set (ev_int (i := 0)) (of_decide_eq_true rfl) ?_)
  refine ex_seq (ex_setO (eo_lst ea_nil (of_decide_eq_true rfl)) (of_decide_eq_true rfl) ?_)
  have el := each_len y.gs
  refine ex_cut (fun e3 => ∃ (r : Rn) (x5 : Option Ent), e3 = [some (.val (wD B.K y)), some (.val (nD y.stop)), some (.val (nD r.touched)), some (.val (nD r.looked)), some (.own (.lst (r.hits.map (gD B.K)))), x5, none] ∧ y.run (each y.gs) ⟨0, 0, []⟩ = r) ?_ ?_
  · refine ex_for (l := each y.gs) (enc := gD B.K) (ev_call (f := f_group_of_each_row _) (ea_cons (ev_fld (ev_var (i := 0) rfl) T.cls_Way T.n_Way_groups rfl) ea_nil) ⟨y.gs, rfl, by omega, rfl⟩) (fun i e2 => ∃ (r : Rn) (x5 : Option Ent), e2 = [some (.val (wD B.K y)), some (.val (nD y.stop)), some (.val (nD r.touched)), some (.val (nD r.looked)), some (.own (.lst (r.hits.map (gD B.K)))), x5, none] ∧ r.hits.length ≤ i ∧ y.run (each y.gs) ⟨0, 0, []⟩ = y.run ((each y.gs).drop i) r) ⟨⟨0, 0, []⟩, none, rfl, Nat.le_refl _, rfl⟩ ?_ ?_ ?_
    · rintro i e2 ⟨r, x5, rfl, _, _⟩
      exact of_decide_eq_true rfl
    · rintro i g e2 hi ⟨r, x5, rfl, hl, iv⟩
      have hg := hw.gs g (each_mem (List.mem_of_getElem? hi))
      have hn : i < 1000 := Nat.lt_of_lt_of_le (List.getElem?_eq_some_iff.mp hi).1 (by omega)
      rw [drop_some hi, Wy.run] at iv
      refine ex_seq (ex_augE (f := fun a b => a + b) (a := (r.touched : Int)) (b := 1) (d := nD (r.touched + 1)) rfl ev_int (of_decide_eq_true rfl) rfl ?_)
      refine ex_mid [some (.val (wD B.K y)), some (.val (nD y.stop)), some (.val (nD (r.touched + 1))), some (.val (nD (if y.looks g.1.row = true then r.looked + 1 else r.looked))), some (.own (.lst (r.hits.map (gD B.K)))), some (.val (gD B.K g)), none] ?_ ?_
      · refine ex_if (et_B (ev_meth (f := f_Way_looks_up _) (ev_var (i := 0) rfl) rfl (ea_cons (ev_var (i := 5) (d := gD B.K g) rfl) ea_nil) ⟨y, g, w, rfl, hw, hg, rfl⟩)) (fun h => ?_) (fun h => ex_next ?_)
        · rw [h, if_pos rfl]
          exact ex_augE (f := fun a b => a + b) (a := (r.looked : Int)) (b := 1) (d := nD (r.looked + 1)) rfl ev_int (of_decide_eq_true rfl) rfl rfl
        · rw [h, if_neg (by decide)]
          rfl
      · refine ex_if (et_B (ev_meth (f := f_Way_finds _) (ev_var (i := 0) rfl) rfl (ea_cons (ev_var (i := 5) (d := gD B.K g) rfl) ea_nil) ⟨y, g, w, rfl, hw, hg, rfl⟩)) (fun h => ?_) (fun h => ex_next ?_)
        · rw [if_pos h] at iv
          have ea : r.hits.map (gD B.K) ++ [gD B.K g] = (r.hits ++ [g]).map (gD B.K) := by rw [List.map_append]; rfl
          refine ex_seq (ex_app rfl (evx_ok (ev_var (i := 5) (d := gD B.K g) rfl)) rfl (by rw [List.length_map]; omega) fun d z => ?_)
          cases z
          rw [ea]
          refine ex_if (c := decide (0 < y.stop) && decide (r.hits.length + 1 = y.stop)) (et_and (et_eq (et_test (ev_ib (ev_var (i := 1) rfl) (ev_int (i := 0)))) (dec_gt0 _)) (fun _ => et_eq (et_test (ev_eqI (ev_peek (i := 4) (o := .lst ((r.hits ++ [g]).map (gD B.K))) (d := .int (((r.hits ++ [g]).map (gD B.K)).length : Nat)) rfl rfl (fun G2 H2 => ⟨_, ev_len (ev_var (i := 4) rfl)⟩)) (ev_var (i := 1) rfl))) ?_)) (fun h => ?_) (fun h => ex_next ?_)
          · rw [List.length_map, List.length_append, List.length_singleton]
            exact dec_eq _ _
          · rw [if_pos h] at iv
            exact ex_brk ⟨⟨r.touched + 1, if y.looks g.1.row = true then r.looked + 1 else r.looked, r.hits ++ [g]⟩, some (.val (gD B.K g)), rfl, iv⟩
          · rw [h, if_neg (by decide)] at iv
            refine ⟨⟨r.touched + 1, if y.looks g.1.row = true then r.looked + 1 else r.looked, r.hits ++ [g]⟩, some (.val (gD B.K g)), rfl, ?_, iv⟩
            show (r.hits ++ [g]).length ≤ i + 1
            rw [List.length_append, List.length_singleton]
            omega
        · rw [h, if_neg (by decide)] at iv
          refine ⟨⟨r.touched + 1, if y.looks g.1.row = true then r.looked + 1 else r.looked, r.hits⟩, some (.val (gD B.K g)), rfl, ?_, iv⟩
          show r.hits.length ≤ i + 1
          omega
    · rintro e2 ⟨r, x5, rfl, hl, iv⟩
      rw [List.drop_length, Wy.run] at iv
      exact ⟨r, x5, rfl, iv⟩
  · rintro e3 ⟨r, x5, rfl, iv⟩
    rw [iv]
    refine ex_seq (ex_set (d := nD (if y.free = true then 0 else r.hits.length)) (ev_eq (ev_if2 (et_B (ev_fld (ev_var (i := 0) rfl) T.cls_Way T.n_Way_free rfl)) (fun _ => ev_int (i := 0)) (fun _ => ev_peek (i := 4) (o := .lst (r.hits.map (gD B.K))) (d := .int ((r.hits.map (gD B.K)).length : Nat)) rfl rfl (fun G2 H2 => ⟨_, ev_len (ev_var (i := 4) rfl)⟩))) (if_int rfl (by rw [List.length_map]; rfl))) (of_decide_eq_true rfl) ?_)
    refine ex_ret (ev_make (f := f_Run_init B.K) (ea_cons (ev_var (i := 2) rfl) (ea_cons (ev_var (i := 3) rfl) (ea_cons (ev_var (i := 6) rfl) (ea_cons (ev_own rfl) ea_nil)))) ⟨_, _, _, _, rfl, rfl, rfl, rfl⟩) rfl
end
end One
namespace One
open PySem PySem.Spec PyProof.Rows L2 NdefX Dl
section
variable {P : Program} {w : World} {K : PySem.W.Frag} {mg : Str → Option Value} {base : Heap} {TT : List NTab}
abbrev N_Reader_init : List Str := ["self", "numbers"]
theorem sc_Reader_init : FnScope N_Reader_init ["self", "numbers"] (defScope s_Reader_init) := ⟨rfl, rfl, rfl, by decide +kernel, rfl, by decide +kernel, by decide +kernel⟩
def f_Reader_init (K : PySem.W.Frag) : List (Str × D) → List D → Res → List (Str × D) → Prop := fun fs as r fs2 => ∃ l : List Int, fs = [] ∧ as = [.lst (l.map D.int)] ∧ r = .ok .non ∧ fs2 = rdF l 0
abbrev sp_Reader_init (K : PySem.W.Frag) (TT : List NTab) : Sp := SpB K TT (He.ga K "Refusal") (He.ga K "Reader") (f_Reader_init K)
theorem len_Reader_init : ∀ (fs : List (Str × D)) (as : List D) r fs2, f_Reader_init K fs as r fs2 → as.length + 1 = 2 := by
  intro fs as r fs2 h
  obtain ⟨_, _, rfl, _⟩ := h; rfl
theorem ok_Reader_init (T : Txt K mg) : DefOk P w K mg base CX0 1 ("Reader", some "__init__") ["self", "numbers"] (sp_Reader_init K TT) := by
  obtain ⟨fd, F⟩ := T.def_ (i := 47) (d := d_Reader_init) rfl
  refine ⟨⟨fd, FunD.ok F sc_Reader_init (sp_lenB (n := 2) len_Reader_init) (fun cdv A outer s H vs Q E hr h => ?_), F.bindsN fun _ _ _ _ _ _ us hl => match us, hl with | [_, _], _ => rfl⟩, F.kp⟩
  refine ⟨_, PSs.nox (pss_cons (ps_fld (pv 0) (pv 1) rfl)
    (pss_one (ps_fld (pv 0) pe_int rfl))), ?_⟩
  refine body_B 2 rfl (fun fs as r fs2 h => by rw [len_Reader_init fs as r fs2 h]; decide) (fun B fs as r fs2 hK hT hf hX => ?_) vs H Q h
  subst hK hT

  obtain ⟨l, rfl, rfl, rfl, rfl⟩ := hf
  refine ex_seq (ex_fld (evx_ok (ev_var (i := 1) rfl)) (i := 0) rfl rfl T.cls_Reader T.n_Reader_numbers (of_decide_eq_true rfl) (fun d q => ?_))
  cases q
  refine ex_fld (evx_ok (ev_int (i := 0))) (i := 0) rfl rfl T.cls_Reader T.n_Reader_place (of_decide_eq_true rfl) (fun d q => ?_)
  cases q
  exact ⟨rfl, rfl⟩
abbrev N_Reader_take : List Str := ["self", "low", "high", "number"]
theorem sc_Reader_take : FnScope N_Reader_take ["self", "low", "high"] (defScope s_Reader_take) := ⟨rfl, rfl, rfl, by decide +kernel, rfl, by decide +kernel, by decide +kernel⟩
def f_Reader_take (K : PySem.W.Frag) : List (Str × D) → List D → Res → List (Str × D) → Prop := fun fs as r fs2 => ∃ lo hi : Nat, as = [nD lo, nD hi] ∧ relM (tkM lo hi) nD fs r fs2
abbrev sp_Reader_take (K : PySem.W.Frag) (TT : List NTab) : Sp := SpB K TT (He.ga K "Refusal") (He.ga K "Reader") (f_Reader_take K)
theorem len_Reader_take : ∀ (fs : List (Str × D)) (as : List D) r fs2, f_Reader_take K fs as r fs2 → as.length + 1 = 3 := by
  intro fs as r fs2 h
  obtain ⟨_, _, rfl, _⟩ := h; rfl
theorem ok_Reader_take (T : Txt K mg) : DefOk P w K mg base (L2.CX P w) 5 ("Reader", some "take") ["self", "low", "high"] (sp_Reader_take K TT) := by
  obtain ⟨⟨fd_NotWhole_init, F_NotWhole_init, b_NotWhole_init⟩, _⟩ := ok_NotWhole_init (P := P) (w := w) (base := base) T
  obtain ⟨fd, F⟩ := T.def_ (i := 48) (d := d_Reader_take) rfl
  refine ⟨⟨fd, FunD.ok F sc_Reader_take (sp_lenB (n := 3) len_Reader_take) (fun cdv A outer s H vs Q E hr h => ?_), F.bindsN fun _ _ _ _ _ _ us hl => match us, hl with | [_, _, _], _ => rfl⟩, F.kp⟩
  have hx : Passes (L2.CX P w) (cxOf (L2.CX P w) P w K mg base N_Reader_take d_Reader_take.qual d_Reader_take.scope (He.fAd K d_Reader_take.at_) cdv A outer s H E) E := passes_call (takes_of rfl rfl rfl rfl) fun _ _ _ _ h => h
  refine ⟨_, (pss_cons (ps_if (pt_cmpR op_ge (pe_fld (pv 0) rfl) (pe_callB call_len_seq (by rfl) T.free_len PySem.boot_len (pa_cons (pe_fld (pv 0) rfl) pa_nil)) (nomark _)) (pss_one (ps_raise rfl (takes_of rfl rfl rfl rfl) (pmk_e T.e_NotWhole F_NotWhole_init (hr.mono (by decide)) b_NotWhole_init pass0 (by rfl) T.glo_NotWhole))) pss_nil)
    (pss_cons (ps_set (i := 3) sc_Reader_take.nd rfl (Or.inl rfl) (pe_ix ix_list (pe_fld (pv 0) rfl) (pe_fld (pv 0) rfl) (fun _ _ => rfl)))
    (pss_cons (ps_if (PW.pt (pw_or (pt_cmpR op_lt (pv 3) (pv 1) (nomark _)) (pw_or1 (pt_cmpR op_gt (pv 3) (pv 2) (nomark _))))) (pss_one (ps_raise rfl (takes_of rfl rfl rfl rfl) (pmk_e T.e_NotWhole F_NotWhole_init (hr.mono (by decide)) b_NotWhole_init pass0 (by rfl) T.glo_NotWhole))) pss_nil)
    (pss_cons (ps_fldaug (pv 0) pe_int in_add)
    (pss_one (ps_ret (pv 3))))))), ?_⟩
  refine body_B 4 rfl (fun fs as r fs2 h => by rw [len_Reader_take fs as r fs2 h]; decide) (fun B fs as r fs2 hK hT hf hX => ?_) vs H Q h
  subst hK hT

  obtain ⟨lo, hi, rfl, l, p, rfl, rfl, rfl⟩ := hf
  by_cases hp : p < l.length
  · have ge := List.getElem?_eq_getElem hp
    refine ex_seq (ex_if (c := false) (et_eq (et_test (ev_ib (i := (p : Int)) (j := (l.length : Nat)) (ev_fldS (i := 0) rfl rfl T.cls_Reader T.n_Reader_place rfl) (ev_eq (ev_len (xs := l.map D.int) (ev_fldS (i := 0) rfl rfl T.cls_Reader T.n_Reader_numbers rfl)) (congrArg (fun (n : Nat) => D.int (n : Int)) (List.length_map _))))) (decide_eq_false (show ¬ ((l.length : Nat) : Int) ≤ (p : Int) by omega))) (fun h => nomatch h) (fun _ => ex_next ?_))
    refine ex_seq (ex_set (d := .int l[p]) (ev_ix (j := p) (ev_fldS (i := 0) rfl rfl T.cls_Reader T.n_Reader_numbers rfl) (ev_fldS (i := 0) rfl rfl T.cls_Reader T.n_Reader_place rfl) (by rw [List.getElem?_map, ge]; rfl)) (of_decide_eq_true rfl) ?_)
    by_cases hz : (lo : Int) ≤ l[p] ∧ l[p] ≤ (hi : Int)
    · have et : tkM lo hi l p = (some l[p].toNat, p + 1) := by unfold tkM; rw [ge]; exact if_pos hz
      refine ex_seq (ex_if (c := false) (et_eq (et_or (a := decide (l[p] < (lo : Int))) (b := decide ((hi : Int) < l[p])) (et_test (ev_ib (ev_var (i := 3) rfl) (ev_var (i := 1) rfl))) (fun _ => et_test (ev_ib (ev_var (i := 3) rfl) (ev_var (i := 2) rfl)))) (by rw [decide_eq_false (by omega), decide_eq_false (by omega)]; rfl)) (fun h => nomatch h) (fun _ => ex_next ?_))
      refine ex_seq (ex_fldAug (i := 0) (a := (p : Int)) (b := 1) rfl rfl T.cls_Reader T.n_Reader_place (of_decide_eq_true rfl) rfl ev_int ?_)
      rw [et]
      refine ex_ret (ev_var (i := 3) (d := .int l[p]) rfl) ⟨?_, rfl⟩
      show Except.ok (D.int ((l[p].toNat : Nat) : Int)) = _
      rw [Int.toNat_of_nonneg (by omega)]
    · have et : tkM lo hi l p = (none, p) := by unfold tkM; rw [ge]; exact if_neg hz
      rw [et] at hX
      refine ex_seq (ex_if (c := true) (et_eq (et_or (a := decide (l[p] < (lo : Int))) (b := decide ((hi : Int) < l[p])) (et_test (ev_ib (ev_var (i := 3) rfl) (ev_var (i := 1) rfl))) (fun _ => et_test (ev_ib (ev_var (i := 3) rfl) (ev_var (i := 2) rfl)))) ?_) (fun _ => ex_raise T.e_NotWhole T.x_NotWhole (hX (-1) rfl _ rfl)) (fun h => nomatch h))
      by_cases h1 : l[p] < (lo : Int)
      · rw [decide_eq_true h1]; rfl
      · rw [decide_eq_true (show (hi : Int) < l[p] by omega), Bool.or_true]
  · have et : tkM lo hi l p = (none, p) := by unfold tkM; rw [List.getElem?_eq_none (by omega)]
    rw [et] at hX
    exact ex_seq (ex_if (c := true) (et_eq (et_test (ev_ib (i := (p : Int)) (j := (l.length : Nat)) (ev_fldS (i := 0) rfl rfl T.cls_Reader T.n_Reader_place rfl) (ev_eq (ev_len (xs := l.map D.int) (ev_fldS (i := 0) rfl rfl T.cls_Reader T.n_Reader_numbers rfl)) (congrArg (fun (n : Nat) => D.int (n : Int)) (List.length_map _))))) (decide_eq_true (show ((l.length : Nat) : Int) ≤ (p : Int) by omega))) (fun _ => ex_raise T.e_NotWhole T.x_NotWhole (hX (-1) rfl _ rfl)) (fun h => nomatch h))
abbrev N_Reader_finish : List Str := ["self"]
theorem sc_Reader_finish : FnScope N_Reader_finish ["self"] (defScope s_Reader_finish) := ⟨rfl, rfl, rfl, by decide +kernel, rfl, by decide +kernel, by decide +kernel⟩
def f_Reader_finish (K : PySem.W.Frag) : List (Str × D) → List D → Res → List (Str × D) → Prop := fun fs as r fs2 => as = [] ∧ relM finM (fun _ => .non) fs r fs2
abbrev sp_Reader_finish (K : PySem.W.Frag) (TT : List NTab) : Sp := SpB K TT (He.ga K "Refusal") (He.ga K "Reader") (f_Reader_finish K)
theorem len_Reader_finish : ∀ (fs : List (Str × D)) (as : List D) r fs2, f_Reader_finish K fs as r fs2 → as.length + 1 = 1 := by
  intro fs as r fs2 h
  obtain ⟨rfl, _⟩ := h; rfl
theorem ok_Reader_finish (T : Txt K mg) : DefOk P w K mg base (L2.CX P w) 5 ("Reader", some "finish") ["self"] (sp_Reader_finish K TT) := by
  obtain ⟨⟨fd_NotWhole_init, F_NotWhole_init, b_NotWhole_init⟩, _⟩ := ok_NotWhole_init (P := P) (w := w) (base := base) T
  obtain ⟨fd, F⟩ := T.def_ (i := 49) (d := d_Reader_finish) rfl
  refine ⟨⟨fd, FunD.ok F sc_Reader_finish (sp_lenB (n := 1) len_Reader_finish) (fun cdv A outer s H vs Q E hr h => ?_), F.bindsN fun _ _ _ _ _ _ us hl => match us, hl with | [_], _ => rfl⟩, F.kp⟩
  have hx : Passes (L2.CX P w) (cxOf (L2.CX P w) P w K mg base N_Reader_finish d_Reader_finish.qual d_Reader_finish.scope (He.fAd K d_Reader_finish.at_) cdv A outer s H E) E := passes_call (takes_of rfl rfl rfl rfl) fun _ _ _ _ h => h
  refine ⟨_, (pss_one (ps_if (pt_cmpR op_lt (pe_fld (pv 0) rfl) (pe_callB call_len_seq (by rfl) T.free_len PySem.boot_len (pa_cons (pe_fld (pv 0) rfl) pa_nil)) (nomark _)) (pss_one (ps_raise rfl (takes_of rfl rfl rfl rfl) (pmk_e T.e_NotWhole F_NotWhole_init (hr.mono (by decide)) b_NotWhole_init pass0 (by rfl) T.glo_NotWhole))) pss_nil)), ?_⟩
  refine body_B 1 rfl (fun fs as r fs2 h => by rw [len_Reader_finish fs as r fs2 h]; decide) (fun B fs as r fs2 hK hT hf hX => ?_) vs H Q h
  subst hK hT

  obtain ⟨rfl, l, p, rfl, rfl, rfl⟩ := hf
  by_cases hp : p < l.length
  · have et : finM l p = (none, p) := if_pos hp
    rw [et] at hX
    exact ex_if (c := true) (et_eq (et_test (ev_ib (i := (p : Int)) (j := (l.length : Nat)) (ev_fldS (i := 0) rfl rfl T.cls_Reader T.n_Reader_place rfl) (ev_eq (ev_len (xs := l.map D.int) (ev_fldS (i := 0) rfl rfl T.cls_Reader T.n_Reader_numbers rfl)) (congrArg (fun (n : Nat) => D.int (n : Int)) (List.length_map _))))) (decide_eq_true (show (p : Int) < ((l.length : Nat) : Int) by omega))) (fun _ => ex_raise T.e_NotWhole T.x_NotWhole (hX (-1) rfl _ rfl)) (fun h => nomatch h)
  · have et : finM l p = (some (), p) := if_neg hp
    rw [et]
    exact ex_if (c := false) (et_eq (et_test (ev_ib (i := (p : Int)) (j := (l.length : Nat)) (ev_fldS (i := 0) rfl rfl T.cls_Reader T.n_Reader_place rfl) (ev_eq (ev_len (xs := l.map D.int) (ev_fldS (i := 0) rfl rfl T.cls_Reader T.n_Reader_numbers rfl)) (congrArg (fun (n : Nat) => D.int (n : Int)) (List.length_map _))))) (decide_eq_false (show ¬ (p : Int) < ((l.length : Nat) : Int) by omega))) (fun h => nomatch h) (fun _ => ex_next ⟨rfl, rfl⟩)
abbrev N_refuse_repeats : List Str := ["columns"]
theorem sc_refuse_repeats : FnScope N_refuse_repeats ["columns"] (defScope s_refuse_repeats) := ⟨rfl, rfl, rfl, by decide +kernel, rfl, by decide +kernel, by decide +kernel⟩
def f_refuse_repeats (K : PySem.W.Frag) : List D → Res → Prop := fun as r => ∃ cs : List Nat, as = [nsD cs] ∧ cs.length ≤ 1000 ∧ r = if cs.Nodup then .ok .non else .error (-1)
abbrev sp_refuse_repeats (K : PySem.W.Frag) (TT : List NTab) : Sp := SpX K TT (He.ga K "Refusal") (f_refuse_repeats K)
theorem len_refuse_repeats : ∀ (as : List D) d, f_refuse_repeats K as d → as.length = 1 := by
  intro as d h
  obtain ⟨_, rfl, _⟩ := h; rfl
theorem ok_refuse_repeats (T : Txt K mg) : DefOk P w K mg base (L2.CX P w) 5 ("refuse_repeats", none) ["columns"] (sp_refuse_repeats K TT) := by
  obtain ⟨⟨fd_NotWhole_init, F_NotWhole_init, b_NotWhole_init⟩, _⟩ := ok_NotWhole_init (P := P) (w := w) (base := base) T
  obtain ⟨fd, F⟩ := T.def_ (i := 52) (d := d_refuse_repeats) rfl
  refine ⟨⟨fd, FunD.ok F sc_refuse_repeats (sp_lenX (n := 1) len_refuse_repeats) (fun cdv A outer s H vs Q E hr h => ?_), F.bindsN fun _ _ _ _ _ _ us hl => match us, hl with | [_], _ => rfl⟩, F.kp⟩
  have hx : Passes (L2.CX P w) (cxOf (L2.CX P w) P w K mg base N_refuse_repeats d_refuse_repeats.qual d_refuse_repeats.scope (He.fAd K d_refuse_repeats.at_) cdv A outer s H E) E := passes_call (takes_of rfl rfl rfl rfl) fun _ _ _ _ h => h
  refine ⟨_, (pss_one (ps_if (pt_cmpR op_lt (pe_lenSetA rfl T.free_len rfl T.free_set (pv 0)) (pe_callB call_len_seq (by rfl) T.free_len PySem.boot_len (pa_cons (pv 0) pa_nil)) (nomark _)) (pss_one (ps_raise rfl (takes_of rfl rfl rfl rfl) (pmk_e T.e_NotWhole F_NotWhole_init (hr.mono (by decide)) b_NotWhole_init pass0 (by rfl) T.glo_NotWhole))) pss_nil)), ?_⟩
  refine body_X 1 rfl (fun as d h => by rw [len_refuse_repeats as d h]; decide) (fun B as r hK hT hf hX => ?_) vs H Q h
  subst hK hT

  obtain ⟨cs, rfl, hl, rfl⟩ := hf
  have le : (cs.map fun (n : Nat) => (n : Int)).length = cs.length := List.length_map _
  have nd : (cs.map fun (n : Nat) => (n : Int)).Nodup ↔ cs.Nodup := nodup_int cs
  have tst := unlike_lt (cs.map fun (n : Nat) => (n : Int))
  refine ex_if (c := !decide cs.Nodup) (et_eq (et_test (ev_ib (i := (unlike (cs.map fun (n : Nat) => (n : Int)) : Nat)) (j := (cs.length : Nat)) (ev_unlike (ns := cs.map fun (n : Nat) => (n : Int)) (ev_eq (ev_var (i := 0) rfl) (by unfold nsD; rw [map_nD])) (by omega)) (ev_eq (ev_len (xs := cs.map nD) (ev_var (i := 0) rfl)) (congrArg (fun (n : Nat) => D.int (n : Int)) (List.length_map _))))) ?_) (fun h => ?_) (fun h => ex_next ?_)
  · rw [dec_lt, ← le, tst]
    exact congrArg (! ·) (dec_nn nd)
  · have hn : ¬ cs.Nodup := by simpa using h
    rw [if_neg hn] at hX
    exact ex_raise T.e_NotWhole T.x_NotWhole (hX (-1) rfl _)
  · have hn : cs.Nodup := by simpa using h
    rw [if_pos hn]
end
end One
namespace One
open PySem PySem.Spec PyProof.Rows L2 NdefX Dl
section
variable {P : Program} {w : World} {K : PySem.W.Frag} {mg : Str → Option Value} {base : Heap} {TT : List NTab}
abbrev N_read_columns : List Str := ["reader", "width", "least", "column_count", "columns", "turn"]
theorem sc_read_columns : FnScope N_read_columns ["reader", "width", "least"] (defScope s_read_columns) := ⟨rfl, rfl, rfl, by decide +kernel, rfl, by decide +kernel, by decide +kernel⟩
def f_read_columns (K : PySem.W.Frag) : List (Str × D) → List D → Res → List (Str × D) → Prop := fun fs as r fs2 => ∃ w least : Nat, as = [nD w, nD least] ∧ 1 ≤ w ∧ w ≤ 4 ∧ relM (rCols w least) nsD fs r fs2
abbrev sp_read_columns (K : PySem.W.Frag) (TT : List NTab) : Sp := SpB K TT (He.ga K "Refusal") (He.ga K "Reader") (f_read_columns K)
theorem len_read_columns : ∀ (fs : List (Str × D)) (as : List D) r fs2, f_read_columns K fs as r fs2 → as.length + 1 = 3 := by
  intro fs as r fs2 h
  obtain ⟨_, _, rfl, _⟩ := h; rfl
theorem ok_read_columns (T : Txt K mg) : DefOk P w K mg base (L2.CX P w) 6 ("read_columns", none) ["reader", "width", "least"] (sp_read_columns K TT) := by
  obtain ⟨⟨fd_Reader_take, F_Reader_take, b_Reader_take⟩, kp_Reader_take⟩ := ok_Reader_take (P := P) (w := w) (base := base) (TT := TT) T
  obtain ⟨⟨fd_refuse_repeats, F_refuse_repeats, b_refuse_repeats⟩, kp_refuse_repeats⟩ := ok_refuse_repeats (P := P) (w := w) (base := base) (TT := TT) T
  obtain ⟨fd, F⟩ := T.def_ (i := 51) (d := d_read_columns) rfl
  refine ⟨⟨fd, FunD.ok F sc_read_columns (sp_lenB (n := 3) len_read_columns) (fun cdv A outer s H vs Q E hr h => ?_), F.bindsN fun _ _ _ _ _ _ us hl => match us, hl with | [_, _, _], _ => rfl⟩, F.kp⟩
  have hx : Passes (L2.CX P w) (cxOf (L2.CX P w) P w K mg base N_read_columns d_read_columns.qual d_read_columns.scope (He.fAd K d_read_columns.at_) cdv A outer s H E) E := passes_call (takes_of rfl rfl rfl rfl) fun _ _ _ _ h => h
  refine ⟨_, (pss_cons (ps_set (i := 3) sc_read_columns.nd rfl (Or.inl rfl) (pe_meth (pv 0) T.cls_Reader T.meth_Reader_take F_Reader_take (hr.mono (by decide)) b_Reader_take .nil hx (pa_cons (pv 2) (pa_cons (pv 1) pa_nil))))
    (pss_cons (ps_set (i := 4) sc_read_columns.nd rfl (Or.inl rfl) (pe_lst pa_nil))
    (pss_cons (ps_for (passes_of rfl) rfl (pi_range1 rfl T.free_range (pa_cons (pv 3) pa_nil)) (pg_name (i := 5) sc_read_columns.nd rfl (Or.inl rfl))
    (pss_one (ps_expr (pe_bm PySem.F.plainAttrs_list PySem.F.slot_list_append PySem.F.type_list_append mt_append (pv 4) (pa_cons (pe_meth (pv 0) T.cls_Reader T.meth_Reader_take F_Reader_take (hr.mono (by decide)) b_Reader_take .nil hx (pa_cons pe_int (pa_cons (pe_op op_sub (pv 1) pe_int) pa_nil))) pa_nil)))))
    (pss_cons (ps_expr (pe_call F_refuse_repeats (hr.mono (by decide)) rfl T.glo_refuse_repeats kp_refuse_repeats b_refuse_repeats .nil hx (pa_cons (pv 4) pa_nil)))
    (pss_one (ps_ret (pv 4))))))), ?_⟩
  refine body_B 6 rfl (fun fs as r fs2 h => by rw [len_read_columns fs as r fs2 h]; decide) (fun B fs as r fs2 hK hT hf hX => ?_) vs H Q h
  subst hK hT

  obtain ⟨w, least, rfl, hw1, hw4, l, p, rfl, rfl, rfl⟩ := hf
  have hE : ∀ q, rCols w least l p = (none, q) → ∀ e' : En, e'[0]? = some (some (.bor (.obj (He.ga B.K "Reader") (rdF l q)))) → Xo B (He.ga B.K "Refusal") E (-1) e' := fun q z => by rw [z] at hX; exact hX (-1) rfl

  refine ex_seq (ex_setM (mx_meth (f := f_Reader_take B.K) (m := tkM least w) (enc := nD) (l := l) (p := p) (ea_cons (ev_var (i := 2) rfl) (ea_cons (ev_var (i := 1) rfl) ea_nil)) rfl rfl rfl rfl ⟨least, w, rfl, l, p, rfl, rfl, rfl⟩) (of_decide_eq_true rfl) (fun q z => hE q (bnd_none z) _ rfl) (fun n p1 z1 => ?_))
  have iv : rCols w least l p = bnd (rep (colStep w) n 0 []) colEnd l p1 := bnd_some z1
  have hn := tkM_le z1
  refine ex_seq (ex_setO (eo_lst ea_nil (of_decide_eq_true rfl)) (of_decide_eq_true rfl) ?_)
  refine ex_seq (ex_range (n := n) (ev_var (i := 3) rfl) (by omega) (fun i e2 => ∃ (cs : List Nat) (p2 : Nat) (x5 : Option Ent), e2 = [some (.bor (.obj (He.ga B.K "Reader") (rdF l p2))), some (.val (nD w)), some (.val (nD least)), some (.val (nD n)), some (.own (.lst (cs.map nD))), x5] ∧ cs.length = i ∧ rCols w least l p = bnd (rep (colStep w) (n - i) i cs) colEnd l p2) ⟨[], p1, none, rfl, rfl, iv⟩ ?_ ?_ ?_)
  · rintro i e2 ⟨cs, p2, x5, rfl, _, _⟩
    exact of_decide_eq_true rfl
  · rintro i e2 hi ⟨cs, p2, x5, rfl, hc, iv⟩
    rw [rep_more hi] at iv
    refine ex_appM (xs := cs.map nD) (mx_meth (f := f_Reader_take B.K) (m := tkM 0 (w - 1)) (enc := nD) (l := l) (p := p2) (ea_cons (ev_nat 0 (by decide)) (ea_cons (ev_eq (ev_ii (f := fun a b => a - b) (ev_var (i := 1) rfl) (ev_int (i := 1))) (show D.int _ = nD (w - 1) from congrArg D.int (by omega))) ea_nil)) rfl rfl rfl rfl ⟨0, (w - 1), rfl, l, p2, rfl, rfl, rfl⟩) rfl (fun q => rfl) (by rw [List.length_map]; omega) (fun q z => hE q (iv.trans (bnd_none (bnd_none (bnd_none z)))) _ rfl) (fun c q z => ⟨cs ++ [c], q, some (.val (.int (i : Int))), ?_, ?_, iv.trans (bnd_step (bnd_some (bnd_some z)))⟩)
    · rw [List.map_append]; rfl
    · rw [List.length_append, hc]; rfl
  · rintro e2 ⟨cs, p2, x5, rfl, hc, iv⟩
    rw [Nat.sub_self] at iv
    have iv : rCols w least l p = colEnd cs l p2 := iv
    unfold colEnd at iv
    by_cases hn : cs.Nodup
    · rw [if_pos hn] at iv
      have iv : rCols w least l p = (some cs, p2) := iv
      refine ex_seq (ex_drop (ev_x (ev_callX (f := f_refuse_repeats B.K) (r := .ok .non) (ea_cons (ev_own (i := 4) rfl) ea_nil) ⟨cs, rfl, by omega, (if_pos hn).symm⟩ (fun n z => nomatch z))) ?_)
      rw [iv]
      exact ex_ret (ev_var (i := 4) rfl) ⟨rfl, rfl⟩
    · rw [if_neg hn] at iv
      exact ex_seq (exE_drop (evE_x (n := -1) (ev_callX (f := f_refuse_repeats B.K) (r := .error (-1)) (ea_cons (ev_own (i := 4) rfl) ea_nil) ⟨cs, rfl, by omega, (if_neg hn).symm⟩ (fun n z => by cases z; exact hE p2 iv _ rfl))))
abbrev N_read_filter : List Str := ["reader", "width", "column", "low", "high"]
theorem sc_read_filter : FnScope N_read_filter ["reader", "width"] (defScope s_read_filter) := ⟨rfl, rfl, rfl, by decide +kernel, rfl, by decide +kernel, by decide +kernel⟩
def f_read_filter (K : PySem.W.Frag) : List (Str × D) → List D → Res → List (Str × D) → Prop := fun fs as r fs2 => ∃ w : Nat, as = [nD w] ∧ 1 ≤ w ∧ w ≤ 4 ∧ relM (rFilter w) (fD K) fs r fs2
abbrev sp_read_filter (K : PySem.W.Frag) (TT : List NTab) : Sp := SpB K TT (He.ga K "Refusal") (He.ga K "Reader") (f_read_filter K)
theorem len_read_filter : ∀ (fs : List (Str × D)) (as : List D) r fs2, f_read_filter K fs as r fs2 → as.length + 1 = 2 := by
  intro fs as r fs2 h
  obtain ⟨_, rfl, _⟩ := h; rfl
theorem ok_read_filter (T : Txt K mg) : DefOk P w K mg base (L2.CX P w) 6 ("read_filter", none) ["reader", "width"] (sp_read_filter K TT) := by
  obtain ⟨⟨fd_Reader_take, F_Reader_take, b_Reader_take⟩, kp_Reader_take⟩ := ok_Reader_take (P := P) (w := w) (base := base) (TT := TT) T
  obtain ⟨⟨fd_Filter_init, F_Filter_init, b_Filter_init⟩, kp_Filter_init⟩ := ok_Filter_init (P := P) (w := w) (base := base) (TT := TT) T
  obtain ⟨fd, F⟩ := T.def_ (i := 53) (d := d_read_filter) rfl
  refine ⟨⟨fd, FunD.ok F sc_read_filter (sp_lenB (n := 2) len_read_filter) (fun cdv A outer s H vs Q E hr h => ?_), F.bindsN fun _ _ _ _ _ _ us hl => match us, hl with | [_, _], _ => rfl⟩, F.kp⟩
  have hx : Passes (L2.CX P w) (cxOf (L2.CX P w) P w K mg base N_read_filter d_read_filter.qual d_read_filter.scope (He.fAd K d_read_filter.at_) cdv A outer s H E) E := passes_call (takes_of rfl rfl rfl rfl) fun _ _ _ _ h => h
  refine ⟨_, (pss_cons (ps_set (i := 2) sc_read_filter.nd rfl (Or.inl rfl) (pe_meth (pv 0) T.cls_Reader T.meth_Reader_take F_Reader_take (hr.mono (by decide)) b_Reader_take .nil hx (pa_cons pe_int (pa_cons (pe_op op_sub (pv 1) pe_int) pa_nil))))
    (pss_cons (ps_set (i := 3) sc_read_filter.nd rfl (Or.inl rfl) (pe_meth (pv 0) T.cls_Reader T.meth_Reader_take F_Reader_take (hr.mono (by decide)) b_Reader_take .nil hx (pa_cons pe_int (pa_cons (pe_gI rfl T.int_TOP_VALUE) pa_nil))))
    (pss_cons (ps_set (i := 4) sc_read_filter.nd rfl (Or.inl rfl) (pe_meth (pv 0) T.cls_Reader T.meth_Reader_take F_Reader_take (hr.mono (by decide)) b_Reader_take .nil hx (pa_cons (pv 3) (pa_cons (pe_gI rfl T.int_TOP_VALUE) pa_nil))))
    (pss_one (ps_ret (pe_make T.mkr_Filter F_Filter_init (hr.mono (by decide)) rfl T.glo_Filter b_Filter_init .nil pass0 (pa_cons (pv 2) (pa_cons (pv 3) (pa_cons (pv 4) pa_nil))))))))), ?_⟩
  refine body_B 5 rfl (fun fs as r fs2 h => by rw [len_read_filter fs as r fs2 h]; decide) (fun B fs as r fs2 hK hT hf hX => ?_) vs H Q h
  subst hK hT

  obtain ⟨w, rfl, hw1, hw4, l, p, rfl, rfl, rfl⟩ := hf
  have hE : ∀ q, rFilter w l p = (none, q) → ∀ e' : En, e'[0]? = some (some (.bor (.obj (He.ga B.K "Reader") (rdF l q)))) → Xo B (He.ga B.K "Refusal") E (-1) e' := fun q z => by rw [z] at hX; exact hX (-1) rfl

  refine ex_seq (ex_setM (mx_meth (f := f_Reader_take B.K) (m := tkM 0 (w - 1)) (enc := nD) (l := l) (p := p) (ea_cons (ev_nat 0 (by decide)) (ea_cons (ev_eq (ev_ii (f := fun a b => a - b) (ev_var (i := 1) rfl) (ev_int (i := 1))) (show D.int _ = nD (w - 1) from congrArg D.int (by omega))) ea_nil)) rfl rfl rfl rfl ⟨0, (w - 1), rfl, l, p, rfl, rfl, rfl⟩) (of_decide_eq_true rfl) (fun q z => hE q (bnd_none z) _ rfl) (fun c p1 z1 => ?_))
  have iv : rFilter w l p = _ := bnd_some z1
  refine ex_seq (ex_setM (mx_meth (f := f_Reader_take B.K) (m := tkM 0 9) (enc := nD) (l := l) (p := p1) (ea_cons (ev_nat 0 (by decide)) (ea_cons (ev_nat 9 (by decide)) ea_nil)) rfl rfl rfl rfl ⟨0, 9, rfl, l, p1, rfl, rfl, rfl⟩) (of_decide_eq_true rfl) (fun q z => hE q (iv.trans (bnd_none z)) _ rfl) (fun lo p2 z2 => ?_))
  have iv := iv.trans (bnd_some z2)
  refine ex_seq (ex_setM (mx_meth (f := f_Reader_take B.K) (m := tkM lo 9) (enc := nD) (l := l) (p := p2) (ea_cons (ev_var (i := 3) rfl) (ea_cons (ev_nat 9 (by decide)) ea_nil)) rfl rfl rfl rfl ⟨lo, 9, rfl, l, p2, rfl, rfl, rfl⟩) (of_decide_eq_true rfl) (fun q z => hE q (iv.trans (bnd_none z)) _ rfl) (fun hi p3 z3 => ?_))
  have iv := iv.trans (bnd_some z3)
  have iv : rFilter w l p = (some ⟨c, lo, hi⟩, p3) := iv
  rw [iv]
  exact ex_ret (ev_make (f := f_Filter_init B.K) (ea_cons (ev_var (i := 2) rfl) (ea_cons (ev_var (i := 3) rfl) (ea_cons (ev_var (i := 4) rfl) ea_nil))) ⟨_, _, _, rfl, rfl, rfl, rfl⟩) ⟨rfl, rfl⟩
abbrev N_read_filters : List Str := ["reader", "width", "filter_count", "filters", "turn", "each"]
theorem sc_read_filters : FnScope N_read_filters ["reader", "width"] (defScope s_read_filters) := ⟨rfl, rfl, rfl, by decide +kernel, rfl, by decide +kernel, by decide +kernel⟩
def f_read_filters (K : PySem.W.Frag) : List (Str × D) → List D → Res → List (Str × D) → Prop := fun fs as r fs2 => ∃ w : Nat, as = [nD w] ∧ 1 ≤ w ∧ w ≤ 4 ∧ relM (rFilters w) (fsD K) fs r fs2
abbrev sp_read_filters (K : PySem.W.Frag) (TT : List NTab) : Sp := SpB K TT (He.ga K "Refusal") (He.ga K "Reader") (f_read_filters K)
theorem len_read_filters : ∀ (fs : List (Str × D)) (as : List D) r fs2, f_read_filters K fs as r fs2 → as.length + 1 = 2 := by
  intro fs as r fs2 h
  obtain ⟨_, rfl, _⟩ := h; rfl
theorem ok_read_filters (T : Txt K mg) : DefOk P w K mg base (L2.CX P w) 7 ("read_filters", none) ["reader", "width"] (sp_read_filters K TT) := by
  obtain ⟨⟨fd_Reader_take, F_Reader_take, b_Reader_take⟩, kp_Reader_take⟩ := ok_Reader_take (P := P) (w := w) (base := base) (TT := TT) T
  obtain ⟨⟨fd_read_filter, F_read_filter, b_read_filter⟩, kp_read_filter⟩ := ok_read_filter (P := P) (w := w) (base := base) (TT := TT) T
  obtain ⟨⟨fd_refuse_repeats, F_refuse_repeats, b_refuse_repeats⟩, kp_refuse_repeats⟩ := ok_refuse_repeats (P := P) (w := w) (base := base) (TT := TT) T
  obtain ⟨fd, F⟩ := T.def_ (i := 54) (d := d_read_filters) rfl
  refine ⟨⟨fd, FunD.ok F sc_read_filters (sp_lenB (n := 2) len_read_filters) (fun cdv A outer s H vs Q E hr h => ?_), F.bindsN fun _ _ _ _ _ _ us hl => match us, hl with | [_, _], _ => rfl⟩, F.kp⟩
  have hx : Passes (L2.CX P w) (cxOf (L2.CX P w) P w K mg base N_read_filters d_read_filters.qual d_read_filters.scope (He.fAd K d_read_filters.at_) cdv A outer s H E) E := passes_call (takes_of rfl rfl rfl rfl) fun _ _ _ _ h => h
  refine ⟨_, (pss_cons (ps_set (i := 2) sc_read_filters.nd rfl (Or.inl rfl) (pe_meth (pv 0) T.cls_Reader T.meth_Reader_take F_Reader_take (hr.mono (by decide)) b_Reader_take .nil hx (pa_cons pe_int (pa_cons (pv 1) pa_nil))))
    (pss_cons (ps_set (i := 3) sc_read_filters.nd rfl (Or.inl rfl) (pe_lst pa_nil))
    (pss_cons (ps_for (passes_of rfl) rfl (pi_range1 rfl T.free_range (pa_cons (pv 2) pa_nil)) (pg_name (i := 4) sc_read_filters.nd rfl (Or.inl rfl))
    (pss_one (ps_expr (pe_bm PySem.F.plainAttrs_list PySem.F.slot_list_append PySem.F.type_list_append mt_append (pv 3) (pa_cons (pe_call F_read_filter (hr.mono (by decide)) rfl T.glo_read_filter kp_read_filter b_read_filter .nil hx (pa_cons (pv 0) (pa_cons (pv 1) pa_nil))) pa_nil)))))
    (pss_cons (ps_expr (pe_call F_refuse_repeats (hr.mono (by decide)) rfl T.glo_refuse_repeats kp_refuse_repeats b_refuse_repeats .nil hx (pa_cons (pe_lc (own := [("each", 5)]) (g := gName 5) (by rfl) sc_read_filters.nd (pi_list (pv 3)) (blkOk_by (own := [("each", 5)]) (N := N_read_filters) (sc := defScope s_read_filters) (by decide +kernel)) (fun _ _ _ _ _ => pg_name (i := 5) sc_read_filters.nd rfl (Or.inl rfl)) (fun _ _ _ _ _ => by exact pts_nil) (fun _ _ _ _ _ => by exact (pe_fldB (pv 5) rfl))) pa_nil)))
    (pss_one (ps_ret (pv 3))))))), ?_⟩
  refine body_B 6 rfl (fun fs as r fs2 h => by rw [len_read_filters fs as r fs2 h]; decide) (fun B fs as r fs2 hK hT hf hX => ?_) vs H Q h
  subst hK hT

  obtain ⟨w, rfl, hw1, hw4, l, p, rfl, rfl, rfl⟩ := hf
  have hE : ∀ q, rFilters w l p = (none, q) → ∀ e' : En, e'[0]? = some (some (.bor (.obj (He.ga B.K "Reader") (rdF l q)))) → Xo B (He.ga B.K "Refusal") E (-1) e' := fun q z => by rw [z] at hX; exact hX (-1) rfl

  refine ex_seq (ex_setM (mx_meth (f := f_Reader_take B.K) (m := tkM 0 w) (enc := nD) (l := l) (p := p) (ea_cons (ev_nat 0 (by decide)) (ea_cons (ev_var (i := 1) rfl) ea_nil)) rfl rfl rfl rfl ⟨0, w, rfl, l, p, rfl, rfl, rfl⟩) (of_decide_eq_true rfl) (fun q z => hE q (bnd_none z) _ rfl) (fun n p1 z1 => ?_))
  have iv : rFilters w l p = bnd (rep (filStep w) n 0 []) filEnd l p1 := bnd_some z1
  have hn := tkM_le z1
  refine ex_seq (ex_setO (eo_lst ea_nil (of_decide_eq_true rfl)) (of_decide_eq_true rfl) ?_)
  refine ex_seq (ex_range (n := n) (ev_var (i := 2) rfl) (by omega) (fun i e2 => ∃ (cs : List VaidxBase.Filter) (p2 : Nat) (x4 : Option Ent), e2 = [some (.bor (.obj (He.ga B.K "Reader") (rdF l p2))), some (.val (nD w)), some (.val (nD n)), some (.own (.lst (cs.map (fD B.K)))), x4, none] ∧ cs.length = i ∧ rFilters w l p = bnd (rep (filStep w) (n - i) i cs) filEnd l p2) ⟨[], p1, none, rfl, rfl, iv⟩ ?_ ?_ ?_)
  · rintro i e2 ⟨cs, p2, x4, rfl, _, _⟩
    exact of_decide_eq_true rfl
  · rintro i e2 hi ⟨cs, p2, x4, rfl, hc, iv⟩
    rw [rep_more hi] at iv
    refine ex_appM (xs := cs.map (fD B.K)) (mx_call (f := f_read_filter B.K) (m := rFilter w) (enc := fD B.K) (l := l) (p := p2) (ea_cons (ev_var (i := 1) rfl) ea_nil) rfl rfl rfl ⟨w, rfl, hw1, hw4, l, p2, rfl, rfl, rfl⟩) rfl (fun q => rfl) (by rw [List.length_map]; omega) (fun q z => hE q (iv.trans (bnd_none (bnd_none (bnd_none z)))) _ rfl) (fun c q z => ⟨cs ++ [c], q, some (.val (.int (i : Int))), ?_, ?_, iv.trans (bnd_step (bnd_some (bnd_some z)))⟩)
    · rw [List.map_append]; rfl
    · rw [List.length_append, hc]; rfl
  · rintro e2 ⟨cs, p2, x4, rfl, hc, iv⟩
    rw [Nat.sub_self] at iv
    have iv : rFilters w l p = filEnd cs l p2 := iv
    unfold filEnd at iv
    by_cases hn : (cs.map fun f => f.col).Nodup
    · rw [if_pos hn] at iv
      have iv : rFilters w l p = (some cs, p2) := iv
      refine ex_seq (ex_drop (ev_x (ev_callX (f := f_refuse_repeats B.K) (r := .ok .non) (ea_cons (ev_eq (ev_ofO (eo_lcM (l := cs) (enc := fD B.K) (j := 5) (g := fun f => nD f.col) (ev_own (i := 3) (o := .lst (cs.map (fD B.K))) (e := [some (.bor (.obj (He.ga B.K "Reader") (rdF l p2))), some (.val (nD w)), some (.val (nD n)), some (.own (.lst (cs.map (fD B.K)))), x4, none]) rfl) (of_decide_eq_true rfl) (by omega) fun G2 H2 f hm => ev_fld (C := He.ga B.K "Filter") (fs := [("column", nD f.col), ("low", nD f.lo), ("high", nD f.hi)]) (ev_var (i := 5) rfl) T.cls_Filter T.n_Filter_column rfl)) (by unfold nsD; rw [List.map_map]; rfl)) ea_nil) ⟨_, rfl, by rw [List.length_map]; omega, (if_pos hn).symm⟩ (fun n z => nomatch z))) ?_)
      rw [iv]
      exact ex_ret (ev_var (i := 3) rfl) ⟨rfl, rfl⟩
    · rw [if_neg hn] at iv
      exact ex_seq (exE_drop (evE_x (n := -1) (ev_callX (f := f_refuse_repeats B.K) (r := .error (-1)) (ea_cons (ev_eq (ev_ofO (eo_lcM (l := cs) (enc := fD B.K) (j := 5) (g := fun f => nD f.col) (ev_own (i := 3) (o := .lst (cs.map (fD B.K))) (e := [some (.bor (.obj (He.ga B.K "Reader") (rdF l p2))), some (.val (nD w)), some (.val (nD n)), some (.own (.lst (cs.map (fD B.K)))), x4, none]) rfl) (of_decide_eq_true rfl) (by omega) fun G2 H2 f hm => ev_fld (C := He.ga B.K "Filter") (fs := [("column", nD f.col), ("low", nD f.lo), ("high", nD f.hi)]) (ev_var (i := 5) rfl) T.cls_Filter T.n_Filter_column rfl)) (by unfold nsD; rw [List.map_map]; rfl)) ea_nil) ⟨_, rfl, by rw [List.length_map]; omega, (if_neg hn).symm⟩ (fun n z => by cases z; exact hE p2 iv _ rfl))))
end
end One
namespace One
open PySem PySem.Spec PyProof.Rows L2 NdefX Dl
section
variable {P : Program} {w : World} {K : PySem.W.Frag} {mg : Str → Option Value} {base : Heap} {TT : List NTab}
abbrev N_read_question : List Str := ["numbers", "width", "reader", "filters", "order", "backwards", "wanted", "limit", "asked"]
theorem sc_read_question : FnScope N_read_question ["numbers", "width"] (defScope s_read_question) := ⟨rfl, rfl, rfl, by decide +kernel, rfl, by decide +kernel, by decide +kernel⟩
def f_read_question (K : PySem.W.Frag) : List D → Res → Prop := fun as r => ∃ (l : List Int) (w : Nat), as = [.lst (l.map D.int), nD w] ∧ 1 ≤ w ∧ w ≤ 4 ∧ r = resR (qD K) (rQuestion w l 0).1
abbrev sp_read_question (K : PySem.W.Frag) (TT : List NTab) : Sp := SpX K TT (He.ga K "Refusal") (f_read_question K)
theorem len_read_question : ∀ (as : List D) d, f_read_question K as d → as.length = 2 := by
  intro as d h
  obtain ⟨_, _, rfl, _⟩ := h; rfl
theorem ok_read_question (T : Txt K mg) : DefOk P w K mg base (L2.CX P w) 8 ("read_question", none) ["numbers", "width"] (sp_read_question K TT) := by
  obtain ⟨⟨fd_Reader_finish, F_Reader_finish, b_Reader_finish⟩, kp_Reader_finish⟩ := ok_Reader_finish (P := P) (w := w) (base := base) (TT := TT) T
  obtain ⟨⟨fd_Reader_take, F_Reader_take, b_Reader_take⟩, kp_Reader_take⟩ := ok_Reader_take (P := P) (w := w) (base := base) (TT := TT) T
  obtain ⟨⟨fd_read_columns, F_read_columns, b_read_columns⟩, kp_read_columns⟩ := ok_read_columns (P := P) (w := w) (base := base) (TT := TT) T
  obtain ⟨⟨fd_read_filters, F_read_filters, b_read_filters⟩, kp_read_filters⟩ := ok_read_filters (P := P) (w := w) (base := base) (TT := TT) T
  obtain ⟨⟨fd_Question_init, F_Question_init, b_Question_init⟩, kp_Question_init⟩ := ok_Question_init (P := P) (w := w) (base := base) (TT := TT) T
  obtain ⟨⟨fd_Reader_init, F_Reader_init, b_Reader_init⟩, kp_Reader_init⟩ := ok_Reader_init (P := P) (w := w) (base := base) (TT := TT) T
  obtain ⟨fd, F⟩ := T.def_ (i := 55) (d := d_read_question) rfl
  refine ⟨⟨fd, FunD.ok F sc_read_question (sp_lenX (n := 2) len_read_question) (fun cdv A outer s H vs Q E hr h => ?_), F.bindsN fun _ _ _ _ _ _ us hl => match us, hl with | [_, _], _ => rfl⟩, F.kp⟩
  have hx : Passes (L2.CX P w) (cxOf (L2.CX P w) P w K mg base N_read_question d_read_question.qual d_read_question.scope (He.fAd K d_read_question.at_) cdv A outer s H E) E := passes_call (takes_of rfl rfl rfl rfl) fun _ _ _ _ h => h
  refine ⟨_, (pss_cons (ps_set (i := 2) sc_read_question.nd rfl (Or.inl rfl) (pe_make T.mkr_Reader F_Reader_init (hr.mono (by decide)) rfl T.glo_Reader b_Reader_init .nil pass0 (pa_cons (pv 0) pa_nil)))
    (pss_cons (ps_set (i := 3) sc_read_question.nd rfl (Or.inl rfl) (pe_call F_read_filters (hr.mono (by decide)) rfl T.glo_read_filters kp_read_filters b_read_filters .nil hx (pa_cons (pv 2) (pa_cons (pv 1) pa_nil))))
    (pss_cons (ps_set (i := 4) sc_read_question.nd rfl (Or.inl rfl) (pe_call F_read_columns (hr.mono (by decide)) rfl T.glo_read_columns kp_read_columns b_read_columns .nil hx (pa_cons (pv 2) (pa_cons (pv 1) (pa_cons pe_int pa_nil)))))
    (pss_cons (ps_set (i := 5) sc_read_question.nd rfl (Or.inl rfl) (pe_cmpR op_eq (pe_meth (pv 2) T.cls_Reader T.meth_Reader_take F_Reader_take (hr.mono (by decide)) b_Reader_take .nil hx (pa_cons pe_int (pa_cons pe_int pa_nil))) pe_int (nomark _)))
    (pss_cons (ps_set (i := 6) sc_read_question.nd rfl (Or.inl rfl) (pe_call F_read_columns (hr.mono (by decide)) rfl T.glo_read_columns kp_read_columns b_read_columns .nil hx (pa_cons (pv 2) (pa_cons (pv 1) (pa_cons pe_int pa_nil)))))
    (pss_cons (ps_set (i := 7) sc_read_question.nd rfl (Or.inl rfl) (pe_meth (pv 2) T.cls_Reader T.meth_Reader_take F_Reader_take (hr.mono (by decide)) b_Reader_take .nil hx (pa_cons pe_int (pa_cons (pe_gI rfl T.int_MOST_LIMIT) pa_nil))))
    (pss_cons (ps_set (i := 8) sc_read_question.nd rfl (Or.inl rfl) (pe_meth (pv 2) T.cls_Reader T.meth_Reader_take F_Reader_take (hr.mono (by decide)) b_Reader_take .nil hx (pa_cons pe_int (pa_cons (pe_gI rfl T.int_MOST_ASKED) pa_nil))))
    (pss_cons (ps_expr (pe_meth0 (pv 2) T.cls_Reader T.meth_Reader_finish F_Reader_finish (hr.mono (by decide)) b_Reader_finish .nil hx))
    (pss_one (ps_ret (pe_make T.mkr_Question F_Question_init (hr.mono (by decide)) rfl T.glo_Question b_Question_init .nil pass0 (pa_cons (pv 3) (pa_cons (pv 4) (pa_cons (pv 5) (pa_cons (pv 6) (pa_cons (pv 7) (pa_cons (pv 8) pa_nil))))))))))))))))), ?_⟩
  refine body_X 9 rfl (fun as d h => by rw [len_read_question as d h]; decide) (fun B as r hK hT hf hX => ?_) vs H Q h
  subst hK hT

  obtain ⟨l, w, rfl, hw1, hw4, rfl⟩ := hf
  have hE : ∀ q, rQuestion w l 0 = (none, q) → ∀ e' : En, Xo B (He.ga B.K "Refusal") E (-1) e' := fun q z => by rw [z] at hX; exact hX (-1) rfl
  refine ex_seq (ex_setO (eo_make (f := f_Reader_init B.K) (ea_cons (ev_var (i := 0) rfl) ea_nil) ⟨l, rfl, rfl, rfl, rfl⟩) (of_decide_eq_true rfl) ?_)

  refine ex_seq (ex_setM (mx_call (f := f_read_filters B.K) (m := rFilters w) (enc := fsD B.K) (l := l) (p := 0) (ea_cons (ev_var (i := 1) rfl) ea_nil) rfl rfl rfl ⟨w, rfl, hw1, hw4, l, 0, rfl, rfl, rfl⟩) (of_decide_eq_true rfl) (fun q z => hE q (bnd_none z) _) (fun fs p1 z1 => ?_))
  have iv : rQuestion w l 0 = _ := bnd_some z1
  show Ex B _ [some (.val (.lst (l.map D.int))), some (.val (nD w)), some (.own (.obj (He.ga B.K "Reader") (rdF l p1))), some (.val (fsD B.K fs)), none, none, none, none, none] _
  refine ex_seq (ex_setM (mx_call (f := f_read_columns B.K) (m := rCols w 0) (enc := nsD) (l := l) (p := p1) (ea_cons (ev_var (i := 1) rfl) (ea_cons (ev_nat 0 (by omega)) ea_nil)) rfl rfl rfl ⟨w, 0, rfl, hw1, hw4, l, p1, rfl, rfl, rfl⟩) (of_decide_eq_true rfl) (fun q z => hE q (iv.trans (bnd_none z)) _) (fun order p2 z2 => ?_))
  have iv := iv.trans (bnd_some z2)
  show Ex B _ [some (.val (.lst (l.map D.int))), some (.val (nD w)), some (.own (.obj (He.ga B.K "Reader") (rdF l p2))), some (.val (fsD B.K fs)), some (.val (nsD order)), none, none, none, none] _
  rcases z3 : tkM 0 1 l p2 with ⟨_ | b, p3⟩
  · exact ex_seq (exE_set (evE_op ((mx_meth (f := f_Reader_take B.K) (m := tkM 0 1) (enc := nD) (l := l) (p := p2) (ea_cons (ev_nat 0 (by omega)) (ea_cons (ev_nat 1 (by omega)) ea_nil)) rfl rfl rfl rfl ⟨0, 1, rfl, l, p2, rfl, rfl, rfl⟩).no p3 z3 (hE _ (iv.trans (bnd_none z3)) _))))
  have iv := iv.trans (bnd_some z3)
  refine ex_seq (ex_set (d := .bl (b == 1)) (ev_eq (ev_eqI (i := (b : Int)) ((mx_meth (f := f_Reader_take B.K) (m := tkM 0 1) (enc := nD) (l := l) (p := p2) (ea_cons (ev_nat 0 (by omega)) (ea_cons (ev_nat 1 (by omega)) ea_nil)) rfl rfl rfl rfl ⟨0, 1, rfl, l, p2, rfl, rfl, rfl⟩).ok b p3 z3) (ev_int (i := 1))) (by rw [show (b == 1) = decide (b = 1) from rfl, ← dec_eq]; rfl)) (of_decide_eq_true rfl) ?_)
  show Ex B _ [some (.val (.lst (l.map D.int))), some (.val (nD w)), some (.own (.obj (He.ga B.K "Reader") (rdF l p3))), some (.val (fsD B.K fs)), some (.val (nsD order)), some (.val (.bl (b == 1))), none, none, none] _
  refine ex_seq (ex_setM (mx_call (f := f_read_columns B.K) (m := rCols w 0) (enc := nsD) (l := l) (p := p3) (ea_cons (ev_var (i := 1) rfl) (ea_cons (ev_nat 0 (by omega)) ea_nil)) rfl rfl rfl ⟨w, 0, rfl, hw1, hw4, l, p3, rfl, rfl, rfl⟩) (of_decide_eq_true rfl) (fun q z => hE q (iv.trans (bnd_none z)) _) (fun wants p4 z4 => ?_))
  have iv := iv.trans (bnd_some z4)
  show Ex B _ [some (.val (.lst (l.map D.int))), some (.val (nD w)), some (.own (.obj (He.ga B.K "Reader") (rdF l p4))), some (.val (fsD B.K fs)), some (.val (nsD order)), some (.val (.bl (b == 1))), some (.val (nsD wants)), none, none] _
  refine ex_seq (ex_setM (mx_meth (f := f_Reader_take B.K) (m := tkM 0 1000000) (enc := nD) (l := l) (p := p4) (ea_cons (ev_nat 0 (by omega)) (ea_cons (ev_nat 1000000 (by omega)) ea_nil)) rfl rfl rfl rfl ⟨0, 1000000, rfl, l, p4, rfl, rfl, rfl⟩) (of_decide_eq_true rfl) (fun q z => hE q (iv.trans (bnd_none z)) _) (fun lim p5 z5 => ?_))
  have iv := iv.trans (bnd_some z5)
  show Ex B _ [some (.val (.lst (l.map D.int))), some (.val (nD w)), some (.own (.obj (He.ga B.K "Reader") (rdF l p5))), some (.val (fsD B.K fs)), some (.val (nsD order)), some (.val (.bl (b == 1))), some (.val (nsD wants)), some (.val (nD lim)), none] _
  refine ex_seq (ex_setM (mx_meth (f := f_Reader_take B.K) (m := tkM 0 1000) (enc := nD) (l := l) (p := p5) (ea_cons (ev_nat 0 (by omega)) (ea_cons (ev_nat 1000 (by omega)) ea_nil)) rfl rfl rfl rfl ⟨0, 1000, rfl, l, p5, rfl, rfl, rfl⟩) (of_decide_eq_true rfl) (fun q z => hE q (iv.trans (bnd_none z)) _) (fun asked p6 z6 => ?_))
  have iv := iv.trans (bnd_some z6)
  show Ex B _ [some (.val (.lst (l.map D.int))), some (.val (nD w)), some (.own (.obj (He.ga B.K "Reader") (rdF l p6))), some (.val (fsD B.K fs)), some (.val (nsD order)), some (.val (.bl (b == 1))), some (.val (nsD wants)), some (.val (nD lim)), some (.val (nD asked))] _
  refine ex_seq (ex_dropM (mx_meth (f := f_Reader_finish B.K) (m := finM) (enc := fun _ => D.non) (l := l) (p := p6) ea_nil rfl rfl rfl rfl ⟨rfl, l, p6, rfl, rfl, rfl⟩) (fun q z => hE q (iv.trans (bnd_none z)) _) (fun u p7 z7 => ?_))
  have iv := iv.trans (bnd_some z7)
  show Ex B _ [some (.val (.lst (l.map D.int))), some (.val (nD w)), some (.own (.obj (He.ga B.K "Reader") (rdF l p7))), some (.val (fsD B.K fs)), some (.val (nsD order)), some (.val (.bl (b == 1))), some (.val (nsD wants)), some (.val (nD lim)), some (.val (nD asked))] _
  have iv : rQuestion w l 0 = (some ⟨fs, order, b == 1, wants, lim, asked⟩, p7) := iv
  rw [iv]
  exact ex_ret (ev_make (f := f_Question_init B.K) (ea_cons (ev_var (i := 3) rfl) (ea_cons (ev_var (i := 4) rfl) (ea_cons (ev_var (i := 5) rfl) (ea_cons (ev_var (i := 6) rfl) (ea_cons (ev_var (i := 7) rfl) (ea_cons (ev_var (i := 8) rfl) ea_nil)))))) ⟨_, _, _, _, _, _, rfl, rfl, rfl, rfl⟩) rfl
abbrev N_read_index : List Str := ["numbers", "width", "reader", "key_columns", "included", "condition"]
theorem sc_read_index : FnScope N_read_index ["numbers", "width"] (defScope s_read_index) := ⟨rfl, rfl, rfl, by decide +kernel, rfl, by decide +kernel, by decide +kernel⟩
def f_read_index (K : PySem.W.Frag) : List D → Res → Prop := fun as r => ∃ (l : List Int) (w : Nat), as = [.lst (l.map D.int), nD w] ∧ 1 ≤ w ∧ w ≤ 4 ∧ r = resR (iD K) (rIndex w l 0).1
abbrev sp_read_index (K : PySem.W.Frag) (TT : List NTab) : Sp := SpX K TT (He.ga K "Refusal") (f_read_index K)
theorem len_read_index : ∀ (as : List D) d, f_read_index K as d → as.length = 2 := by
  intro as d h
  obtain ⟨_, _, rfl, _⟩ := h; rfl
theorem ok_read_index (T : Txt K mg) : DefOk P w K mg base (L2.CX P w) 7 ("read_index", none) ["numbers", "width"] (sp_read_index K TT) := by
  obtain ⟨⟨fd_Reader_finish, F_Reader_finish, b_Reader_finish⟩, kp_Reader_finish⟩ := ok_Reader_finish (P := P) (w := w) (base := base) (TT := TT) T
  obtain ⟨⟨fd_Reader_take, F_Reader_take, b_Reader_take⟩, kp_Reader_take⟩ := ok_Reader_take (P := P) (w := w) (base := base) (TT := TT) T
  obtain ⟨⟨fd_read_columns, F_read_columns, b_read_columns⟩, kp_read_columns⟩ := ok_read_columns (P := P) (w := w) (base := base) (TT := TT) T
  obtain ⟨⟨fd_read_filter, F_read_filter, b_read_filter⟩, kp_read_filter⟩ := ok_read_filter (P := P) (w := w) (base := base) (TT := TT) T
  obtain ⟨⟨fd_refuse_repeats, F_refuse_repeats, b_refuse_repeats⟩, kp_refuse_repeats⟩ := ok_refuse_repeats (P := P) (w := w) (base := base) (TT := TT) T
  obtain ⟨⟨fd_Index_init, F_Index_init, b_Index_init⟩, kp_Index_init⟩ := ok_Index_init (P := P) (w := w) (base := base) (TT := TT) T
  obtain ⟨⟨fd_Reader_init, F_Reader_init, b_Reader_init⟩, kp_Reader_init⟩ := ok_Reader_init (P := P) (w := w) (base := base) (TT := TT) T
  obtain ⟨fd, F⟩ := T.def_ (i := 56) (d := d_read_index) rfl
  refine ⟨⟨fd, FunD.ok F sc_read_index (sp_lenX (n := 2) len_read_index) (fun cdv A outer s H vs Q E hr h => ?_), F.bindsN fun _ _ _ _ _ _ us hl => match us, hl with | [_, _], _ => rfl⟩, F.kp⟩
  have hx : Passes (L2.CX P w) (cxOf (L2.CX P w) P w K mg base N_read_index d_read_index.qual d_read_index.scope (He.fAd K d_read_index.at_) cdv A outer s H E) E := passes_call (takes_of rfl rfl rfl rfl) fun _ _ _ _ h => h
  refine ⟨_, (pss_cons (ps_set (i := 2) sc_read_index.nd rfl (Or.inl rfl) (pe_make T.mkr_Reader F_Reader_init (hr.mono (by decide)) rfl T.glo_Reader b_Reader_init .nil pass0 (pa_cons (pv 0) pa_nil)))
    (pss_cons (ps_set (i := 3) sc_read_index.nd rfl (Or.inl rfl) (pe_call F_read_columns (hr.mono (by decide)) rfl T.glo_read_columns kp_read_columns b_read_columns .nil hx (pa_cons (pv 2) (pa_cons (pv 1) (pa_cons pe_int pa_nil)))))
    (pss_cons (ps_set (i := 4) sc_read_index.nd rfl (Or.inl rfl) (pe_call F_read_columns (hr.mono (by decide)) rfl T.glo_read_columns kp_read_columns b_read_columns .nil hx (pa_cons (pv 2) (pa_cons (pv 1) (pa_cons pe_int pa_nil)))))
    (pss_cons (ps_expr (pe_call F_refuse_repeats (hr.mono (by decide)) rfl T.glo_refuse_repeats kp_refuse_repeats b_refuse_repeats .nil hx (pa_cons (pe_op op_cat (pv 3) (pv 4)) pa_nil)))
    (pss_cons (ps_set (i := 5) sc_read_index.nd rfl (Or.inl rfl) pe_non)
    (pss_cons (ps_if (pt_cmpR op_eq (pe_meth (pv 2) T.cls_Reader T.meth_Reader_take F_Reader_take (hr.mono (by decide)) b_Reader_take .nil hx (pa_cons pe_int (pa_cons pe_int pa_nil))) pe_int (nomark _)) (pss_one (ps_set (i := 5) sc_read_index.nd rfl (Or.inl rfl) (pe_call F_read_filter (hr.mono (by decide)) rfl T.glo_read_filter kp_read_filter b_read_filter .nil hx (pa_cons (pv 2) (pa_cons (pv 1) pa_nil))))) pss_nil)
    (pss_cons (ps_expr (pe_meth0 (pv 2) T.cls_Reader T.meth_Reader_finish F_Reader_finish (hr.mono (by decide)) b_Reader_finish .nil hx))
    (pss_one (ps_ret (pe_make T.mkr_Index F_Index_init (hr.mono (by decide)) rfl T.glo_Index b_Index_init .nil pass0 (pa_cons (pv 3) (pa_cons (pv 4) (pa_cons (pv 5) pa_nil))))))))))))), ?_⟩
  refine body_X 6 rfl (fun as d h => by rw [len_read_index as d h]; decide) (fun B as r hK hT hf hX => ?_) vs H Q h
  subst hK hT

  obtain ⟨l, w, rfl, hw1, hw4, rfl⟩ := hf
  have hE : ∀ q, rIndex w l 0 = (none, q) → ∀ e' : En, Xo B (He.ga B.K "Refusal") E (-1) e' := fun q z => by rw [z] at hX; exact hX (-1) rfl
  refine ex_seq (ex_setO (eo_make (f := f_Reader_init B.K) (ea_cons (ev_var (i := 0) rfl) ea_nil) ⟨l, rfl, rfl, rfl, rfl⟩) (of_decide_eq_true rfl) ?_)

  refine ex_seq (ex_setM (mx_call (f := f_read_columns B.K) (m := rCols w 1) (enc := nsD) (l := l) (p := 0) (ea_cons (ev_var (i := 1) rfl) (ea_cons (ev_nat 1 (by omega)) ea_nil)) rfl rfl rfl ⟨w, 1, rfl, hw1, hw4, l, 0, rfl, rfl, rfl⟩) (of_decide_eq_true rfl) (fun q z => hE q (bnd_none z) _) (fun ks p1 z1 => ?_))
  have iv : rIndex w l 0 = _ := bnd_some z1
  refine ex_seq (ex_setM (mx_call (f := f_read_columns B.K) (m := rCols w 0) (enc := nsD) (l := l) (p := p1) (ea_cons (ev_var (i := 1) rfl) (ea_cons (ev_nat 0 (by omega)) ea_nil)) rfl rfl rfl ⟨w, 0, rfl, hw1, hw4, l, p1, rfl, rfl, rfl⟩) (of_decide_eq_true rfl) (fun q z => hE q (iv.trans (bnd_none z)) _) (fun inc p2 z2 => ?_))
  have iv := iv.trans (bnd_some z2)
  have l1 := (cols_ok hw1 z1).2.1
  have l2 := (cols_ok hw1 z2).2.1
  have cat : Ev B _ [some (.val (.lst (l.map D.int))), some (.val (nD w)), some (.own (.obj (He.ga B.K "Reader") (rdF l p2))), some (.val (nsD ks)), some (.val (nsD inc)), none] (nsD (ks ++ inc)) _ := ev_eq (ev_ofO (eo_cat (ev_var (i := 3) rfl) (ev_var (i := 4) rfl) (by rw [List.length_map, List.length_map]; omega))) (by unfold nsD; rw [List.map_append]; rfl)
  by_cases hn : (ks ++ inc).Nodup
  · have iv : rIndex w l 0 = (bnd (rOnly w) fun only => bnd finM fun _ => ret ⟨ks, inc, only⟩) l p2 := iv.trans (by rw [if_pos hn])
    refine ex_seq (ex_drop (ev_x (ev_callX (f := f_refuse_repeats B.K) (r := .ok .non) (ea_cons cat ea_nil) ⟨_, rfl, by rw [List.length_append]; omega, (if_pos hn).symm⟩ (fun n z => nomatch z))) ?_)
    refine ex_seq (ex_set ev_non (of_decide_eq_true rfl) ?_)
    refine ex_cut (fun e3 => ∃ (o : Option VaidxBase.Filter) (p4 : Nat), e3 = [some (.val (.lst (l.map D.int))), some (.val (nD w)), some (.own (.obj (He.ga B.K "Reader") (rdF l p4))), some (.val (nsD ks)), some (.val (nsD inc)), some (.val (oD B.K o))] ∧ rIndex w l 0 = (bnd finM fun _ => ret ⟨ks, inc, o⟩) l p4) ?_ ?_
    · rcases z3 : tkM 0 1 l p2 with ⟨_ | b, p3⟩
      · exact exE_if (evE_op ((mx_meth (f := f_Reader_take B.K) (m := tkM 0 1) (enc := nD) (l := l) (p := p2) (ea_cons (ev_nat 0 (by omega)) (ea_cons (ev_nat 1 (by omega)) ea_nil)) rfl rfl rfl rfl ⟨0, 1, rfl, l, p2, rfl, rfl, rfl⟩).no p3 z3 (hE _ (iv.trans (bnd_none (bnd_none z3))) _)))
      · by_cases hb : b = 1
        · have iv := iv.trans (bnd_step (bnd_some z3))
          refine ex_if (c := true) (et_eq (et_test (ev_eqI (i := (b : Int)) ((mx_meth (f := f_Reader_take B.K) (m := tkM 0 1) (enc := nD) (l := l) (p := p2) (ea_cons (ev_nat 0 (by omega)) (ea_cons (ev_nat 1 (by omega)) ea_nil)) rfl rfl rfl rfl ⟨0, 1, rfl, l, p2, rfl, rfl, rfl⟩).ok b p3 z3) (ev_int (i := 1)))) (decide_eq_true (by omega))) (fun _ => ?_) (fun h => nomatch h)
          rw [if_pos hb] at iv
          refine ex_setM (mx_call (f := f_read_filter B.K) (m := rFilter w) (enc := fD B.K) (l := l) (p := p3) (ea_cons (ev_var (i := 1) rfl) ea_nil) rfl rfl rfl ⟨w, rfl, hw1, hw4, l, p3, rfl, rfl, rfl⟩) (of_decide_eq_true rfl) (fun q z => hE q (iv.trans (bnd_none (bnd_none z))) _) (fun f p4 z4 => ⟨some f, p4, rfl, iv.trans (bnd_some (bnd_some z4))⟩)
        · have iv := iv.trans (bnd_step (bnd_some z3))
          refine ex_if (c := false) (et_eq (et_test (ev_eqI (i := (b : Int)) ((mx_meth (f := f_Reader_take B.K) (m := tkM 0 1) (enc := nD) (l := l) (p := p2) (ea_cons (ev_nat 0 (by omega)) (ea_cons (ev_nat 1 (by omega)) ea_nil)) rfl rfl rfl rfl ⟨0, 1, rfl, l, p2, rfl, rfl, rfl⟩).ok b p3 z3) (ev_int (i := 1)))) (decide_eq_false (by omega))) (fun h => nomatch h) (fun _ => ex_next ?_)
          rw [if_neg hb] at iv
          exact ⟨none, p3, rfl, iv⟩
    · rintro e3 ⟨o, p4, rfl, iv⟩
      refine ex_seq (ex_dropM (mx_meth (f := f_Reader_finish B.K) (m := finM) (enc := fun _ => D.non) (l := l) (p := p4) ea_nil rfl rfl rfl rfl ⟨rfl, l, p4, rfl, rfl, rfl⟩) (fun q z => hE q (iv.trans (bnd_none z)) _) (fun u p7 z7 => ?_))
      have iv := iv.trans (bnd_some z7)
      have iv : rIndex w l 0 = (some ⟨ks, inc, o⟩, p7) := iv
      rw [iv]
      exact ex_ret (ev_make (f := f_Index_init B.K) (ea_cons (ev_var (i := 3) rfl) (ea_cons (ev_var (i := 4) rfl) (ea_cons (ev_var (i := 5) rfl) ea_nil))) ⟨_, _, _, rfl, rfl, rfl, rfl⟩) rfl
  · have iv : rIndex w l 0 = (none, p2) := iv.trans (by rw [if_neg hn]; rfl)
    exact ex_seq (exE_drop (evE_x (n := -1) (ev_callX (f := f_refuse_repeats B.K) (r := .error (-1)) (ea_cons cat ea_nil) ⟨_, rfl, by rw [List.length_append]; omega, (if_neg hn).symm⟩ (fun n z => by cases z; exact hE p2 iv _))))
abbrev N_read_table : List Str := ["numbers", "reader", "width", "group_count", "groups", "number", "cells", "column", "group"]
theorem sc_read_table : FnScope N_read_table ["numbers"] (defScope s_read_table) := ⟨rfl, rfl, rfl, by decide +kernel, rfl, by decide +kernel, by decide +kernel⟩
def f_read_table (K : PySem.W.Frag) : List D → Res → Prop := fun as r => ∃ (l : List Int), as = [.lst (l.map D.int)] ∧ r = resR (tD K) (rTable l 0).1
abbrev sp_read_table (K : PySem.W.Frag) (TT : List NTab) : Sp := SpX K TT (He.ga K "Refusal") (f_read_table K)
theorem len_read_table : ∀ (as : List D) d, f_read_table K as d → as.length = 1 := by
  intro as d h
  obtain ⟨_, rfl, _⟩ := h; rfl
theorem ok_read_table (T : Txt K mg) : DefOk P w K mg base (L2.CX P w) 6 ("read_table", none) ["numbers"] (sp_read_table K TT) := by
  obtain ⟨⟨fd_Reader_finish, F_Reader_finish, b_Reader_finish⟩, kp_Reader_finish⟩ := ok_Reader_finish (P := P) (w := w) (base := base) (TT := TT) T
  obtain ⟨⟨fd_Reader_take, F_Reader_take, b_Reader_take⟩, kp_Reader_take⟩ := ok_Reader_take (P := P) (w := w) (base := base) (TT := TT) T
  obtain ⟨⟨fd_Group_init, F_Group_init, b_Group_init⟩, kp_Group_init⟩ := ok_Group_init (P := P) (w := w) (base := base) (TT := TT) T
  obtain ⟨⟨fd_Reader_init, F_Reader_init, b_Reader_init⟩, kp_Reader_init⟩ := ok_Reader_init (P := P) (w := w) (base := base) (TT := TT) T
  obtain ⟨⟨fd_Table_init, F_Table_init, b_Table_init⟩, kp_Table_init⟩ := ok_Table_init (P := P) (w := w) (base := base) (TT := TT) T
  obtain ⟨⟨fd_NotWhole_init, F_NotWhole_init, b_NotWhole_init⟩, _⟩ := ok_NotWhole_init (P := P) (w := w) (base := base) T
  obtain ⟨fd, F⟩ := T.def_ (i := 50) (d := d_read_table) rfl
  refine ⟨⟨fd, FunD.ok F sc_read_table (sp_lenX (n := 1) len_read_table) (fun cdv A outer s H vs Q E hr h => ?_), F.bindsN fun _ _ _ _ _ _ us hl => match us, hl with | [_], _ => rfl⟩, F.kp⟩
  have hx : Passes (L2.CX P w) (cxOf (L2.CX P w) P w K mg base N_read_table d_read_table.qual d_read_table.scope (He.fAd K d_read_table.at_) cdv A outer s H E) E := passes_call (takes_of rfl rfl rfl rfl) fun _ _ _ _ h => h
  refine ⟨_, (pss_cons (ps_set (i := 1) sc_read_table.nd rfl (Or.inl rfl) (pe_make T.mkr_Reader F_Reader_init (hr.mono (by decide)) rfl T.glo_Reader b_Reader_init .nil pass0 (pa_cons (pv 0) pa_nil)))
    (pss_cons (ps_set (i := 2) sc_read_table.nd rfl (Or.inl rfl) (pe_meth (pv 1) T.cls_Reader T.meth_Reader_take F_Reader_take (hr.mono (by decide)) b_Reader_take .nil hx (pa_cons pe_int (pa_cons (pe_gI rfl T.int_MOST_COLUMNS) pa_nil))))
    (pss_cons (ps_set (i := 3) sc_read_table.nd rfl (Or.inl rfl) (pe_meth (pv 1) T.cls_Reader T.meth_Reader_take F_Reader_take (hr.mono (by decide)) b_Reader_take .nil hx (pa_cons pe_int (pa_cons (pe_gI rfl T.int_MOST_GROUPS) pa_nil))))
    (pss_cons (ps_set (i := 4) sc_read_table.nd rfl (Or.inl rfl) (pe_lst pa_nil))
    (pss_cons (ps_for (passes_of rfl) rfl (pi_range1 rfl T.free_range (pa_cons (pv 3) pa_nil)) (pg_name (i := 5) sc_read_table.nd rfl (Or.inl rfl))
    (pss_cons (ps_set (i := 6) sc_read_table.nd rfl (Or.inl rfl) (pe_lst pa_nil))
    (pss_cons (ps_for (passes_of rfl) rfl (pi_range1 rfl T.free_range (pa_cons (pv 2) pa_nil)) (pg_name (i := 7) sc_read_table.nd rfl (Or.inl rfl))
    (pss_one (ps_expr (pe_bm PySem.F.plainAttrs_list PySem.F.slot_list_append PySem.F.type_list_append mt_append (pv 6) (pa_cons (pe_meth (pv 1) T.cls_Reader T.meth_Reader_take F_Reader_take (hr.mono (by decide)) b_Reader_take .nil hx (pa_cons pe_int (pa_cons (pe_gI rfl T.int_TOP_VALUE) pa_nil))) pa_nil)))))
    (pss_cons (ps_if (pt_cmpR (op_inD (hu65 hr)) (pv 6) (pe_lc (own := [("group", 8)]) (g := gName 8) (by rfl) sc_read_table.nd (pi_list (pv 4)) (blkOk_by (own := [("group", 8)]) (N := N_read_table) (sc := defScope s_read_table) (by decide +kernel)) (fun _ _ _ _ _ => pg_name (i := 8) sc_read_table.nd rfl (Or.inl rfl)) (fun _ _ _ _ _ => by exact pts_nil) (fun _ _ _ _ _ => by exact (pe_fldB (pv 8) rfl))) (by with_unfolding_all rfl)) (pss_one (ps_raise rfl (takes_of rfl rfl rfl rfl) (pmk_e T.e_NotWhole F_NotWhole_init (hr.mono (by decide)) b_NotWhole_init pass0 (by rfl) T.glo_NotWhole))) pss_nil)
    (pss_one (ps_expr (pe_bm PySem.F.plainAttrs_list PySem.F.slot_list_append PySem.F.type_list_append mt_append (pv 4) (pa_cons (pe_make T.mkr_Group F_Group_init (hr.mono (by decide)) rfl T.glo_Group b_Group_init .nil pass0 (pa_cons (pv 5) (pa_cons (pv 6) (pa_cons (pe_meth (pv 1) T.cls_Reader T.meth_Reader_take F_Reader_take (hr.mono (by decide)) b_Reader_take .nil hx (pa_cons pe_int (pa_cons (pe_gI rfl T.int_MOST_IN_GROUP) pa_nil))) pa_nil)))) pa_nil))))))))
    (pss_cons (ps_expr (pe_meth0 (pv 1) T.cls_Reader T.meth_Reader_finish F_Reader_finish (hr.mono (by decide)) b_Reader_finish .nil hx))
    (pss_one (ps_ret (pe_make T.mkr_Table F_Table_init (hr.mono (by decide)) rfl T.glo_Table b_Table_init .nil pass0 (pa_cons (pv 2) (pa_cons (pv 4) pa_nil))))))))))), ?_⟩
  refine body_X 9 rfl (fun as d h => by rw [len_read_table as d h]; decide) (fun B as r hK hT hf hX => ?_) vs H Q h
  subst hK hT

  obtain ⟨l, rfl, rfl⟩ := hf
  have hE : ∀ q, rTable l 0 = (none, q) → ∀ e' : En, Xo B (He.ga B.K "Refusal") E (-1) e' := fun q z => by rw [z] at hX; exact hX (-1) rfl
  refine ex_seq (ex_setO (eo_make (f := f_Reader_init B.K) (ea_cons (ev_var (i := 0) rfl) ea_nil) ⟨l, rfl, rfl, rfl, rfl⟩) (of_decide_eq_true rfl) ?_)

  refine ex_seq (ex_setM (mx_meth (f := f_Reader_take B.K) (m := tkM 1 4) (enc := nD) (l := l) (p := 0) (ea_cons (ev_nat 1 (by omega)) (ea_cons (ev_nat 4 (by omega)) ea_nil)) rfl rfl rfl rfl ⟨1, 4, rfl, l, 0, rfl, rfl, rfl⟩) (of_decide_eq_true rfl) (fun q z => hE q (bnd_none z) _) (fun w p1 z1 => ?_))
  have iv : rTable l 0 = _ := bnd_some z1
  refine ex_seq (ex_setM (mx_meth (f := f_Reader_take B.K) (m := tkM 0 12) (enc := nD) (l := l) (p := p1) (ea_cons (ev_nat 0 (by omega)) (ea_cons (ev_nat 12 (by omega)) ea_nil)) rfl rfl rfl rfl ⟨0, 12, rfl, l, p1, rfl, rfl, rfl⟩) (of_decide_eq_true rfl) (fun q z => hE q (iv.trans (bnd_none z)) _) (fun n p2 z2 => ?_))
  have iv := iv.trans (bnd_some z2)
  have hw := tkM_le z1
  have hn := tkM_le z2
  refine ex_seq (ex_setO (eo_lst ea_nil (of_decide_eq_true rfl)) (of_decide_eq_true rfl) ?_)
  refine ex_seq (ex_range (n := n) (ev_var (i := 3) rfl) (by omega) (fun i e2 => ∃ (gs : List VaidxBase.Group) (p3 : Nat) (x5 x6 x7 : Option Ent), e2 = [some (.val (.lst (l.map D.int))), some (.own (.obj (He.ga B.K "Reader") (rdF l p3))), some (.val (nD w)), some (.val (nD n)), some (.own (.lst (gs.zipIdx.map (gD B.K)))), x5, x6, x7, none] ∧ gs.length = i ∧ rTable l 0 = bnd (rep (grpStep w) (n - i) i gs) (tabEnd w) l p3) ⟨[], p2, none, none, none, rfl, rfl, iv⟩ ?_ ?_ ?_)
  · rintro i e2 ⟨gs, p3, x5, x6, x7, rfl, _, _⟩
    exact of_decide_eq_true rfl
  · rintro i e2 hi ⟨gs, p3, x5, x6, x7, rfl, hg, iv⟩
    rw [rep_more hi] at iv
    refine ex_seq (ex_setO (eo_lst ea_nil (of_decide_eq_true rfl)) (of_decide_eq_true rfl) ?_)
    refine ex_seq (ex_range (n := w) (ev_var (i := 2) rfl) (by omega) (fun j e3 => ∃ (cs : List Nat) (p4 : Nat) (y7 : Option Ent), e3 = [some (.val (.lst (l.map D.int))), some (.own (.obj (He.ga B.K "Reader") (rdF l p4))), some (.val (nD w)), some (.val (nD n)), some (.own (.lst (gs.zipIdx.map (gD B.K)))), some (.val (.int (i : Int))), some (.own (.lst (cs.map nD))), y7, none] ∧ cs.length = j ∧ rTable l 0 = bnd (bnd (bnd (rep cellStep (w - j) j cs) (grpEnd gs)) (rep (grpStep w) (n - (i + 1)) (i + 1))) (tabEnd w) l p4) ⟨[], p3, x7, rfl, rfl, iv⟩ ?_ ?_ ?_)
    · rintro j e3 ⟨cs, p4, y7, rfl, _, _⟩
      exact of_decide_eq_true rfl
    · rintro j e3 hj ⟨cs, p4, y7, rfl, hc, iv⟩
      rw [rep_more hj] at iv
      refine ex_appM (xs := cs.map nD) (mx_meth (f := f_Reader_take B.K) (m := tkM 0 9) (enc := nD) (l := l) (p := p4) (ea_cons (ev_nat 0 (by omega)) (ea_cons (ev_nat 9 (by omega)) ea_nil)) rfl rfl rfl rfl ⟨0, 9, rfl, l, p4, rfl, rfl, rfl⟩) rfl (fun q => rfl) (by rw [List.length_map]; omega) (fun q z => hE q (iv.trans (bnd_none (bnd_none (bnd_none (bnd_none (bnd_none z)))))) _) (fun c q z => ⟨cs ++ [c], q, some (.val (.int (j : Int))), ?_, ?_, iv.trans (bnd_step (bnd_step (bnd_step (bnd_some (bnd_some z)))))⟩)
      · rw [List.map_append]; rfl
      · rw [List.length_append, hc]; rfl
    · rintro e3 ⟨cs, p4, y7, rfl, hc, iv⟩
      rw [Nat.sub_self] at iv
      have iv : rTable l 0 = bnd (bnd (grpEnd gs cs) (rep (grpStep w) (n - (i + 1)) (i + 1))) (tabEnd w) l p4 := iv.trans (bnd_step (bnd_step (show bnd (ret cs) (grpEnd gs) l p4 = grpEnd gs cs l p4 from rfl)))
      refine ex_thaw (i := 6) (o := .lst (cs.map nD)) rfl ?_
      refine ex_seq (ex_if (c := decide (cs ∈ gs.map fun g => g.row)) (et_B (ev_peek (i := 4) (o := .lst (gs.zipIdx.map (gD B.K))) (d := .bl (decide (cs ∈ gs.map fun g => g.row))) rfl rfl (fun G2 H2 => ⟨_, ev_eq (ev_inD (ns := intsOf cs) (ls := rowsI gs) (ev_eq (ev_var (i := 6) rfl) (congrArg D.lst (map_nD cs))) (ev_eq (ev_ofO (eo_lcM (j := 8) (l := gs.zipIdx) (enc := gD B.K) (g := fun g => nsD g.1.row) (ev_var (i := 4) rfl) (of_decide_eq_true rfl) (by rw [List.length_zipIdx]; omega) fun G3 H3 g hm => by exact ev_fld (C := He.ga B.K "Group") (fs := [("number", nD g.2), ("cells", nsD g.1.row), ("size", nD g.1.count)]) (ev_var (i := 8) rfl) T.cls_Group T.n_Group_cells rfl)) (rows_eq gs))) (rows_mem cs gs)⟩))) (fun h => ?_) (fun h => ex_next ?_))
      · have hm : cs ∈ gs.map fun g => g.row := of_decide_eq_true h
        have e0 : grpEnd gs cs l p4 = (none, p4) := by unfold grpEnd; rw [if_pos hm]; rfl
        exact ex_raise T.e_NotWhole T.x_NotWhole (hE p4 (iv.trans (bnd_none (bnd_none e0))) _)
      · have hm : ¬ cs ∈ gs.map fun g => g.row := of_decide_eq_false h
        have e0 : grpEnd gs cs l p4 = (bnd (tkM 1 1000000) fun c => ret (gs ++ [⟨cs, c⟩])) l p4 := by unfold grpEnd; rw [if_neg hm]
        rcases z : tkM 1 1000000 l p4 with ⟨_ | c, q⟩
        · exact exE_app (xs := gs.zipIdx.map (gD B.K)) rfl (evE_make (eaE_cons (ev_var (i := 5) rfl) (eaE_cons (ev_var (i := 6) rfl) (eaE_at ((mx_meth (f := f_Reader_take B.K) (m := tkM 1 1000000) (enc := nD) (l := l) (p := p4) (ea_cons (ev_nat 1 (by omega)) (ea_cons (ev_nat 1000000 (by omega)) ea_nil)) rfl rfl rfl rfl ⟨1, 1000000, rfl, l, p4, rfl, rfl, rfl⟩).no q z (hE q (iv.trans (bnd_none (bnd_none (e0.trans (bnd_none z))))) _))))))
        · refine ex_app (xs := gs.zipIdx.map (gD B.K)) rfl (evx_ok (ev_make (f := f_Group_init B.K) (ea_cons (ev_var (i := 5) rfl) (ea_cons (ev_var (i := 6) rfl) (ea_cons ((mx_meth (f := f_Reader_take B.K) (m := tkM 1 1000000) (enc := nD) (l := l) (p := p4) (ea_cons (ev_nat 1 (by omega)) (ea_cons (ev_nat 1000000 (by omega)) ea_nil)) rfl rfl rfl rfl ⟨1, 1000000, rfl, l, p4, rfl, rfl, rfl⟩).ok c q z) ea_nil))) ⟨_, _, _, rfl, rfl, rfl, rfl⟩)) rfl (by rw [List.length_map, List.length_zipIdx]; omega) (fun d z' => ?_)
          cases z'
          refine ⟨gs ++ [⟨cs, c⟩], q, some (.val (.int (i : Int))), some (.val (nsD cs)), y7, ?_, ?_, iv.trans (bnd_step (bnd_some (e0.trans (bnd_some z))))⟩
          · rw [List.zipIdx_append, List.map_append, Nat.zero_add, hg]; rfl
          · rw [List.length_append, hg]; rfl
  · rintro e2 ⟨gs, p3, x5, x6, x7, rfl, hg, iv⟩
    rw [Nat.sub_self] at iv
    have iv : rTable l 0 = tabEnd w gs l p3 := iv
    refine ex_seq (ex_dropM (mx_meth (f := f_Reader_finish B.K) (m := finM) (enc := fun _ => D.non) (l := l) (p := p3) ea_nil rfl rfl rfl rfl ⟨rfl, l, p3, rfl, rfl, rfl⟩) (fun q z => hE q (iv.trans (bnd_none z)) _) (fun u p7 z7 => ?_))
    have iv := iv.trans (bnd_some z7)
    have iv : rTable l 0 = (some ⟨w, gs⟩, p7) := iv
    rw [iv]
    exact ex_ret (ev_make (f := f_Table_init B.K) (ea_cons (ev_var (i := 2) rfl) (ea_cons (ev_own (i := 4) rfl) ea_nil)) ⟨_, _, rfl, rfl, rfl, rfl⟩) rfl
end
end One
namespace One
open PySem PySem.Spec PyProof.Rows L2 NdefX LamX Dl Lm
/-! ### the defs that make lambdas -/
abbrev pS : He.Defn := ("steps_in_order", none)
abbrev pG : He.Defn := ("groups_as_touched", none)
def lamName (d : He.DefD) : Str := (d.qual ++ ".<locals>.") ++ "<lambda>"
def T0 (K : PySem.W.Frag) : List (Addr × Str) := [((He.cT K pS).2, lamName d_steps_in_order), ((He.cT K pG).2, lamName d_groups_as_touched)]
def TTT (K : PySem.W.Frag) : List NTab := (T0 K).map fun p => (p.1, fun _ _ => p.2)
def Tabs2 (K : PySem.W.Frag) (base : Heap) (mg : Str → Option Value) : Prop := ∀ p ∈ tf, TabB base mg (He.cT K p).1 (He.cT K p).2
theorem okL {P : Program} {w : World} {K : PySem.W.Frag} {mg : Str → Option Value} {base : Heap} {x qual : Str} {params : Arguments} {body : List Stmt} {scope : Scope} {dvs : List V} {kws : List (Str × V)} {p : He.Defn} {fd : FuncData} {CX : CXT} {N ps : List Str} {k : Nat} {sp : Sp}
    (F : FunD K x qual params body scope dvs kws (He.fAd K p) fd) (S : FnScope N ps scope) (len : ∀ vs H Q E, sp vs H Q E → vs.length = ps.length)
    (hb : ∀ (A : Around) (outer : List Env) (s : Shared) (H : Hp) (vs : List V) (Q : VK) (E : XK), Room k (A.deeper (envOfC qual scope s.heap.objs.size (He.fAd K p) (.ref (He.codeOf K p)))) → sp vs H Q E →
      ∃ t, PSs (cxOf CX P w K mg base N qual scope (He.fAd K p) (.ref (He.codeOf K p)) A outer s H E) body t ∧ t { nx := fun _ H' => Q .non H', rt := Q } (start N vs) H) : FnOk P w K mg base CX (k + 1) (He.fAd K p) fd ps sp := by
  obtain ⟨oc, od, dV, kV, doc, pm, an, cdv, ct, osl, rfl, lk, hcd, _, _⟩ := F.ex
  obtain ⟨c, rfl⟩ := He.codeIn_ref hcd
  obtain rfl : He.codeOf K p = c := He.codeOf_eq lk rfl
  exact fn_of lk hcd S len fun A outer s H vs Q E hr h => hb A outer s H vs Q E hr h
theorem mem_S {K : PySem.W.Frag} : ((He.cT K pS).2, lamName d_steps_in_order) ∈ T0 K := List.mem_cons_self ..
theorem mem_G {K : PySem.W.Frag} : ((He.cT K pG).2, lamName d_groups_as_touched) ∈ T0 K := List.mem_cons_of_mem _ (List.mem_cons_self ..)
theorem one_S {K : PySem.W.Frag} (ne : (He.cT K pS).2 ≠ (He.cT K pG).2) : ∀ p ∈ T0 K, p.1 = (He.cT K pS).2 → p.2 = lamName d_steps_in_order := fun p hp e => by
  rcases List.mem_cons.mp hp with rfl | hp
  · rfl
  · rw [List.mem_singleton.mp hp] at e
    exact absurd e.symm ne
theorem one_G {K : PySem.W.Frag} (ne : (He.cT K pS).2 ≠ (He.cT K pG).2) : ∀ p ∈ T0 K, p.1 = (He.cT K pG).2 → p.2 = lamName d_groups_as_touched := fun p hp e => by
  rcases List.mem_cons.mp hp with rfl | hp
  · exact absurd e ne
  · rw [List.mem_singleton.mp hp]
/-! ### what is put in order -/
noncomputable def ordS (q : VaidxBase.Question) (l : List Sp1) : List Sp1 := l.mergeSort (PySem.W.dataLe q.back fun s => pdI (intsOf (q.order.map (VaidxBase.valueAt s.g.1.row))))
noncomputable def ordG (cs : List Nat) (l : List Gr) : List Gr := l.mergeSort (PySem.W.dataLe false fun g => pdI (intsOf (cs.map (VaidxBase.valueAt g.1.row))))
noncomputable def touchedG (t : VaidxBase.Table) (i : VaidxBase.Index) (q : VaidxBase.Question) : List Gr := if q.back = true then (ordG i.keys (inRange t i q)).reverse else ordG i.keys (inRange t i q)
theorem ordS_mem {q : VaidxBase.Question} {l : List Sp1} {s : Sp1} : s ∈ ordS q l ↔ s ∈ l := (List.mergeSort_perm _ _).mem_iff
theorem ordS_len (q : VaidxBase.Question) (l : List Sp1) : (ordS q l).length = l.length := (List.mergeSort_perm _ _).length_eq
theorem ordG_mem {cs : List Nat} {l : List Gr} {s : Gr} : s ∈ ordG cs l ↔ s ∈ l := (List.mergeSort_perm _ _).mem_iff
theorem ordG_len (cs : List Nat) (l : List Gr) : (ordG cs l).length = l.length := (List.mergeSort_perm _ _).length_eq
theorem touched_mem {t : VaidxBase.Table} {i : VaidxBase.Index} {q : VaidxBase.Question} {g : Gr} : g ∈ touchedG t i q ↔ g ∈ inRange t i q := by
  unfold touchedG
  split
  · rw [List.mem_reverse, ordG_mem]
  · exact ordG_mem
theorem touched_len (t : VaidxBase.Table) (i : VaidxBase.Index) (q : VaidxBase.Question) : (touchedG t i q).length = (inRange t i q).length := by
  unfold touchedG
  split
  · rw [List.length_reverse, ordG_len]
  · exact ordG_len _ _
theorem range_len (t : VaidxBase.Table) (i : VaidxBase.Index) (q : VaidxBase.Question) : (inRange t i q).length ≤ t.groups.length := by
  unfold inRange
  refine Nat.le_trans (List.length_filter_le _ _) (Nat.le_trans (List.length_filter_le _ _) ?_)
  rw [List.length_zipIdx]
  exact Nat.le_refl _
theorem range_mem {t : VaidxBase.Table} {i : VaidxBase.Index} {q : VaidxBase.Question} {g : Gr} (h : g ∈ inRange t i q) : g ∈ t.groups.zipIdx := (List.mem_filter.mp (List.mem_filter.mp h).1).1
end One
set_option maxHeartbeats 400000
namespace One
open PySem PySem.Spec PyProof.Rows L2 NdefX LamX Dl Lm
def lsS : Scope := { kind := .function, names := [("step", .local), ("question", .free), ("cells_in_order", .globalImplicit)], isGenerator := false, isCoroutine := false, more := [] }
def lsG : Scope := { kind := .function, names := [("group", .cell), ("index", .free)], isGenerator := false, isCoroutine := false, more := [("fast", .str "group"), ("fast", .str "column"), ("fast", .str "index")] }
def lbG : Scope := { kind := .function, names := [(".0", .local), ("column", .local), ("group", .free)], isGenerator := false, isCoroutine := false, more := [] }
def la1 (x : Str) (p : Pos) : Arguments := { posonlyargs := [], args := [{ arg := x, annotation := none, pos := p }], vararg := none, kwonlyargs := [], kw_defaults := [], kwarg := none, defaults := [] }
def leS (p1 p2 p3 p4 : Pos) : Expr := .Call (.Name "cells_in_order" p1) [.Name "step" p2, .Name "question" p3] [] p4
def leG (p1 p2 p3 p4 p5 p6 p7 p8 : Pos) : Expr := .ListComp (.Subscript (.Attribute (.Name "group" p1) "cells" p2) (.Name "column" p3) p4) [{ target := .Name "column" p5, iter := .Attribute (.Name "index" p6) "key_columns" p7, ifs := [], is_async := 0 }] lbG p8
section
variable {P : Program} {w : World} {K : PySem.W.Frag} {mg : Str → Option Value} {base : Heap} {TT : List NTab}
theorem scS : defScope s_steps_in_order = { kind := .function, names := [("steps", .local), ("question", .cell), ("sorted", .globalImplicit)], isGenerator := false, isCoroutine := false, more := [] } := rfl
theorem scG : defScope s_groups_as_touched = { kind := .function, names := [("table", .local), ("index", .cell), ("question", .local), ("groups", .local), ("sorted", .globalImplicit), ("groups_in_range", .globalImplicit)], isGenerator := false, isCoroutine := false, more := [] } := rfl
abbrev XS (P : Program) (w : World) (K : PySem.W.Frag) (mg : Str → Option Value) (base : Heap) (A : Around) (outer : List Env) (s : Shared) (H : Hp) (E : XK) : Cx := (cxOf CX0 P w K mg base ["steps", "question"] d_steps_in_order.qual d_steps_in_order.scope (He.fAd K pS) (.ref (He.codeOf K pS)) A outer s H E).nox
abbrev XG (P : Program) (w : World) (K : PySem.W.Frag) (mg : Str → Option Value) (base : Heap) (A : Around) (outer : List Env) (s : Shared) (H : Hp) (E : XK) : Cx := (cxOf CX0 P w K mg base ["table", "index", "question", "groups"] d_groups_as_touched.qual d_groups_as_touched.scope (He.fAd K pG) (.ref (He.codeOf K pG)) A outer s H E).nox
theorem lamok_S {A : Around} {outer : List Env} {s : Shared} {H : Hp} {E : XK} {p0 p1 p2 p3 p4 : Pos} (T : Txt K mg) (TB : Tabs2 K base mg) (hr : Room 6 (XS P w K mg base A outer s H E).A) :
    LamOk (XS P w K mg base A outer s H E) (T0 K) (He.cT K pS).1 (He.cT K pS).2 ["step", "question"] ["question"] [1] (la1 "step" p0) (leS p1 p2 p3 p4) lsS 3 (tCall (sp_cells_in_order K TT) [] (fun _ _ _ => False) (tCons (tVar 0) (tCons (tVar 1) tNil))) := by
  obtain ⟨⟨fd, F, b⟩, kp⟩ := ok_cells_in_order (P := P) (w := w) (base := base) (TT := TT) T
  refine ⟨TB pS (by simp [tf]), rfl, ?_, ?_, rfl, ?_, ?_, rfl, hr, ?_⟩
  · exact mem_S
  · exact one_S T.apart
  · exact ndef_free (sc := defScope s_steps_in_order) (nsc := lsS) (fr := ["question"]) (by decide +kernel)
  · exact ndef_fr (sc := defScope s_steps_in_order) (nsc := lsS) (fr := ["question"]) (by decide +kernel)
  · refine call_plain (arg := "step") (k := 3) (nscope_by (by decide +kernel)) (fun _ _ _ _ _ _ => rfl) fun cc f A s H E r => ?_
    exact pe_call F (r.mono (by decide)) rfl T.glo_cells_in_order kp b .nil pass0 (pa_cons (pv 0) (pa_cons (pv 1) pa_nil))
theorem lamok_G {A : Around} {outer : List Env} {s : Shared} {H : Hp} {E : XK} {p0 p1 p2 p3 p4 p5 p6 p7 p8 : Pos} (T : Txt K mg) (TB : Tabs2 K base mg) (hr : Room 6 (XG P w K mg base A outer s H E).A) :
    LamOk (XG P w K mg base A outer s H E) (T0 K) (He.cT K pG).1 (He.cT K pG).2 ["group", "index", "column"] ["index"] [1] (la1 "group" p0) (leG p1 p2 p3 p4 p5 p6 p7 p8) lsG 3
      (tLc (iList K (tFld K (tVar 1) "key_columns")) (gName 2) tYes (tOp (rIxL K) (tFld K (tVar 0) "cells") (tVar 2)) [2]) := by
  refine ⟨TB pG (by simp [tf]), rfl, ?_, ?_, rfl, ?_, ?_, rfl, hr, ?_⟩
  · exact mem_G
  · exact one_G T.apart
  · exact ndef_free (sc := defScope s_groups_as_touched) (nsc := lsG) (fr := ["index"]) (by decide +kernel)
  · exact ndef_fr (sc := defScope s_groups_as_touched) (nsc := lsG) (fr := ["index"]) (by decide +kernel)
  · refine call_cell (arg := "group") (y := "index") (rest := ["column"]) (k := 3) rfl rfl rfl rfl (by decide) rfl (by decide) (fun _ _ _ _ _ _ => rfl) fun cc f A s H E r => ?_
    exact pe_lc (own := [("column", 2)]) (g := gName 2) (by rfl) (show (["group", "index", "column"] : List Str).Nodup by decide) (pi_list (pe_fld (pv 1) rfl)) (blkOk_by (own := [("column", 2)]) (N := ["group", "index", "column"]) (sc := lsG) (by decide +kernel)) (fun _ _ _ _ _ => pg_name (i := 2) (show (["group", "index", "column"] : List Str).Nodup by decide) rfl (Or.inl rfl)) (fun _ _ _ _ _ => by exact pts_nil) (fun _ _ _ _ _ => by exact (pe_ixB (pe_fldB (pv 0) rfl) (pv 2) (fun _ _ => rfl)))
end
end One
set_option maxHeartbeats 4000000
namespace One
open PySem PySem.Spec PyProof.Rows L2 NdefX Dl Lm
section
variable {P : Program} {w : World} {K : PySem.W.Frag} {mg : Str → Option Value} {base : Heap} {TT : List NTab}
abbrev N_steps_in_order : List Str := ["steps", "question"]
theorem sc_steps_in_order : FnScope N_steps_in_order ["steps", "question"] (defScope s_steps_in_order) := ⟨rfl, rfl, rfl, by decide +kernel, rfl, by decide +kernel, by decide +kernel⟩
def f_steps_in_order (K : PySem.W.Frag) : List D → D → Prop := fun as d => ∃ (l : List Sp1) (q : VaidxBase.Question) (w : Nat), as = [ssD K l, qD K q] ∧ l.length ≤ 12 ∧ (∀ s ∈ l, Gw w s.g) ∧ Qw w q ∧ d = ssD K (ordS q l)
abbrev sp_steps_in_order (K : PySem.W.Frag) (TT : List NTab) : Sp := SpP K TT (f_steps_in_order K)
theorem len_steps_in_order : ∀ (as : List D) d, f_steps_in_order K as d → as.length = 2 := by
  intro as d h
  obtain ⟨_, _, _, rfl, _⟩ := h; rfl
theorem ok_steps_in_order (T : Txt K mg) (TB : Tabs2 K base mg) (hTT : TT = TTT K) : DefOk P w K mg base CX0 7 ("steps_in_order", none) ["steps", "question"] (sp_steps_in_order K TT) := by
  obtain ⟨⟨fd_cells_in_order, F_cells_in_order, b_cells_in_order⟩, kp_cells_in_order⟩ := ok_cells_in_order (P := P) (w := w) (base := base) (TT := TT) T
  obtain ⟨fd, F⟩ := T.def_ (i := 6) (d := d_steps_in_order) rfl
  refine ⟨⟨fd, okL F sc_steps_in_order (sp_lenP (n := 2) len_steps_in_order) (fun A outer s H vs Q E hr h => ?_), F.bindsN fun _ _ _ _ _ _ us hl => match us, hl with | [_, _], _ => rfl⟩, F.kp⟩
  refine ⟨_, PSs.nox (pss_cons (ps_if (pt_val (pe_fld (pv 1) rfl)) (pss_one (ps_ret (pe_sortKR (lamok_S (TT := TT) T TB (hr.mono (by decide))) rfl T.free_sorted (pa_cons (pv 0) pa_nil)))) pss_nil)
    (pss_one (ps_ret (pe_sortK (lamok_S (TT := TT) T TB (hr.mono (by decide))) rfl T.free_sorted (pa_cons (pv 0) pa_nil))))), ?_⟩
  refine body_P 2 rfl (fun as d h => by rw [len_steps_in_order as d h]; decide) (fun B as d hK hT hf => ?_) vs H Q E h
  subst hK hT

  obtain ⟨l, q, w, rfl, hl, hg, hq, rfl⟩ := hf
  unfold ordS
  cases hb : q.back with
  | true =>
    refine ex_seq (ex_if (c := true) (et_B (ev_eq (ev_fld (ev_var (i := 1) rfl) T.cls_Question T.n_Question_backwards rfl) (by rw [hb]))) (fun _ => ?_) (fun h => nomatch h))
    exact ex_ret (ev_ofO (eo_sortK (T0 := T0 B.K) (b := true) (l := l) (enc := sD B.K) (kk := fun s => intsOf (q.order.map (VaidxBase.valueAt s.g.1.row))) hTT (ev_var (i := 0) rfl) (by omega) (fun G2 H2 s hm => ⟨_, ev_eq (ev_call (f := f_cells_in_order _) (ea_cons (ev_var (i := 0) rfl) (ea_cons (ev_var (i := 1) rfl) ea_nil)) ⟨s, q, w, rfl, hg s hm, hq, rfl⟩) (congrArg D.lst (map_nD _))⟩))) rfl
  | false =>
    refine ex_seq (ex_if (c := false) (et_B (ev_eq (ev_fld (ev_var (i := 1) rfl) T.cls_Question T.n_Question_backwards rfl) (by rw [hb]))) (fun h => nomatch h) (fun _ => ex_next ?_))
    exact ex_ret (ev_ofO (eo_sortK (T0 := T0 B.K) (b := false) (l := l) (enc := sD B.K) (kk := fun s => intsOf (q.order.map (VaidxBase.valueAt s.g.1.row))) hTT (ev_var (i := 0) rfl) (by omega) (fun G2 H2 s hm => ⟨_, ev_eq (ev_call (f := f_cells_in_order _) (ea_cons (ev_var (i := 0) rfl) (ea_cons (ev_var (i := 1) rfl) ea_nil)) ⟨s, q, w, rfl, hg s hm, hq, rfl⟩) (congrArg D.lst (map_nD _))⟩))) rfl
abbrev N_groups_as_touched : List Str := ["table", "index", "question", "groups"]
theorem sc_groups_as_touched : FnScope N_groups_as_touched ["table", "index", "question"] (defScope s_groups_as_touched) := ⟨rfl, rfl, rfl, by decide +kernel, rfl, by decide +kernel, by decide +kernel⟩
def f_groups_as_touched (K : PySem.W.Frag) : List D → D → Prop := fun as d => ∃ (t : VaidxBase.Table) (i : VaidxBase.Index) (q : VaidxBase.Question) (w : Nat), as = [tD K t, iD K i, qD K q] ∧ Tw w t ∧ Iw w i ∧ Qw w q ∧ d = gsD K (touchedG t i q)
abbrev sp_groups_as_touched (K : PySem.W.Frag) (TT : List NTab) : Sp := SpP K TT (f_groups_as_touched K)
theorem len_groups_as_touched : ∀ (as : List D) d, f_groups_as_touched K as d → as.length = 3 := by
  intro as d h
  obtain ⟨_, _, _, _, rfl, _⟩ := h; rfl
theorem ok_groups_as_touched (T : Txt K mg) (TB : Tabs2 K base mg) (hTT : TT = TTT K) : DefOk P w K mg base CX0 7 ("groups_as_touched", none) ["table", "index", "question"] (sp_groups_as_touched K TT) := by
  obtain ⟨⟨fd_groups_in_range, F_groups_in_range, b_groups_in_range⟩, kp_groups_in_range⟩ := ok_groups_in_range (P := P) (w := w) (base := base) (TT := TT) T
  obtain ⟨fd, F⟩ := T.def_ (i := 63) (d := d_groups_as_touched) rfl
  refine ⟨⟨fd, okL F sc_groups_as_touched (sp_lenP (n := 3) len_groups_as_touched) (fun A outer s H vs Q E hr h => ?_), F.bindsN fun _ _ _ _ _ _ us hl => match us, hl with | [_, _, _], _ => rfl⟩, F.kp⟩
  refine ⟨_, PSs.nox (pss_cons (ps_set (i := 3) sc_groups_as_touched.nd rfl (Or.inl rfl) (pe_sortK (lamok_G T TB (hr.mono (by decide))) rfl T.free_sorted (pa_cons (pe_call F_groups_in_range (hr.mono (by decide)) rfl T.glo_groups_in_range kp_groups_in_range b_groups_in_range .nil pass0 (pa_cons (pv 0) (pa_cons (pv 1) (pa_cons (pv 2) pa_nil)))) pa_nil)))
    (pss_cons (ps_if (pt_val (pe_fld (pv 2) rfl)) (pss_one (ps_expr (pe_bm0 PySem.F.plainAttrs_list PySem.F.slot_list_reverse PySem.F.type_list_reverse mt_reverse (pv 3)))) pss_nil)
    (pss_one (ps_ret (pv 3))))), ?_⟩
  refine body_P 4 rfl (fun as d h => by rw [len_groups_as_touched as d h]; decide) (fun B as d hK hT hf => ?_) vs H Q E h
  subst hK hT

  obtain ⟨t, i, q, w, rfl, ht, hi, hq, rfl⟩ := hf
  have kl := hi.kl
  have rl := range_len t i q
  have tl := ht.len
  refine ex_seq (ex_setO (eo_sortK (T0 := T0 B.K) (b := false) (l := inRange t i q) (enc := gD B.K) (kk := fun g => intsOf (i.keys.map (VaidxBase.valueAt g.1.row))) hTT (ev_call (f := f_groups_in_range _) (ea_cons (ev_var (i := 0) rfl) (ea_cons (ev_var (i := 1) rfl) (ea_cons (ev_var (i := 2) rfl) ea_nil))) ⟨t, i, q, w, rfl, ht, hi, hq, rfl⟩) (by omega) (fun G2 H2 g hm => ⟨_, ev_eq (ev_ofO (eo_lcM (l := i.keys) (enc := nD) (j := 2) (g := fun c => nD (VaidxBase.valueAt g.1.row c)) (ev_fld (C := He.ga B.K "Index") (fs := [("key_columns", nsD i.keys), ("included", nsD i.others), ("condition", oD B.K i.only)]) (ev_var (i := 1) rfl) T.cls_Index T.n_Index_key_columns rfl) (of_decide_eq_true rfl) (by omega) fun G3 H3 c hc => ?_)) ?_⟩)) (of_decide_eq_true rfl) ?_)
  · exact ev_ix (j := c) (ev_fld (C := He.ga B.K "Group") (fs := [("number", nD g.2), ("cells", nsD g.1.row), ("size", nD g.1.count)]) (ev_var (i := 0) rfl) T.cls_Group T.n_Group_cells rfl) (ev_var (i := 2) (d := .int (c : Int)) rfl) (by rw [List.getElem?_map, getD_at (by rw [(ht.gs g (range_mem hm)).row]; exact hi.keys c hc)]; rfl)
  · show D.lst _ = D.lst _
    rw [List.map_map, List.map_map]
    rfl
  · show Ex B _ [some (.val (tD B.K t)), some (.val (iD B.K i)), some (.val (qD B.K q)), some (.own (.lst ((ordG i.keys (inRange t i q)).map (gD B.K))))] _
    unfold touchedG
    cases hb : q.back with
    | true =>
      refine ex_seq (ex_if (c := true) (et_B (ev_eq (ev_fld (ev_var (i := 2) rfl) T.cls_Question T.n_Question_backwards rfl) (by rw [hb]))) (fun _ => ?_) (fun h => nomatch h))
      refine ex_rev (i := 3) rfl (ex_ret (ev_own (i := 3) rfl) ?_)
      show D.lst _ = D.lst _
      rw [← List.map_reverse]
      rfl
    | false =>
      refine ex_seq (ex_if (c := false) (et_B (ev_eq (ev_fld (ev_var (i := 2) rfl) T.cls_Question T.n_Question_backwards rfl) (by rw [hb]))) (fun h => nomatch h) (fun _ => ex_next ?_))
      exact ex_ret (ev_own (i := 3) rfl) rfl
end
end One
namespace One
open PySem PySem.Spec PyProof.Rows L2 NdefX Dl
/-! ### the two ways, the shares -/
def wayT (t : VaidxBase.Table) (q : VaidxBase.Question) : Wy := ⟨q, t.groups.zipIdx, (VaidxBase.orderLeft q).isEmpty, 2, none⟩
noncomputable def wayI (t : VaidxBase.Table) (i : VaidxBase.Index) (q : VaidxBase.Question) : Wy := ⟨q, touchedG t i q, VaidxBase.isFree i q, 1, if VaidxBase.covers i q = true then none else some ((VaidxBase.columnsOf i).filterMap (VaidxBase.filterOn q))⟩
theorem wayT_ok {w : Nat} {t : VaidxBase.Table} {q : VaidxBase.Question} (ht : Tw w t) (hq : Qw w q) : Ww w (wayT t q) := ⟨hq, ht.gs, by show t.groups.zipIdx.length ≤ 12; rw [List.length_zipIdx]; exact ht.len, (by show 2 ≤ 10; omega), fun l h => nomatch h⟩
theorem wayI_ok {w : Nat} {t : VaidxBase.Table} {i : VaidxBase.Index} {q : VaidxBase.Question} (ht : Tw w t) (hi : Iw w i) (hq : Qw w q) : Ww w (wayI t i q) := by
  refine ⟨hq, fun g hg => ht.gs g (range_mem (touched_mem.mp hg)), ?_, (by show 1 ≤ 10; omega), fun l h => ?_⟩
  · show (touchedG t i q).length ≤ 12
    rw [touched_len]
    exact Nat.le_trans (range_len t i q) ht.len
  · have h : (if VaidxBase.covers i q = true then none else some ((VaidxBase.columnsOf i).filterMap (VaidxBase.filterOn q))) = some l := h
    split at h
    · cases h
    · obtain rfl := Option.some.inj h
      refine ⟨fun f hf => ?_, ?_⟩
      · obtain ⟨c, _, hc⟩ := List.mem_filterMap.mp hf
        exact hq.fs f (List.mem_of_find?_eq_some hc)
      · have l1 := on_len (q := q) (VaidxBase.columnsOf i)
        have l2 : (VaidxBase.columnsOf i).length ≤ 8 := by
          unfold VaidxBase.columnsOf
          rw [List.length_append]
          have := hi.kl
          have := hi.ol
          omega
        omega
theorem steps_mem (y : Wy) : ∀ (l : List Gr) (m : Nat) (s : Sp1), s ∈ y.steps l m → s.g ∈ l
  | [], m, s, h => nomatch h
  | g :: l, m, s, h => by
    rw [Wy.steps] at h
    rcases List.mem_cons.mp h with rfl | h
    · exact List.mem_cons_self ..
    · split at h
      · cases h
      · exact List.mem_cons_of_mem _ (steps_mem y l _ s h)
noncomputable def Wy.shares (y : Wy) : List (Gr × Nat) := One.shares (if y.free = true then y.steps y.gs y.stop else ordS y.q (y.steps y.gs y.stop)) (limitOf (if y.free = true then y.steps y.gs y.stop else ordS y.q (y.steps y.gs y.stop)) y.q.limit)
/-! ### the bench -/
abbrev Bst := Vaidxb.State
def otD (K : PySem.W.Frag) : Option VaidxBase.Table → D
  | none => .non
  | some t => tD K t
def oqD (K : PySem.W.Frag) : Option VaidxBase.Question → D
  | none => .non
  | some q => qD K q
def oxD (K : PySem.W.Frag) : Option VaidxBase.Index → D
  | none => .non
  | some i => iD K i
def bF (K : PySem.W.Frag) (s : Bst) : List (Str × D) := [("table", otD K s.table), ("question", oqD K s.question), ("index", oxD K s.index)]
/-- what a bench holds is whole -/
structure Sw (s : Bst) : Prop where
  t : ∀ t, s.table = some t → 1 ≤ t.cols ∧ t.cols ≤ 4 ∧ Tw t.cols t
  q : ∀ t q, s.table = some t → s.question = some q → Qw t.cols q
  i : ∀ t i, s.table = some t → s.index = some i → Iw t.cols i
def errT (s : Bst) : Option Int := match s.table with
  | none => some (-8)
  | some _ => none
def errQ (s : Bst) : Option Int := match errT s with
  | some e => some e
  | none => (match s.question with
    | none => some (-9)
    | some _ => none)
def errI (s : Bst) : Option Int := match errQ s with
  | some e => some e
  | none => (match s.index with
    | none => some (-7)
    | some _ => none)
def svB (s : Bst) : Bool := match s.index, s.question with
  | some i, some q => VaidxBase.serves i q
  | _, _ => false
def errS (s : Bst) : Option Int := match errI s with
  | some e => some e
  | none => if svB s = true then none else some (-6)
def resE (d : D) : Option Int → Res
  | some e => .error e
  | none => .ok d
theorem errT_no {s : Bst} (h : errT s = none) : ∃ t, s.table = some t := by
  unfold errT at h
  cases e : s.table with
  | none => rw [e] at h; cases h
  | some t => exact ⟨t, rfl⟩
theorem errQ_no {s : Bst} (h : errQ s = none) : ∃ t q, s.table = some t ∧ s.question = some q := by
  unfold errQ at h
  cases e : errT s with
  | some z => rw [e] at h; cases h
  | none =>
    rw [e] at h
    obtain ⟨t, ht⟩ := errT_no e
    cases e2 : s.question with
    | none => rw [e2] at h; cases h
    | some q => exact ⟨t, q, ht, rfl⟩
theorem errI_no {s : Bst} (h : errI s = none) : ∃ t q i, s.table = some t ∧ s.question = some q ∧ s.index = some i := by
  unfold errI at h
  cases e : errQ s with
  | some z => rw [e] at h; cases h
  | none =>
    rw [e] at h
    obtain ⟨t, q, ht, hq⟩ := errQ_no e
    cases e2 : s.index with
    | none => rw [e2] at h; cases h
    | some i => exact ⟨t, q, i, ht, hq, rfl⟩
theorem errS_no {s : Bst} (h : errS s = none) : ∃ t q i, s.table = some t ∧ s.question = some q ∧ s.index = some i ∧ VaidxBase.serves i q = true := by
  unfold errS at h
  cases e : errI s with
  | some z => rw [e] at h; cases h
  | none =>
    rw [e] at h
    obtain ⟨t, q, i, ht, hq, hi⟩ := errI_no e
    have h : (if svB s = true then none else some (-6 : Int)) = none := h
    split at h
    · rename_i c
      unfold svB at c
      rw [hi, hq] at c
      exact ⟨t, q, i, ht, hq, hi, c⟩
    · cases h
/-! ### what each call answers -/
def b01 (b : Bool) : Int := if b = true then 1 else 0
def insD (l : List Int) : D := .lst (l.map D.int)
def ansPlan (t : VaidxBase.Table) (q : VaidxBase.Question) (i : VaidxBase.Index) : List Int :=
  [(VaidxBase.equalKeys q i.keys : Nat), ((((i.keys.drop (VaidxBase.equalKeys q i.keys)).take 1).filterMap (VaidxBase.filterOn q)).length : Nat), b01 (VaidxBase.covers i q), b01 (VaidxBase.isFree i q), (VaidxBase.rowsOf ((inRange t i q).map (·.1)) : Nat)]
def ansWhy (q : VaidxBase.Question) (i : VaidxBase.Index) : List Int := [Vaidxb.orNone (Vaidxb.unserved i q), Vaidxb.orNone (Vaidxb.lacking i q), Vaidxb.orNone (Vaidxb.unfree i q)]
noncomputable def ansWork (t : VaidxBase.Table) (q : VaidxBase.Question) (i : VaidxBase.Index) : List Int := [((wayI t i q).work.touched : Nat), ((wayI t i q).work.looked : Nat), ((wayI t i q).work.sorted : Nat), ((wayI t i q).work.cost : Nat)]
def ansWhole (t : VaidxBase.Table) (q : VaidxBase.Question) : List Int := [((wayT t q).work.touched : Nat), ((wayT t q).work.sorted : Nat), ((wayT t q).work.cost : Nat)]
noncomputable def ansBest (t : VaidxBase.Table) (q : VaidxBase.Question) (i : VaidxBase.Index) : List Int :=
  if VaidxBase.serves i q = true then (if (wayI t i q).work.cost < (wayT t q).work.cost then [1, ((wayI t i q).work.cost : Nat), ((wayT t q).work.cost : Nat)] else [0, ((wayT t q).work.cost : Nat), ((wayI t i q).work.cost : Nat)]) else [0, ((wayT t q).work.cost : Nat), -1]
def toldS (s : Sp1) : List Int := [(s.g.2 : Nat), (s.touched : Nat), (s.looked : Nat), (s.found : Nat)]
def ansTrace (y : Wy) : List Int := ((y.steps y.gs y.stop).length : Nat) :: (y.steps y.gs y.stop).flatMap toldS
def toldH (h : Gr × Nat) : List Int := [(h.1.2 : Nat), (h.2 : Nat)]
noncomputable def ansAnswer (y : Wy) : List Int := (y.shares.length : Nat) :: y.shares.flatMap toldH
def Wy.ran (y : Wy) : Rn := y.run (each y.gs) ⟨0, 0, []⟩
def ansRows (y : Wy) : List Int := ([((y.ran.touched : Nat) : Int), ((y.ran.looked : Nat) : Int), ((if y.free = true then 0 else y.ran.hits.length : Nat) : Int), ((y.ran.hits.length : Nat) : Int)] : List Int) ++ y.ran.hits.map fun g => (g.2 : Int)
noncomputable def ansPrefixes (t : VaidxBase.Table) (q : VaidxBase.Question) (i : VaidxBase.Index) : List Int := (i.keys.length : Nat) :: (List.range i.keys.length).map fun k => ((wayI t (Vaidxb.shorter i (k + 1)) q).work.cost : Int)
/-- a way that is told by its number -/
noncomputable def told (s : Bst) (k : Int) : Except Int Wy := match errT s with
  | some e => .error e
  | none => if k = 0 ∨ k = 1 then (match s.table, s.question with
      | some t, some q => if k = 0 then .ok (wayT t q) else (match s.index with
        | some i => if VaidxBase.serves i q = true then .ok (wayI t i q) else .error (-6)
        | none => .error (-7))
      | _, _ => .error (-9)) else .error (-5)
end One
namespace One
open PySem PySem.Spec PyProof.Rows L2 NdefX Dl
section
variable {P : Program} {w : World} {K : PySem.W.Frag} {mg : Str → Option Value} {base : Heap} {TT : List NTab}
abbrev N_way_by_index : List Str := ["table", "index", "question", "look_up_filters", "groups"]
theorem sc_way_by_index : FnScope N_way_by_index ["table", "index", "question"] (defScope s_way_by_index) := ⟨rfl, rfl, rfl, by decide +kernel, rfl, by decide +kernel, by decide +kernel⟩
def f_way_by_index (K : PySem.W.Frag) : List D → D → Prop := fun as d => ∃ (t : VaidxBase.Table) (i : VaidxBase.Index) (q : VaidxBase.Question) (w : Nat), as = [tD K t, iD K i, qD K q] ∧ Tw w t ∧ Iw w i ∧ Qw w q ∧ d = wD K (wayI t i q)
abbrev sp_way_by_index (K : PySem.W.Frag) (TT : List NTab) : Sp := SpP K TT (f_way_by_index K)
theorem len_way_by_index : ∀ (as : List D) d, f_way_by_index K as d → as.length = 3 := by
  intro as d h
  obtain ⟨_, _, _, _, rfl, _⟩ := h; rfl
theorem ok_way_by_index (T : Txt K mg) (TB : Tabs2 K base mg) (hTT : TT = TTT K) : DefOk P w K mg base CX0 8 ("way_by_index", none) ["table", "index", "question"] (sp_way_by_index K TT) := by
  obtain ⟨⟨fd_Index_own_columns, F_Index_own_columns, b_Index_own_columns⟩, kp_Index_own_columns⟩ := ok_Index_own_columns (P := P) (w := w) (base := base) (TT := TT) T
  obtain ⟨⟨fd_Question_filters_on, F_Question_filters_on, b_Question_filters_on⟩, kp_Question_filters_on⟩ := ok_Question_filters_on (P := P) (w := w) (base := base) (TT := TT) T
  obtain ⟨⟨fd_covers, F_covers, b_covers⟩, kp_covers⟩ := ok_covers (P := P) (w := w) (base := base) (TT := TT) T
  obtain ⟨⟨fd_groups_as_touched, F_groups_as_touched, b_groups_as_touched⟩, kp_groups_as_touched⟩ := ok_groups_as_touched (P := P) (w := w) (base := base) (TT := TT) T TB hTT
  obtain ⟨⟨fd_is_free, F_is_free, b_is_free⟩, kp_is_free⟩ := ok_is_free (P := P) (w := w) (base := base) (TT := TT) T
  obtain ⟨⟨fd_Way_init, F_Way_init, b_Way_init⟩, kp_Way_init⟩ := ok_Way_init (P := P) (w := w) (base := base) (TT := TT) T
  obtain ⟨fd, F⟩ := T.def_ (i := 62) (d := d_way_by_index) rfl
  refine ⟨⟨fd, FunD.ok F sc_way_by_index (sp_lenP (n := 3) len_way_by_index) (fun cdv A outer s H vs Q E hr h => ?_), F.bindsN fun _ _ _ _ _ _ us hl => match us, hl with | [_, _, _], _ => rfl⟩, F.kp⟩
  refine ⟨_, PSs.nox (pss_cons (ps_set (i := 3) sc_way_by_index.nd rfl (Or.inl rfl) pe_non)
    (pss_cons (ps_if (pt_not (pt_val (pe_call F_covers (hr.mono (by decide)) rfl T.glo_covers kp_covers b_covers .nil pass0 (pa_cons (pv 1) (pa_cons (pv 2) pa_nil))))) (pss_one (ps_set (i := 3) sc_way_by_index.nd rfl (Or.inl rfl) (pe_meth (pv 2) T.cls_Question T.meth_Question_filters_on F_Question_filters_on (hr.mono (by decide)) b_Question_filters_on .nil pass0 (pa_cons (pe_meth0 (pv 1) T.cls_Index T.meth_Index_own_columns F_Index_own_columns (hr.mono (by decide)) b_Index_own_columns .nil pass0) pa_nil)))) pss_nil)
    (pss_cons (ps_set (i := 4) sc_way_by_index.nd rfl (Or.inl rfl) (pe_call F_groups_as_touched (hr.mono (by decide)) rfl T.glo_groups_as_touched kp_groups_as_touched b_groups_as_touched .nil pass0 (pa_cons (pv 0) (pa_cons (pv 1) (pa_cons (pv 2) pa_nil)))))
    (pss_one (ps_ret (pe_make T.mkr_Way F_Way_init (hr.mono (by decide)) rfl T.glo_Way b_Way_init .nil pass0 (pa_cons (pv 2) (pa_cons (pv 4) (pa_cons (pe_call F_is_free (hr.mono (by decide)) rfl T.glo_is_free kp_is_free b_is_free .nil pass0 (pa_cons (pv 1) (pa_cons (pv 2) pa_nil))) (pa_cons (pe_gI rfl T.int_INDEX_TOUCH_COST) (pa_cons (pv 3) pa_nil))))))))))), ?_⟩
  refine body_P 5 rfl (fun as d h => by rw [len_way_by_index as d h]; decide) (fun B as d hK hT hf => ?_) vs H Q E h
  subst hK hT

  obtain ⟨t, i, q, w, rfl, ht, hi, hq, rfl⟩ := hf
  have cl : (VaidxBase.columnsOf i).length ≤ 100 := by
    unfold VaidxBase.columnsOf
    rw [List.length_append]
    have := hi.kl
    have := hi.ol
    omega
  refine ex_seq (ex_set ev_non (of_decide_eq_true rfl) ?_)
  refine ex_mid [some (.val (tD B.K t)), some (.val (iD B.K i)), some (.val (qD B.K q)), some (.val (lkD B.K (wayI t i q).look)), none] ?_ ?_
  · refine ex_if (c := !VaidxBase.covers i q) (et_not (et_B (ev_call (f := f_covers _) (ea_cons (ev_var (i := 1) rfl) (ea_cons (ev_var (i := 2) rfl) ea_nil)) ⟨i, q, rfl, hi.kl, hi.ol, hq.fl, hq.ol, hq.wl, rfl⟩))) (fun h => ?_) (fun h => ex_next ?_)
    · have hc : VaidxBase.covers i q = false := by simpa using h
      refine ex_set (ev_meth (f := f_Question_filters_on _) (ev_var (i := 2) rfl) rfl (ea_cons (ev_meth (f := f_Index_own_columns _) (ev_var (i := 1) rfl) rfl ea_nil ⟨i, rfl, hi.kl, hi.ol, rfl⟩) ea_nil) ⟨q, VaidxBase.columnsOf i, rfl, hq.nd, hq.fl, cl, rfl⟩) (of_decide_eq_true rfl) ?_
      unfold wayI
      rw [hc]
      rfl
    · have hc : VaidxBase.covers i q = true := by simpa using h
      unfold wayI
      rw [hc]
      rfl
  · refine ex_seq (ex_set (ev_call (f := f_groups_as_touched _) (ea_cons (ev_var (i := 0) rfl) (ea_cons (ev_var (i := 1) rfl) (ea_cons (ev_var (i := 2) rfl) ea_nil))) ⟨t, i, q, w, rfl, ht, hi, hq, rfl⟩) (of_decide_eq_true rfl) ?_)
    exact ex_ret (ev_make (f := f_Way_init B.K) (ea_cons (ev_var (i := 2) rfl) (ea_cons (ev_var (i := 4) rfl) (ea_cons (ev_call (f := f_is_free _) (ea_cons (ev_var (i := 1) rfl) (ea_cons (ev_var (i := 2) rfl) ea_nil)) ⟨i, q, rfl, hi.kl, hq.nd, hq.fl, hq.ol, rfl⟩) (ea_cons (ev_int (i := 1)) (ea_cons (ev_var (i := 3) rfl) ea_nil))))) ⟨_, _, _, _, _, rfl, rfl, rfl, rfl⟩) rfl
abbrev N_shares_answered : List Str := ["way", "steps"]
theorem sc_shares_answered : FnScope N_shares_answered ["way"] (defScope s_shares_answered) := ⟨rfl, rfl, rfl, by decide +kernel, rfl, by decide +kernel, by decide +kernel⟩
def f_shares_answered (K : PySem.W.Frag) : List D → D → Prop := fun as d => ∃ (y : Wy) (w : Nat), as = [wD K y] ∧ Ww w y ∧ d = hsD K y.shares
abbrev sp_shares_answered (K : PySem.W.Frag) (TT : List NTab) : Sp := SpP K TT (f_shares_answered K)
theorem len_shares_answered : ∀ (as : List D) d, f_shares_answered K as d → as.length = 1 := by
  intro as d h
  obtain ⟨_, _, rfl, _⟩ := h; rfl
theorem ok_shares_answered (T : Txt K mg) (TB : Tabs2 K base mg) (hTT : TT = TTT K) : DefOk P w K mg base CX0 8 ("shares_answered", none) ["way"] (sp_shares_answered K TT) := by
  obtain ⟨⟨fd_first_shares, F_first_shares, b_first_shares⟩, kp_first_shares⟩ := ok_first_shares (P := P) (w := w) (base := base) (TT := TT) T
  obtain ⟨⟨fd_steps_in_order, F_steps_in_order, b_steps_in_order⟩, kp_steps_in_order⟩ := ok_steps_in_order (P := P) (w := w) (base := base) (TT := TT) T TB hTT
  obtain ⟨⟨fd_steps_of, F_steps_of, b_steps_of⟩, kp_steps_of⟩ := ok_steps_of (P := P) (w := w) (base := base) (TT := TT) T
  obtain ⟨fd, F⟩ := T.def_ (i := 5) (d := d_shares_answered) rfl
  refine ⟨⟨fd, FunD.ok F sc_shares_answered (sp_lenP (n := 1) len_shares_answered) (fun cdv A outer s H vs Q E hr h => ?_), F.bindsN fun _ _ _ _ _ _ us hl => match us, hl with | [_], _ => rfl⟩, F.kp⟩
  refine ⟨_, PSs.nox (pss_cons (ps_set (i := 1) sc_shares_answered.nd rfl (Or.inl rfl) (pe_call F_steps_of (hr.mono (by decide)) rfl T.glo_steps_of kp_steps_of b_steps_of .nil pass0 (pa_cons (pv 0) pa_nil)))
    (pss_cons (ps_if (pt_not (pt_val (pe_fld (pv 0) rfl))) (pss_one (ps_set (i := 1) sc_shares_answered.nd rfl (Or.inl rfl) (pe_call F_steps_in_order (hr.mono (by decide)) rfl T.glo_steps_in_order kp_steps_in_order b_steps_in_order .nil pass0 (pa_cons (pv 1) (pa_cons (pe_fld (pv 0) rfl) pa_nil))))) pss_nil)
    (pss_one (ps_ret (pe_call F_first_shares (hr.mono (by decide)) rfl T.glo_first_shares kp_first_shares b_first_shares .nil pass0 (pa_cons (pv 1) (pa_cons (pe_fld (pe_fld (pv 0) rfl) rfl) pa_nil))))))), ?_⟩
  refine body_P 2 rfl (fun as d h => by rw [len_shares_answered as d h]; decide) (fun B as d hK hT hf => ?_) vs H Q E h
  subst hK hT

  obtain ⟨y, w, rfl, hw, rfl⟩ := hf
  have sl := steps_len y y.gs y.stop
  have gl := hw.gl
  refine ex_seq (ex_set (ev_call (f := f_steps_of _) (ea_cons (ev_var (i := 0) rfl) ea_nil) ⟨y, w, rfl, hw, rfl⟩) (of_decide_eq_true rfl) ?_)
  refine ex_mid [some (.val (wD B.K y)), some (.val (ssD B.K (if y.free = true then y.steps y.gs y.stop else ordS y.q (y.steps y.gs y.stop))))] ?_ ?_
  · refine ex_if (c := !y.free) (et_not (et_B (ev_fld (ev_var (i := 0) rfl) T.cls_Way T.n_Way_free rfl))) (fun h => ?_) (fun h => ex_next ?_)
    · have hc : y.free = false := by simpa using h
      refine ex_set (ev_call (f := f_steps_in_order _) (ea_cons (ev_var (i := 1) rfl) (ea_cons (ev_fld (ev_var (i := 0) rfl) T.cls_Way T.n_Way_question rfl) ea_nil)) ⟨y.steps y.gs y.stop, y.q, w, rfl, by omega, fun s hs => hw.gs _ (steps_mem y _ _ s hs), hw.q, rfl⟩) (of_decide_eq_true rfl) ?_
      rw [hc]
      rfl
    · have hc : y.free = true := by simpa using h
      rw [hc]
      rfl
  · refine ex_ret (ev_call (f := f_first_shares _) (ea_cons (ev_var (i := 1) rfl) (ea_cons (ev_fld (ev_fld (ev_var (i := 0) rfl) T.cls_Way T.n_Way_question rfl) T.cls_Question T.n_Question_limit rfl) ea_nil)) ⟨_, y.q.limit, rfl, ?_, rfl⟩) rfl
    split
    · omega
    · rw [ordS_len]; omega
end
end One
namespace One
open PySem PySem.Spec PyProof.Rows L2 NdefX Dl
open VaidxBase (Group Table Filter Index)
/-! ### what is read is whole -/
theorem rep_inv {α : Type} {f : Nat → α → Md α} {l : List Int} (I : Nat → α → Prop) (hs : ∀ i a p b q, I i a → f i a l p = (some b, q) → I (i + 1) b) : ∀ {n i : Nat} {a b : α} {p q : Nat}, I i a → rep f n i a l p = (some b, q) → I (i + n) b
  | 0, i, a, b, p, q, h, e => by
    cases (Prod.mk.inj e).1
    exact h
  | n + 1, i, a, b, p, q, h, e => by
    rcases z : f i a l p with ⟨_ | c, r⟩
    · rw [show rep f (n + 1) i a = bnd (f i a) (rep f n (i + 1)) from rfl, bnd_none z] at e; cases e
    · rw [show rep f (n + 1) i a = bnd (f i a) (rep f n (i + 1)) from rfl, bnd_some z] at e
      have := rep_inv I hs (hs i a p c r h z) e
      rw [show i + (n + 1) = i + 1 + n by omega]
      exact this
theorem bnd_ok {α β : Type} {m : Md α} {k : α → Md β} {l : List Int} {p q : Nat} {b : β} (h : bnd m k l p = (some b, q)) : ∃ a r, m l p = (some a, r) ∧ k a l r = (some b, q) := by
  rcases z : m l p with ⟨_ | a, r⟩
  · rw [bnd_none z] at h; cases h
  · rw [bnd_some z] at h
    exact ⟨a, r, rfl, h⟩
theorem rFilter_ok {w : Nat} (hw : 1 ≤ w) {l : List Int} {p q : Nat} {f : Filter} (h : rFilter w l p = (some f, q)) : Fw w f := by
  obtain ⟨c, p1, z1, h⟩ := bnd_ok h
  obtain ⟨lo, p2, z2, h⟩ := bnd_ok h
  obtain ⟨hi, p3, z3, h⟩ := bnd_ok h
  cases (Prod.mk.inj h).1
  have := tkM_le z1
  exact ⟨by show c < w; omega⟩
theorem rFilters_ok {w : Nat} (hw : 1 ≤ w) {l : List Int} {p q : Nat} {fs : List Filter} (h : rFilters w l p = (some fs, q)) : (∀ f ∈ fs, Fw w f) ∧ fs.length ≤ w ∧ (fs.map fun f => f.col).Nodup := by
  obtain ⟨n, p1, z1, h⟩ := bnd_ok h
  obtain ⟨gs, p2, z2, h⟩ := bnd_ok h
  have le := tkM_le z1
  obtain ⟨h1, h2⟩ := rep_inv (fun i (gs : List Filter) => gs.length = i ∧ ∀ f ∈ gs, Fw w f) (fun i a p b q ⟨h1, h2⟩ e => by
    obtain ⟨f, p1, z, e⟩ := bnd_ok e
    cases (Prod.mk.inj e).1
    refine ⟨by rw [List.length_append, h1]; rfl, fun g hg => ?_⟩
    rcases List.mem_append.mp hg with y | y
    · exact h2 g y
    · rw [List.mem_singleton.mp y]; exact rFilter_ok hw z) (i := 0) (a := []) ⟨rfl, fun f hf => nomatch hf⟩ z2
  unfold filEnd at h
  split at h
  · rename_i nd
    cases (Prod.mk.inj h).1
    exact ⟨h2, by omega, nd⟩
  · cases (Prod.mk.inj h).1
theorem rQuestion_ok {w : Nat} (hw : 1 ≤ w) (hw4 : w ≤ 4) {l : List Int} {p r : Nat} {q : VaidxBase.Question} (h : rQuestion w l p = (some q, r)) : Qw w q := by
  obtain ⟨fs, p1, z1, h⟩ := bnd_ok h
  obtain ⟨order, p2, z2, h⟩ := bnd_ok h
  obtain ⟨b, p3, z3, h⟩ := bnd_ok h
  obtain ⟨wants, p4, z4, h⟩ := bnd_ok h
  obtain ⟨lim, p5, z5, h⟩ := bnd_ok h
  obtain ⟨asked, p6, z6, h⟩ := bnd_ok h
  obtain ⟨u, p7, z7, h⟩ := bnd_ok h
  cases (Prod.mk.inj h).1
  obtain ⟨f1, f2, f3⟩ := rFilters_ok hw z1
  obtain ⟨_, o2, o3, _⟩ := cols_ok hw z2
  obtain ⟨_, w2, _, _⟩ := cols_ok hw z4
  exact ⟨f1, by show fs.length ≤ 4; omega, f3, o3, by show order.length ≤ 4; omega, by show wants.length ≤ 4; omega⟩
theorem rIndex_ok {w : Nat} (hw : 1 ≤ w) (hw4 : w ≤ 4) {l : List Int} {p r : Nat} {i : Index} (h : rIndex w l p = (some i, r)) : Iw w i := by
  obtain ⟨ks, p1, z1, h⟩ := bnd_ok h
  obtain ⟨inc, p2, z2, h⟩ := bnd_ok h
  obtain ⟨_, k2, k3, _⟩ := cols_ok hw z1
  obtain ⟨_, i2, _, _⟩ := cols_ok hw z2
  split at h
  · obtain ⟨o, p3, z3, h⟩ := bnd_ok h
    obtain ⟨u, p4, z4, h⟩ := bnd_ok h
    cases (Prod.mk.inj h).1
    refine ⟨k3, by show ks.length ≤ 4; omega, by show inc.length ≤ 4; omega, fun f hf => ?_⟩
    have hf : o = some f := hf
    obtain ⟨b, p5, z5, z3⟩ := bnd_ok z3
    split at z3
    · obtain ⟨g, p6, z6, z3⟩ := bnd_ok z3
      cases (Prod.mk.inj z3).1
      cases hf
      exact rFilter_ok hw z6
    · cases (Prod.mk.inj z3).1
      cases hf
  · cases (Prod.mk.inj h).1
theorem rTable_ok {l : List Int} {p r : Nat} {t : Table} (h : rTable l p = (some t, r)) : 1 ≤ t.cols ∧ t.cols ≤ 4 ∧ Tw t.cols t := by
  obtain ⟨w, p1, z1, h⟩ := bnd_ok h
  obtain ⟨n, p2, z2, h⟩ := bnd_ok h
  obtain ⟨gs, p3, z3, h⟩ := bnd_ok h
  obtain ⟨u, p4, z4, h⟩ := bnd_ok h
  cases (Prod.mk.inj h).1
  have hw := tkM_le z1
  have hn := tkM_le z2
  obtain ⟨h1, h2⟩ := rep_inv (fun i (gs : List Group) => gs.length = i ∧ ∀ g ∈ gs, g.row.length = w ∧ 1 ≤ g.count ∧ g.count ≤ 1000000) (fun i a p b q ⟨h1, h2⟩ e => by
    obtain ⟨cs, q1, z, e⟩ := bnd_ok e
    have hc := rep_inv (fun i (cs : List Nat) => cs.length = i) (fun i a p b q h1 e => by
      obtain ⟨c, p1, z, e⟩ := bnd_ok e
      cases (Prod.mk.inj e).1
      rw [List.length_append, h1]; rfl) (i := 0) (a := []) rfl z
    rw [Nat.zero_add] at hc
    unfold grpEnd at e
    split at e
    · cases (Prod.mk.inj e).1
    · obtain ⟨c, q2, zc, e⟩ := bnd_ok e
      have le := tkM_le zc
      cases (Prod.mk.inj e).1
      refine ⟨by rw [List.length_append, h1]; rfl, fun g hg => ?_⟩
      rcases List.mem_append.mp hg with y | y
      · exact h2 g y
      · rw [List.mem_singleton.mp y]
        exact ⟨hc, le.1, le.2.1⟩) (i := 0) (a := []) ⟨rfl, fun g hg => nomatch hg⟩ z3
  refine ⟨hw.1, hw.2.1, fun g hg => ?_, by show gs.length ≤ 12; omega⟩
  obtain ⟨a1, a2⟩ := h2 g.1 (List.fst_mem_of_mem_zipIdx hg)
  exact ⟨a1, a2⟩
theorem sw_table {s : Bst} {t : Table} (h : 1 ≤ t.cols ∧ t.cols ≤ 4 ∧ Tw t.cols t) : Sw ⟨some t, none, none⟩ := ⟨(fun _ e => by cases e; exact h), (fun _ _ _ e => nomatch e), (fun _ _ _ e => nomatch e)⟩
theorem sw_question {s : Bst} {t : Table} {q : VaidxBase.Question} (hs : Sw s) (ht : s.table = some t) (hq : Qw t.cols q) : Sw { s with question := some q } := ⟨hs.t, fun t' q' e1 e2 => by cases e2; rw [show s.table = some t' from e1] at ht; cases ht; exact hq, hs.i⟩
theorem sw_index {s : Bst} {t : Table} {i : Index} (hs : Sw s) (ht : s.table = some t) (hi : Iw t.cols i) : Sw { s with index := some i } := ⟨hs.t, hs.q, fun t' q' e1 e2 => by cases e2; rw [show s.table = some t' from e1] at ht; cases ht; exact hi⟩
theorem shorter_ok {w : Nat} {i : Index} (h : Iw w i) (k : Nat) : Iw w (Vaidxb.shorter i k) := ⟨fun c hc => h.keys c (List.mem_of_mem_take hc), by show (i.keys.take k).length ≤ 4; rw [List.length_take]; have := h.kl; omega, h.ol, h.only⟩
theorem told_ok {s : Bst} {k : Int} {y : Wy} (hs : Sw s) (h : told s k = .ok y) : ∃ w, Ww w y := by
  unfold told at h
  cases et : s.table with
  | none =>
    have e : errT s = some (-8) := by unfold errT; rw [et]
    rw [e] at h; cases h
  | some t =>
    have e : errT s = none := by unfold errT; rw [et]
    rw [e] at h
    split at h
    · cases h
    · split at h
      · cases eq : s.question with
        | none => rw [et, eq] at h; cases h
        | some q =>
          rw [et, eq] at h
          have h : (if k = 0 then .ok (wayT t q) else (match s.index with
            | some i => if VaidxBase.serves i q = true then .ok (wayI t i q) else .error (-6)
            | none => .error (-7)) : Except Int Wy) = .ok y := h
          split at h
          · cases h
            exact ⟨_, wayT_ok (hs.t t et).2.2 (hs.q t q et eq)⟩
          · cases ei : s.index with
            | none => rw [ei] at h; cases h
            | some i =>
              rw [ei] at h
              have h : (if VaidxBase.serves i q = true then .ok (wayI t i q) else .error (-6) : Except Int Wy) = .ok y := h
              split at h
              · cases h
                exact ⟨_, wayI_ok (hs.t t et).2.2 (hs.i t i et ei) (hs.q t q et eq)⟩
              · cases h
      · cases h
theorem serves_only {i : Index} {q : VaidxBase.Question} (h : VaidxBase.serves i q = false) : ∃ f, i.only = some f := by
  unfold VaidxBase.serves at h
  cases e : i.only with
  | none => rw [e] at h; cases h
  | some f => exact ⟨f, rfl⟩
theorem rows_perm {l m : List Gr} (h : l.Perm m) : VaidxBase.rowsOf (l.map (·.1)) = VaidxBase.rowsOf (m.map (·.1)) := by
  induction h with
  | nil => rfl
  | cons x _ ih => rw [List.map_cons, List.map_cons, rowsOf_cons, rowsOf_cons, ih]
  | swap x y l => simp only [List.map_cons, rowsOf_cons]; omega
  | trans _ _ h1 h2 => exact h1.trans h2
theorem touched_perm (t : Table) (i : Index) (q : VaidxBase.Question) : (touchedG t i q).Perm (inRange t i q) := by
  unfold touchedG
  split
  · exact (List.reverse_perm _).trans (List.mergeSort_perm _ _)
  · exact List.mergeSort_perm _ _
theorem if_b01 (b : Bool) : (if b = true then D.int 1 else D.int 0) = .int (b01 b) := by cases b <;> rfl
/-! ### what may raise ahead of the rest -/
section
variable {B : Bs} {e e1 e2 : En} {P : Bh}
theorem evE_call {sp : Sp} {E : XK} {ta : TA} (h : EaE B ta e) : EvE B (tCall sp [] E ta) e := fun σ H vs ds Q s => h σ H vs ds _ s
theorem set_same {x : Option Ent} {j : Nat} (h : e[j]? = some x) : e.set j x = e := by
  apply List.ext_getElem?
  intro i
  by_cases hj : j = i
  · subst hj
    rw [List.getElem?_set_self (List.getElem?_eq_some_iff.mp h).1, h]
  · rw [List.getElem?_set_ne hj]
theorem ex_ask {sp : Sp} {CR C : Addr} {f : List (Str × D) → List D → Res → List (Str × D) → Prop} {E : XK} {m : Str} {fs : List (Str × D)} {er : Option Int} {u : TS} (h0 : e[0]? = some (some (.bor (.obj C fs)))) (hf : f fs [] (resE .non er) fs) (hm : fs.lookup m = none)
    (hE : ∀ z, er = some z → Xo B CR E z e) (hN : er = none → Ex B u e P) (hs : sp = SpB B.K B.T CR C f := by rfl) : Ex B (tSeq (tDrop (tMeth C m sp [] E (tVar 0) tNil)) u) e P := by
  have es : e.set 0 (some ((Ent.bor (.obj C fs)).put C fs)) = e := set_same h0
  cases er with
  | some z => exact ex_seq (exE_drop (evE_x (n := z) (e1 := e) (by
      have := ev_methB (E := E) (r := .error z) ea_nil h0 h0 rfl hm hf (fun n en => by cases en; rw [es]; exact hE z rfl) hs
      rw [es] at this
      exact this)))
  | none => exact ex_seq (ex_drop (e1 := e) (ev_x (d := .non) (by
      have := ev_methB (E := E) (r := .ok .non) ea_nil h0 h0 rfl hm hf (fun n en => nomatch en) hs
      rw [es] at this
      exact this)) (hN rfl))
end
end One
namespace One
open PySem PySem.Spec PyProof.Rows L2 NdefX Dl
theorem flat_le {α : Type} (f : α → List Int) (n : Nat) (h : ∀ a, (f a).length ≤ n) : ∀ l : List α, (l.flatMap f).length ≤ n * l.length
  | [] => Nat.zero_le _
  | a :: l => by
    have h1 := h a
    have h2 := flat_le f n h l
    rw [List.flatMap_cons, List.length_append, List.length_cons, Nat.mul_succ]
    omega
theorem shares_le {w : Nat} {y : Wy} (h : Ww w y) : y.shares.length ≤ 12 := by
  unfold Wy.shares
  have := steps_len y y.gs y.stop
  have := h.gl
  refine Nat.le_trans (shares_len _ _) ?_
  split
  · omega
  · rw [ordS_len]; omega
end One
namespace One
open PySem PySem.Spec PyProof.Rows L2 NdefX Dl
theorem run_hits (y : Wy) : ∀ (l : List Gr) (r : Rn), (y.run l r).hits.length ≤ r.hits.length + l.length
  | [], r => Nat.le_refl _
  | g :: l, r => by
    rw [Wy.run, List.length_cons]
    split
    · split
      · show (r.hits ++ [g]).length ≤ _
        rw [List.length_append, List.length_singleton]
        omega
      · refine Nat.le_trans (run_hits y l _) ?_
        show (r.hits ++ [g]).length + _ ≤ _
        rw [List.length_append, List.length_singleton]
        omega
    · refine Nat.le_trans (run_hits y l _) ?_
      show r.hits.length + _ ≤ _
      omega
def foundG (t : VaidxBase.Table) (q : VaidxBase.Question) : List Gr := t.groups.zipIdx.filter fun g => q.filters.all (VaidxBase.passes g.1.row)
def heldG (t : VaidxBase.Table) (i : VaidxBase.Index) : List Gr := t.groups.zipIdx.filter fun g => VaidxBase.isIn i g.1.row
theorem zip_fst (l : List VaidxBase.Group) : l.zipIdx.map (·.1) = l := List.zipIdx_map_fst 0 l
end One
namespace One
open PySem PySem.Spec PyProof.Rows L2 NdefX Dl Lm
section
variable {P : Program} {w : World} {K : PySem.W.Frag} {mg : Str → Option Value} {base : Heap} {TT : List NTab}
abbrev N_Bench_init : List Str := ["self"]
theorem sc_Bench_init : FnScope N_Bench_init ["self"] (defScope s_Bench_init) := ⟨rfl, rfl, rfl, by decide +kernel, rfl, by decide +kernel, by decide +kernel⟩
def f_Bench_init (K : PySem.W.Frag) : List (Str × D) → List D → Res → List (Str × D) → Prop := fun fs as r fs2 => fs = [] ∧ as = [] ∧ r = .ok .non ∧ fs2 = bF K Vaidxb.start
abbrev sp_Bench_init (K : PySem.W.Frag) (TT : List NTab) : Sp := SpB K TT (He.ga K "Refusal") (He.ga K "Bench") (f_Bench_init K)
theorem len_Bench_init : ∀ (fs : List (Str × D)) (as : List D) r fs2, f_Bench_init K fs as r fs2 → as.length + 1 = 1 := by
  intro fs as r fs2 h
  obtain ⟨_, rfl, _⟩ := h; rfl
theorem ok_Bench_init (T : Txt K mg) : DefOk P w K mg base CX0 1 ("Bench", some "__init__") ["self"] (sp_Bench_init K TT) := by
  obtain ⟨fd, F⟩ := T.def_ (i := 64) (d := d_Bench_init) rfl
  refine ⟨⟨fd, FunD.ok F sc_Bench_init (sp_lenB (n := 1) len_Bench_init) (fun cdv A outer s H vs Q E hr h => ?_), F.bindsN fun _ _ _ _ _ _ us hl => match us, hl with | [_], _ => rfl⟩, F.kp⟩
  refine ⟨_, PSs.nox (pss_cons (ps_fld (pv 0) pe_non rfl)
    (pss_cons (ps_fld (pv 0) pe_non rfl)
    (pss_one (ps_fld (pv 0) pe_non rfl)))), ?_⟩
  refine body_B 1 rfl (fun fs as r fs2 h => by rw [len_Bench_init fs as r fs2 h]; decide) (fun B fs as r fs2 hK hT hf hX => ?_) vs H Q h
  subst hK hT

  obtain ⟨rfl, rfl, rfl, rfl⟩ := hf
  refine ex_seq (ex_fld (evx_ok ev_non) (i := 0) rfl rfl T.cls_Bench T.n_Bench_table (of_decide_eq_true rfl) (fun d q => ?_))
  cases q
  refine ex_seq (ex_fld (evx_ok ev_non) (i := 0) rfl rfl T.cls_Bench T.n_Bench_question (of_decide_eq_true rfl) (fun d q => ?_))
  cases q
  refine ex_fld (evx_ok ev_non) (i := 0) rfl rfl T.cls_Bench T.n_Bench_index (of_decide_eq_true rfl) (fun d q => ?_)
  cases q
  exact ⟨rfl, rfl⟩
abbrev N_Bench_ask_for_table : List Str := ["self"]
theorem sc_Bench_ask_for_table : FnScope N_Bench_ask_for_table ["self"] (defScope s_Bench_ask_for_table) := ⟨rfl, rfl, rfl, by decide +kernel, rfl, by decide +kernel, by decide +kernel⟩
def f_Bench_ask_for_table (K : PySem.W.Frag) : List (Str × D) → List D → Res → List (Str × D) → Prop := fun fs as r fs2 => ∃ s : Bst, fs = bF K s ∧ as = [] ∧ r = resE .non (errT s) ∧ fs2 = bF K s
abbrev sp_Bench_ask_for_table (K : PySem.W.Frag) (TT : List NTab) : Sp := SpB K TT (He.ga K "Refusal") (He.ga K "Bench") (f_Bench_ask_for_table K)
theorem len_Bench_ask_for_table : ∀ (fs : List (Str × D)) (as : List D) r fs2, f_Bench_ask_for_table K fs as r fs2 → as.length + 1 = 1 := by
  intro fs as r fs2 h
  obtain ⟨_, _, rfl, _⟩ := h; rfl
theorem ok_Bench_ask_for_table (T : Txt K mg) (TB : Tabs2 K base mg) (hTT : TT = TTT K) : DefOk P w K mg base (L2.CX P w) 5 ("Bench", some "ask_for_table") ["self"] (sp_Bench_ask_for_table K TT) := by
  obtain ⟨⟨fd_NoTable_init, F_NoTable_init, b_NoTable_init⟩, _⟩ := ok_NoTable_init (P := P) (w := w) (base := base) T
  obtain ⟨fd, F⟩ := T.def_ (i := 80) (d := d_Bench_ask_for_table) rfl
  refine ⟨⟨fd, FunD.ok F sc_Bench_ask_for_table (sp_lenB (n := 1) len_Bench_ask_for_table) (fun cdv A outer s H vs Q E hr h => ?_), F.bindsN fun _ _ _ _ _ _ us hl => match us, hl with | [_], _ => rfl⟩, F.kp⟩
  have hx : Passes (L2.CX P w) (cxOf (L2.CX P w) P w K mg base N_Bench_ask_for_table d_Bench_ask_for_table.qual d_Bench_ask_for_table.scope (He.fAd K d_Bench_ask_for_table.at_) cdv A outer s H E) E := passes_call (takes_of rfl rfl rfl rfl) fun _ _ _ _ h => h
  refine ⟨_, (pss_one (ps_if (pt_cmp (pc_isN (pe_fld (pv 0) rfl))) (pss_one (ps_raise rfl (takes_of rfl rfl rfl rfl) (pmk_e T.e_NoTable F_NoTable_init (hr.mono (by decide)) b_NoTable_init pass0 (by rfl) T.glo_NoTable))) pss_nil)), ?_⟩
  refine body_B 1 rfl (fun fs as r fs2 h => by rw [len_Bench_ask_for_table fs as r fs2 h]; decide) (fun B fs as r fs2 hK hT hf hX => ?_) vs H Q h
  subst hK hT

  obtain ⟨s, rfl, rfl, rfl, rfl⟩ := hf
  cases ht : s.table with
  | none =>
    have e : errT s = some (-8) := by unfold errT; rw [ht]
    rw [e] at hX
    exact ex_if (c := true) (et_B (ev_eq (ev_isN (ev_fldS (i := 0) rfl rfl T.cls_Bench T.n_Bench_table rfl)) (by rw [ht]; rfl))) (fun _ => ex_raise T.e_NoTable T.x_NoTable (hX (-8) rfl _ rfl)) (fun h => nomatch h)
  | some t =>
    have e : errT s = none := by unfold errT; rw [ht]
    rw [e]
    exact ex_if (c := false) (et_B (ev_eq (ev_isN (ev_fldS (i := 0) rfl rfl T.cls_Bench T.n_Bench_table rfl)) (by rw [ht]; rfl))) (fun h => nomatch h) (fun _ => ex_next ⟨rfl, rfl⟩)
abbrev N_Bench_ask_for_question : List Str := ["self"]
theorem sc_Bench_ask_for_question : FnScope N_Bench_ask_for_question ["self"] (defScope s_Bench_ask_for_question) := ⟨rfl, rfl, rfl, by decide +kernel, rfl, by decide +kernel, by decide +kernel⟩
def f_Bench_ask_for_question (K : PySem.W.Frag) : List (Str × D) → List D → Res → List (Str × D) → Prop := fun fs as r fs2 => ∃ s : Bst, fs = bF K s ∧ as = [] ∧ r = resE .non (errQ s) ∧ fs2 = bF K s
abbrev sp_Bench_ask_for_question (K : PySem.W.Frag) (TT : List NTab) : Sp := SpB K TT (He.ga K "Refusal") (He.ga K "Bench") (f_Bench_ask_for_question K)
theorem len_Bench_ask_for_question : ∀ (fs : List (Str × D)) (as : List D) r fs2, f_Bench_ask_for_question K fs as r fs2 → as.length + 1 = 1 := by
  intro fs as r fs2 h
  obtain ⟨_, _, rfl, _⟩ := h; rfl
theorem ok_Bench_ask_for_question (T : Txt K mg) (TB : Tabs2 K base mg) (hTT : TT = TTT K) : DefOk P w K mg base (L2.CX P w) 6 ("Bench", some "ask_for_question") ["self"] (sp_Bench_ask_for_question K TT) := by
  obtain ⟨⟨fd_Bench_ask_for_table, F_Bench_ask_for_table, b_Bench_ask_for_table⟩, kp_Bench_ask_for_table⟩ := ok_Bench_ask_for_table (P := P) (w := w) (base := base) (TT := TT) T TB hTT
  obtain ⟨⟨fd_NoQuestion_init, F_NoQuestion_init, b_NoQuestion_init⟩, _⟩ := ok_NoQuestion_init (P := P) (w := w) (base := base) T
  obtain ⟨fd, F⟩ := T.def_ (i := 81) (d := d_Bench_ask_for_question) rfl
  refine ⟨⟨fd, FunD.ok F sc_Bench_ask_for_question (sp_lenB (n := 1) len_Bench_ask_for_question) (fun cdv A outer s H vs Q E hr h => ?_), F.bindsN fun _ _ _ _ _ _ us hl => match us, hl with | [_], _ => rfl⟩, F.kp⟩
  have hx : Passes (L2.CX P w) (cxOf (L2.CX P w) P w K mg base N_Bench_ask_for_question d_Bench_ask_for_question.qual d_Bench_ask_for_question.scope (He.fAd K d_Bench_ask_for_question.at_) cdv A outer s H E) E := passes_call (takes_of rfl rfl rfl rfl) fun _ _ _ _ h => h
  refine ⟨_, (pss_cons (ps_expr (pe_meth0 (pv 0) T.cls_Bench T.meth_Bench_ask_for_table F_Bench_ask_for_table (hr.mono (by decide)) b_Bench_ask_for_table .nil hx))
    (pss_one (ps_if (pt_cmp (pc_isN (pe_fld (pv 0) rfl))) (pss_one (ps_raise rfl (takes_of rfl rfl rfl rfl) (pmk_e T.e_NoQuestion F_NoQuestion_init (hr.mono (by decide)) b_NoQuestion_init pass0 (by rfl) T.glo_NoQuestion))) pss_nil))), ?_⟩
  refine body_B 1 rfl (fun fs as r fs2 h => by rw [len_Bench_ask_for_question fs as r fs2 h]; decide) (fun B fs as r fs2 hK hT hf hX => ?_) vs H Q h
  subst hK hT

  obtain ⟨s, rfl, rfl, rfl, rfl⟩ := hf
  refine ex_ask (f := f_Bench_ask_for_table B.K) (fs := bF B.K s) (er := errT s) rfl ⟨s, rfl, rfl, rfl, rfl⟩ rfl (fun z hz => ?_) (fun hn => ?_)
  · have e : errQ s = some z := by unfold errQ; rw [hz]
    rw [e] at hX
    exact hX z rfl _ rfl

  cases ht : s.question with
  | none =>
    have e : errQ s = some (-9) := by unfold errQ; rw [hn]; show (match s.question with | none => some (-9 : Int) | some _ => none) = _; rw [ht]
    rw [e] at hX
    exact ex_if (c := true) (et_B (ev_eq (ev_isN (ev_fldS (i := 0) rfl rfl T.cls_Bench T.n_Bench_question rfl)) (by rw [ht]; rfl))) (fun _ => ex_raise T.e_NoQuestion T.x_NoQuestion (hX (-9) rfl _ rfl)) (fun h => nomatch h)
  | some t =>
    have e : errQ s = none := by unfold errQ; rw [hn]; show (match s.question with | none => some (-9 : Int) | some _ => none) = _; rw [ht]
    rw [e]
    exact ex_if (c := false) (et_B (ev_eq (ev_isN (ev_fldS (i := 0) rfl rfl T.cls_Bench T.n_Bench_question rfl)) (by rw [ht]; rfl))) (fun h => nomatch h) (fun _ => ex_next ⟨rfl, rfl⟩)
abbrev N_Bench_ask_for_index : List Str := ["self"]
theorem sc_Bench_ask_for_index : FnScope N_Bench_ask_for_index ["self"] (defScope s_Bench_ask_for_index) := ⟨rfl, rfl, rfl, by decide +kernel, rfl, by decide +kernel, by decide +kernel⟩
def f_Bench_ask_for_index (K : PySem.W.Frag) : List (Str × D) → List D → Res → List (Str × D) → Prop := fun fs as r fs2 => ∃ s : Bst, fs = bF K s ∧ as = [] ∧ r = resE .non (errI s) ∧ fs2 = bF K s
abbrev sp_Bench_ask_for_index (K : PySem.W.Frag) (TT : List NTab) : Sp := SpB K TT (He.ga K "Refusal") (He.ga K "Bench") (f_Bench_ask_for_index K)
theorem len_Bench_ask_for_index : ∀ (fs : List (Str × D)) (as : List D) r fs2, f_Bench_ask_for_index K fs as r fs2 → as.length + 1 = 1 := by
  intro fs as r fs2 h
  obtain ⟨_, _, rfl, _⟩ := h; rfl
theorem ok_Bench_ask_for_index (T : Txt K mg) (TB : Tabs2 K base mg) (hTT : TT = TTT K) : DefOk P w K mg base (L2.CX P w) 7 ("Bench", some "ask_for_index") ["self"] (sp_Bench_ask_for_index K TT) := by
  obtain ⟨⟨fd_Bench_ask_for_question, F_Bench_ask_for_question, b_Bench_ask_for_question⟩, kp_Bench_ask_for_question⟩ := ok_Bench_ask_for_question (P := P) (w := w) (base := base) (TT := TT) T TB hTT
  obtain ⟨⟨fd_NoIndex_init, F_NoIndex_init, b_NoIndex_init⟩, _⟩ := ok_NoIndex_init (P := P) (w := w) (base := base) T
  obtain ⟨fd, F⟩ := T.def_ (i := 82) (d := d_Bench_ask_for_index) rfl
  refine ⟨⟨fd, FunD.ok F sc_Bench_ask_for_index (sp_lenB (n := 1) len_Bench_ask_for_index) (fun cdv A outer s H vs Q E hr h => ?_), F.bindsN fun _ _ _ _ _ _ us hl => match us, hl with | [_], _ => rfl⟩, F.kp⟩
  have hx : Passes (L2.CX P w) (cxOf (L2.CX P w) P w K mg base N_Bench_ask_for_index d_Bench_ask_for_index.qual d_Bench_ask_for_index.scope (He.fAd K d_Bench_ask_for_index.at_) cdv A outer s H E) E := passes_call (takes_of rfl rfl rfl rfl) fun _ _ _ _ h => h
  refine ⟨_, (pss_cons (ps_expr (pe_meth0 (pv 0) T.cls_Bench T.meth_Bench_ask_for_question F_Bench_ask_for_question (hr.mono (by decide)) b_Bench_ask_for_question .nil hx))
    (pss_one (ps_if (pt_cmp (pc_isN (pe_fld (pv 0) rfl))) (pss_one (ps_raise rfl (takes_of rfl rfl rfl rfl) (pmk_e T.e_NoIndex F_NoIndex_init (hr.mono (by decide)) b_NoIndex_init pass0 (by rfl) T.glo_NoIndex))) pss_nil))), ?_⟩
  refine body_B 1 rfl (fun fs as r fs2 h => by rw [len_Bench_ask_for_index fs as r fs2 h]; decide) (fun B fs as r fs2 hK hT hf hX => ?_) vs H Q h
  subst hK hT

  obtain ⟨s, rfl, rfl, rfl, rfl⟩ := hf
  refine ex_ask (f := f_Bench_ask_for_question B.K) (fs := bF B.K s) (er := errQ s) rfl ⟨s, rfl, rfl, rfl, rfl⟩ rfl (fun z hz => ?_) (fun hn => ?_)
  · have e : errI s = some z := by unfold errI; rw [hz]
    rw [e] at hX
    exact hX z rfl _ rfl

  cases ht : s.index with
  | none =>
    have e : errI s = some (-7) := by unfold errI; rw [hn]; show (match s.index with | none => some (-7 : Int) | some _ => none) = _; rw [ht]
    rw [e] at hX
    exact ex_if (c := true) (et_B (ev_eq (ev_isN (ev_fldS (i := 0) rfl rfl T.cls_Bench T.n_Bench_index rfl)) (by rw [ht]; rfl))) (fun _ => ex_raise T.e_NoIndex T.x_NoIndex (hX (-7) rfl _ rfl)) (fun h => nomatch h)
  | some t =>
    have e : errI s = none := by unfold errI; rw [hn]; show (match s.index with | none => some (-7 : Int) | some _ => none) = _; rw [ht]
    rw [e]
    exact ex_if (c := false) (et_B (ev_eq (ev_isN (ev_fldS (i := 0) rfl rfl T.cls_Bench T.n_Bench_index rfl)) (by rw [ht]; rfl))) (fun h => nomatch h) (fun _ => ex_next ⟨rfl, rfl⟩)
abbrev N_Bench_ask_for_serving : List Str := ["self"]
theorem sc_Bench_ask_for_serving : FnScope N_Bench_ask_for_serving ["self"] (defScope s_Bench_ask_for_serving) := ⟨rfl, rfl, rfl, by decide +kernel, rfl, by decide +kernel, by decide +kernel⟩
def f_Bench_ask_for_serving (K : PySem.W.Frag) : List (Str × D) → List D → Res → List (Str × D) → Prop := fun fs as r fs2 => ∃ s : Bst, Sw s ∧ fs = bF K s ∧ as = [] ∧ r = resE .non (errS s) ∧ fs2 = bF K s
abbrev sp_Bench_ask_for_serving (K : PySem.W.Frag) (TT : List NTab) : Sp := SpB K TT (He.ga K "Refusal") (He.ga K "Bench") (f_Bench_ask_for_serving K)
theorem len_Bench_ask_for_serving : ∀ (fs : List (Str × D)) (as : List D) r fs2, f_Bench_ask_for_serving K fs as r fs2 → as.length + 1 = 1 := by
  intro fs as r fs2 h
  obtain ⟨_, _, _, rfl, _⟩ := h; rfl
theorem ok_Bench_ask_for_serving (T : Txt K mg) (TB : Tabs2 K base mg) (hTT : TT = TTT K) : DefOk P w K mg base (L2.CX P w) 8 ("Bench", some "ask_for_serving") ["self"] (sp_Bench_ask_for_serving K TT) := by
  obtain ⟨⟨fd_Bench_ask_for_index, F_Bench_ask_for_index, b_Bench_ask_for_index⟩, kp_Bench_ask_for_index⟩ := ok_Bench_ask_for_index (P := P) (w := w) (base := base) (TT := TT) T TB hTT
  obtain ⟨⟨fd_serves, F_serves, b_serves⟩, kp_serves⟩ := ok_serves (P := P) (w := w) (base := base) (TT := TT) T
  obtain ⟨⟨fd_NotServing_init, F_NotServing_init, b_NotServing_init⟩, _⟩ := ok_NotServing_init (P := P) (w := w) (base := base) T
  obtain ⟨fd, F⟩ := T.def_ (i := 83) (d := d_Bench_ask_for_serving) rfl
  refine ⟨⟨fd, FunD.ok F sc_Bench_ask_for_serving (sp_lenB (n := 1) len_Bench_ask_for_serving) (fun cdv A outer s H vs Q E hr h => ?_), F.bindsN fun _ _ _ _ _ _ us hl => match us, hl with | [_], _ => rfl⟩, F.kp⟩
  have hx : Passes (L2.CX P w) (cxOf (L2.CX P w) P w K mg base N_Bench_ask_for_serving d_Bench_ask_for_serving.qual d_Bench_ask_for_serving.scope (He.fAd K d_Bench_ask_for_serving.at_) cdv A outer s H E) E := passes_call (takes_of rfl rfl rfl rfl) fun _ _ _ _ h => h
  refine ⟨_, (pss_cons (ps_expr (pe_meth0 (pv 0) T.cls_Bench T.meth_Bench_ask_for_index F_Bench_ask_for_index (hr.mono (by decide)) b_Bench_ask_for_index .nil hx))
    (pss_one (ps_if (pt_not (pt_val (pe_call F_serves (hr.mono (by decide)) rfl T.glo_serves kp_serves b_serves .nil pass0 (pa_cons (pe_fld (pv 0) rfl) (pa_cons (pe_fld (pv 0) rfl) pa_nil))))) (pss_one (ps_raise rfl (takes_of rfl rfl rfl rfl) (pmk_e T.e_NotServing F_NotServing_init (hr.mono (by decide)) b_NotServing_init pass0 (by rfl) T.glo_NotServing))) pss_nil))), ?_⟩
  refine body_B 1 rfl (fun fs as r fs2 h => by rw [len_Bench_ask_for_serving fs as r fs2 h]; decide) (fun B fs as r fs2 hK hT hf hX => ?_) vs H Q h
  subst hK hT

  obtain ⟨s, hs, rfl, rfl, rfl, rfl⟩ := hf
  refine ex_ask (f := f_Bench_ask_for_index B.K) (fs := bF B.K s) (er := errI s) rfl ⟨s, rfl, rfl, rfl, rfl⟩ rfl (fun z hz => ?_) (fun hn => ?_)
  · have e : errS s = some z := by unfold errS; rw [hz]
    rw [e] at hX
    exact hX z rfl _ rfl
  obtain ⟨t, q, i, ht, hq, hi⟩ := errI_no hn
  have hQ := hs.q t q ht hq
  have sb : svB s = VaidxBase.serves i q := by unfold svB; rw [hi, hq]
  have call : EvT B _ (entry 1 [some (.bor (.obj (He.ga B.K "Bench") (bF B.K s)))]) (!VaidxBase.serves i q) _ := et_not (et_B (ev_call (f := f_serves B.K) (E := fun _ _ _ => False) (ea_cons (ev_eq (ev_fldS (i := 0) rfl rfl T.cls_Bench T.n_Bench_index rfl) (by rw [hi]; rfl)) (ea_cons (ev_eq (ev_fldS (i := 0) rfl rfl T.cls_Bench T.n_Bench_question rfl) (by rw [hq]; rfl)) ea_nil)) ⟨i, q, rfl, hQ.nd, hQ.fl, rfl⟩ (rfl : sp_serves B.K B.T = _)))
  cases hv : VaidxBase.serves i q with
  | true =>
    have e : errS s = none := by unfold errS; rw [hn]; show (if svB s = true then none else some (-6 : Int)) = _; rw [sb, hv]; rfl
    rw [e]
    exact ex_if (c := false) (et_eq call (by rw [hv]; rfl)) (fun h => nomatch h) (fun _ => ex_next ⟨rfl, rfl⟩)
  | false =>
    have e : errS s = some (-6) := by unfold errS; rw [hn]; show (if svB s = true then none else some (-6 : Int)) = _; rw [sb, hv]; rfl
    rw [e] at hX
    exact ex_if (c := true) (et_eq call (by rw [hv]; rfl)) (fun _ => ex_raise T.e_NotServing T.x_NotServing (hX (-6) rfl _ rfl)) (fun h => nomatch h)
abbrev N_Bench_count_in_range : List Str := ["self"]
theorem sc_Bench_count_in_range : FnScope N_Bench_count_in_range ["self"] (defScope s_Bench_count_in_range) := ⟨rfl, rfl, rfl, by decide +kernel, rfl, by decide +kernel, by decide +kernel⟩
def f_Bench_count_in_range (K : PySem.W.Frag) : List (Str × D) → List D → Res → List (Str × D) → Prop := fun fs as r fs2 => ∃ (t : VaidxBase.Table) (q : VaidxBase.Question) (i : VaidxBase.Index) (w : Nat), Tw w t ∧ Qw w q ∧ Iw w i ∧ fs = bF K ⟨some t, some q, some i⟩ ∧ as = [] ∧ r = .ok (nD (VaidxBase.rowsOf ((inRange t i q).map (·.1)))) ∧ fs2 = bF K ⟨some t, some q, some i⟩
abbrev sp_Bench_count_in_range (K : PySem.W.Frag) (TT : List NTab) : Sp := SpB K TT (He.ga K "Refusal") (He.ga K "Bench") (f_Bench_count_in_range K)
theorem len_Bench_count_in_range : ∀ (fs : List (Str × D)) (as : List D) r fs2, f_Bench_count_in_range K fs as r fs2 → as.length + 1 = 1 := by
  intro fs as r fs2 h
  obtain ⟨_, _, _, _, _, _, _, _, rfl, _⟩ := h; rfl
theorem ok_Bench_count_in_range (T : Txt K mg) (TB : Tabs2 K base mg) (hTT : TT = TTT K) : DefOk P w K mg base CX0 5 ("Bench", some "count_in_range") ["self"] (sp_Bench_count_in_range K TT) := by
  obtain ⟨⟨fd_count_rows, F_count_rows, b_count_rows⟩, kp_count_rows⟩ := ok_count_rows (P := P) (w := w) (base := base) (TT := TT) T
  obtain ⟨⟨fd_groups_in_range, F_groups_in_range, b_groups_in_range⟩, kp_groups_in_range⟩ := ok_groups_in_range (P := P) (w := w) (base := base) (TT := TT) T
  obtain ⟨fd, F⟩ := T.def_ (i := 77) (d := d_Bench_count_in_range) rfl
  refine ⟨⟨fd, FunD.ok F sc_Bench_count_in_range (sp_lenB (n := 1) len_Bench_count_in_range) (fun cdv A outer s H vs Q E hr h => ?_), F.bindsN fun _ _ _ _ _ _ us hl => match us, hl with | [_], _ => rfl⟩, F.kp⟩
  refine ⟨_, PSs.nox (pss_one (ps_ret (pe_call F_count_rows (hr.mono (by decide)) rfl T.glo_count_rows kp_count_rows b_count_rows .nil pass0 (pa_cons (pe_call F_groups_in_range (hr.mono (by decide)) rfl T.glo_groups_in_range kp_groups_in_range b_groups_in_range .nil pass0 (pa_cons (pe_fld (pv 0) rfl) (pa_cons (pe_fld (pv 0) rfl) (pa_cons (pe_fld (pv 0) rfl) pa_nil)))) pa_nil)))), ?_⟩
  refine body_B 1 rfl (fun fs as r fs2 h => by rw [len_Bench_count_in_range fs as r fs2 h]; decide) (fun B fs as r fs2 hK hT hf hX => ?_) vs H Q h
  subst hK hT

  obtain ⟨t, q, i, w, ht, hq, hi, rfl, rfl, rfl, rfl⟩ := hf
  have rl := range_len t i q
  have tl := ht.len
  exact ex_ret (ev_call (f := f_count_rows _) (ea_cons (ev_call (f := f_groups_in_range _) (ea_cons (ev_fldS (i := 0) rfl rfl T.cls_Bench T.n_Bench_table rfl) (ea_cons (ev_fldS (i := 0) rfl rfl T.cls_Bench T.n_Bench_index rfl) (ea_cons (ev_fldS (i := 0) rfl rfl T.cls_Bench T.n_Bench_question rfl) ea_nil))) ⟨t, i, q, w, rfl, ht, hi, hq, rfl⟩) ea_nil) ⟨inRange t i q, rfl, by omega, rfl⟩) ⟨rfl, rfl⟩
abbrev N_Bench_way_by : List Str := ["self", "index"]
theorem sc_Bench_way_by : FnScope N_Bench_way_by ["self", "index"] (defScope s_Bench_way_by) := ⟨rfl, rfl, rfl, by decide +kernel, rfl, by decide +kernel, by decide +kernel⟩
def f_Bench_way_by (K : PySem.W.Frag) : List (Str × D) → List D → Res → List (Str × D) → Prop := fun fs as r fs2 => ∃ (t : VaidxBase.Table) (q : VaidxBase.Question) (o : Option VaidxBase.Index) (i : VaidxBase.Index) (w : Nat), Tw w t ∧ Qw w q ∧ Iw w i ∧ fs = bF K ⟨some t, some q, o⟩ ∧ as = [iD K i] ∧ r = .ok (wD K (wayI t i q)) ∧ fs2 = bF K ⟨some t, some q, o⟩
abbrev sp_Bench_way_by (K : PySem.W.Frag) (TT : List NTab) : Sp := SpB K TT (He.ga K "Refusal") (He.ga K "Bench") (f_Bench_way_by K)
theorem len_Bench_way_by : ∀ (fs : List (Str × D)) (as : List D) r fs2, f_Bench_way_by K fs as r fs2 → as.length + 1 = 2 := by
  intro fs as r fs2 h
  obtain ⟨_, _, _, _, _, _, _, _, _, rfl, _⟩ := h; rfl
theorem ok_Bench_way_by (T : Txt K mg) (TB : Tabs2 K base mg) (hTT : TT = TTT K) : DefOk P w K mg base CX0 9 ("Bench", some "way_by") ["self", "index"] (sp_Bench_way_by K TT) := by
  obtain ⟨⟨fd_way_by_index, F_way_by_index, b_way_by_index⟩, kp_way_by_index⟩ := ok_way_by_index (P := P) (w := w) (base := base) (TT := TT) T TB hTT
  obtain ⟨fd, F⟩ := T.def_ (i := 78) (d := d_Bench_way_by) rfl
  refine ⟨⟨fd, FunD.ok F sc_Bench_way_by (sp_lenB (n := 2) len_Bench_way_by) (fun cdv A outer s H vs Q E hr h => ?_), F.bindsN fun _ _ _ _ _ _ us hl => match us, hl with | [_, _], _ => rfl⟩, F.kp⟩
  refine ⟨_, PSs.nox (pss_one (ps_ret (pe_call F_way_by_index (hr.mono (by decide)) rfl T.glo_way_by_index kp_way_by_index b_way_by_index .nil pass0 (pa_cons (pe_fld (pv 0) rfl) (pa_cons (pv 1) (pa_cons (pe_fld (pv 0) rfl) pa_nil)))))), ?_⟩
  refine body_B 2 rfl (fun fs as r fs2 h => by rw [len_Bench_way_by fs as r fs2 h]; decide) (fun B fs as r fs2 hK hT hf hX => ?_) vs H Q h
  subst hK hT

  obtain ⟨t, q, o, i, w, ht, hq, hi, rfl, rfl, rfl, rfl⟩ := hf
  exact ex_ret (ev_call (f := f_way_by_index _) (ea_cons (ev_fldS (i := 0) rfl rfl T.cls_Bench T.n_Bench_table rfl) (ea_cons (ev_var (i := 1) rfl) (ea_cons (ev_fldS (i := 0) rfl rfl T.cls_Bench T.n_Bench_question rfl) ea_nil))) ⟨t, i, q, w, rfl, ht, hi, hq, rfl⟩) ⟨rfl, rfl⟩
end
end One
namespace One
open PySem PySem.Spec PyProof.Rows L2 NdefX Dl Lm
section
variable {P : Program} {w : World} {K : PySem.W.Frag} {mg : Str → Option Value} {base : Heap} {TT : List NTab}
abbrev N_Bench_plan : List Str := ["self"]
theorem sc_Bench_plan : FnScope N_Bench_plan ["self"] (defScope s_Bench_plan) := ⟨rfl, rfl, rfl, by decide +kernel, rfl, by decide +kernel, by decide +kernel⟩
def f_Bench_plan (K : PySem.W.Frag) : List (Str × D) → List D → Res → List (Str × D) → Prop := fun fs as r fs2 => ∃ s : Bst, Sw s ∧ fs = bF K s ∧ as = [] ∧ fs2 = bF K s ∧ ((∃ z, errS s = some z ∧ r = .error z) ∨ (∃ t q i, errS s = none ∧ s.table = some t ∧ s.question = some q ∧ s.index = some i ∧ r = .ok (insD (ansPlan t q i))))
abbrev sp_Bench_plan (K : PySem.W.Frag) (TT : List NTab) : Sp := SpB K TT (He.ga K "Refusal") (He.ga K "Bench") (f_Bench_plan K)
theorem len_Bench_plan : ∀ (fs : List (Str × D)) (as : List D) r fs2, f_Bench_plan K fs as r fs2 → as.length + 1 = 1 := by
  intro fs as r fs2 h
  obtain ⟨_, _, _, rfl, _⟩ := h; rfl
theorem ok_Bench_plan (T : Txt K mg) (TB : Tabs2 K base mg) (hTT : TT = TTT K) : DefOk P w K mg base (L2.CX P w) 9 ("Bench", some "plan") ["self"] (sp_Bench_plan K TT) := by
  obtain ⟨⟨fd_Bench_ask_for_serving, F_Bench_ask_for_serving, b_Bench_ask_for_serving⟩, kp_Bench_ask_for_serving⟩ := ok_Bench_ask_for_serving (P := P) (w := w) (base := base) (TT := TT) T TB hTT
  obtain ⟨⟨fd_Bench_count_in_range, F_Bench_count_in_range, b_Bench_count_in_range⟩, kp_Bench_count_in_range⟩ := ok_Bench_count_in_range (P := P) (w := w) (base := base) (TT := TT) T TB hTT
  obtain ⟨⟨fd_count_equal_keys, F_count_equal_keys, b_count_equal_keys⟩, kp_count_equal_keys⟩ := ok_count_equal_keys (P := P) (w := w) (base := base) (TT := TT) T
  obtain ⟨⟨fd_covers, F_covers, b_covers⟩, kp_covers⟩ := ok_covers (P := P) (w := w) (base := base) (TT := TT) T
  obtain ⟨⟨fd_is_free, F_is_free, b_is_free⟩, kp_is_free⟩ := ok_is_free (P := P) (w := w) (base := base) (TT := TT) T
  obtain ⟨⟨fd_next_key_filters, F_next_key_filters, b_next_key_filters⟩, kp_next_key_filters⟩ := ok_next_key_filters (P := P) (w := w) (base := base) (TT := TT) T
  obtain ⟨fd, F⟩ := T.def_ (i := 68) (d := d_Bench_plan) rfl
  refine ⟨⟨fd, FunD.ok F sc_Bench_plan (sp_lenB (n := 1) len_Bench_plan) (fun cdv A outer s H vs Q E hr h => ?_), F.bindsN fun _ _ _ _ _ _ us hl => match us, hl with | [_], _ => rfl⟩, F.kp⟩
  have hx : Passes (L2.CX P w) (cxOf (L2.CX P w) P w K mg base N_Bench_plan d_Bench_plan.qual d_Bench_plan.scope (He.fAd K d_Bench_plan.at_) cdv A outer s H E) E := passes_call (takes_of rfl rfl rfl rfl) fun _ _ _ _ h => h
  refine ⟨_, (pss_cons (ps_expr (pe_meth0 (pv 0) T.cls_Bench T.meth_Bench_ask_for_serving F_Bench_ask_for_serving (hr.mono (by decide)) b_Bench_ask_for_serving .nil hx))
    (pss_one (ps_ret (pe_lst (pa_cons (pe_call F_count_equal_keys (hr.mono (by decide)) rfl T.glo_count_equal_keys kp_count_equal_keys b_count_equal_keys .nil pass0 (pa_cons (pe_fld (pv 0) rfl) (pa_cons (pe_fld (pv 0) rfl) pa_nil))) (pa_cons (pe_callB call_len_seq (by rfl) T.free_len PySem.boot_len (pa_cons (pe_call F_next_key_filters (hr.mono (by decide)) rfl T.glo_next_key_filters kp_next_key_filters b_next_key_filters .nil pass0 (pa_cons (pe_fld (pv 0) rfl) (pa_cons (pe_fld (pv 0) rfl) pa_nil))) pa_nil)) (pa_cons (pe_ifExp (pt_val (pe_call F_covers (hr.mono (by decide)) rfl T.glo_covers kp_covers b_covers .nil pass0 (pa_cons (pe_fld (pv 0) rfl) (pa_cons (pe_fld (pv 0) rfl) pa_nil)))) pe_int pe_int) (pa_cons (pe_ifExp (pt_val (pe_call F_is_free (hr.mono (by decide)) rfl T.glo_is_free kp_is_free b_is_free .nil pass0 (pa_cons (pe_fld (pv 0) rfl) (pa_cons (pe_fld (pv 0) rfl) pa_nil)))) pe_int pe_int) (pa_cons (pe_meth0 (pv 0) T.cls_Bench T.meth_Bench_count_in_range F_Bench_count_in_range (hr.mono (by decide)) b_Bench_count_in_range .nil pass0) pa_nil))))))))), ?_⟩
  refine body_B 1 rfl (fun fs as r fs2 h => by rw [len_Bench_plan fs as r fs2 h]; decide) (fun B fs as r fs2 hK hT hf hX => ?_) vs H Q h
  subst hK hT

  obtain ⟨s, hs, rfl, rfl, rfl, hr⟩ := hf
  rcases hr with ⟨z, hz, rfl⟩ | ⟨t, q, i, hn, ht, hq, hi, rfl⟩
  · exact ex_ask (f := f_Bench_ask_for_serving B.K) (fs := bF B.K s) (er := errS s) rfl ⟨s, hs, rfl, rfl, rfl, rfl⟩ rfl (fun z' h => by rw [hz] at h; cases h; exact hX z rfl _ rfl) (fun h => by rw [hz] at h; cases h)
  · refine ex_ask (f := f_Bench_ask_for_serving B.K) (fs := bF B.K s) (er := errS s) rfl ⟨s, hs, rfl, rfl, rfl, rfl⟩ rfl (fun z h => by rw [hn] at h; cases h) (fun _ => ?_)
    obtain ⟨st, sq, si⟩ := s
    obtain rfl : st = some t := ht
    obtain rfl : sq = some q := hq
    obtain rfl : si = some i := hi
    have hT := (hs.t t rfl).2.2
    have hQ := hs.q t q rfl rfl
    have hI := hs.i t i rfl rfl

    exact ex_ret (ev_lst (ea_cons (ev_call (f := f_count_equal_keys _) (ea_cons (ev_fldS (i := 0) rfl rfl T.cls_Bench T.n_Bench_index rfl) (ea_cons (ev_fldS (i := 0) rfl rfl T.cls_Bench T.n_Bench_question rfl) ea_nil)) ⟨i, q, rfl, hQ.nd, hQ.fl, rfl⟩) (ea_cons (ev_eq (ev_len (xs := (((i.keys.drop (VaidxBase.equalKeys q i.keys)).take 1).filterMap (VaidxBase.filterOn q)).map (fD B.K)) (ev_call (f := f_next_key_filters _) (ea_cons (ev_fldS (i := 0) rfl rfl T.cls_Bench T.n_Bench_index rfl) (ea_cons (ev_fldS (i := 0) rfl rfl T.cls_Bench T.n_Bench_question rfl) ea_nil)) ⟨i, q, rfl, hQ.nd, hQ.fl, rfl⟩)) (congrArg (fun (n : Nat) => D.int (n : Int)) (List.length_map _)))
      (ea_cons (ev_eq (ev_if2 (et_B (ev_call (f := f_covers _) (ea_cons (ev_fldS (i := 0) rfl rfl T.cls_Bench T.n_Bench_index rfl) (ea_cons (ev_fldS (i := 0) rfl rfl T.cls_Bench T.n_Bench_question rfl) ea_nil)) ⟨i, q, rfl, hI.kl, hI.ol, hQ.fl, hQ.ol, hQ.wl, rfl⟩)) (fun _ => ev_int (i := 1)) (fun _ => ev_int (i := 0))) (if_b01 _)) (ea_cons (ev_eq (ev_if2 (et_B (ev_call (f := f_is_free _) (ea_cons (ev_fldS (i := 0) rfl rfl T.cls_Bench T.n_Bench_index rfl) (ea_cons (ev_fldS (i := 0) rfl rfl T.cls_Bench T.n_Bench_question rfl) ea_nil)) ⟨i, q, rfl, hI.kl, hQ.nd, hQ.fl, hQ.ol, rfl⟩)) (fun _ => ev_int (i := 1)) (fun _ => ev_int (i := 0))) (if_b01 _))
      (ea_cons (ev_x (ev_methB (f := f_Bench_count_in_range B.K) (r := .ok (nD (VaidxBase.rowsOf ((inRange t i q).map (·.1))))) (fs := bF B.K ⟨some t, some q, some i⟩) (fs' := bF B.K ⟨some t, some q, some i⟩) ea_nil rfl rfl rfl rfl ⟨t, q, i, t.cols, hT, hQ, hI, rfl, rfl, rfl, rfl⟩ (fun n h => nomatch h))) ea_nil))))) (of_decide_eq_true rfl)) ⟨rfl, rfl⟩
abbrev N_Bench_why : List Str := ["self", "unkept"]
theorem sc_Bench_why : FnScope N_Bench_why ["self"] (defScope s_Bench_why) := ⟨rfl, rfl, rfl, by decide +kernel, rfl, by decide +kernel, by decide +kernel⟩
def f_Bench_why (K : PySem.W.Frag) : List (Str × D) → List D → Res → List (Str × D) → Prop := fun fs as r fs2 => ∃ s : Bst, Sw s ∧ fs = bF K s ∧ as = [] ∧ fs2 = bF K s ∧ ((∃ z, errI s = some z ∧ r = .error z) ∨ (∃ t q i, errI s = none ∧ s.table = some t ∧ s.question = some q ∧ s.index = some i ∧ r = .ok (insD (ansWhy q i))))
abbrev sp_Bench_why (K : PySem.W.Frag) (TT : List NTab) : Sp := SpB K TT (He.ga K "Refusal") (He.ga K "Bench") (f_Bench_why K)
theorem len_Bench_why : ∀ (fs : List (Str × D)) (as : List D) r fs2, f_Bench_why K fs as r fs2 → as.length + 1 = 1 := by
  intro fs as r fs2 h
  obtain ⟨_, _, _, rfl, _⟩ := h; rfl
theorem ok_Bench_why (T : Txt K mg) (TB : Tabs2 K base mg) (hTT : TT = TTT K) : DefOk P w K mg base (L2.CX P w) 8 ("Bench", some "why") ["self"] (sp_Bench_why K TT) := by
  obtain ⟨⟨fd_Bench_ask_for_index, F_Bench_ask_for_index, b_Bench_ask_for_index⟩, kp_Bench_ask_for_index⟩ := ok_Bench_ask_for_index (P := P) (w := w) (base := base) (TT := TT) T TB hTT
  obtain ⟨⟨fd_first_lacking, F_first_lacking, b_first_lacking⟩, kp_first_lacking⟩ := ok_first_lacking (P := P) (w := w) (base := base) (TT := TT) T
  obtain ⟨⟨fd_first_out_of_order, F_first_out_of_order, b_first_out_of_order⟩, kp_first_out_of_order⟩ := ok_first_out_of_order (P := P) (w := w) (base := base) (TT := TT) T
  obtain ⟨⟨fd_serves, F_serves, b_serves⟩, kp_serves⟩ := ok_serves (P := P) (w := w) (base := base) (TT := TT) T
  obtain ⟨fd, F⟩ := T.def_ (i := 69) (d := d_Bench_why) rfl
  refine ⟨⟨fd, FunD.ok F sc_Bench_why (sp_lenB (n := 1) len_Bench_why) (fun cdv A outer s H vs Q E hr h => ?_), F.bindsN fun _ _ _ _ _ _ us hl => match us, hl with | [_], _ => rfl⟩, F.kp⟩
  have hx : Passes (L2.CX P w) (cxOf (L2.CX P w) P w K mg base N_Bench_why d_Bench_why.qual d_Bench_why.scope (He.fAd K d_Bench_why.at_) cdv A outer s H E) E := passes_call (takes_of rfl rfl rfl rfl) fun _ _ _ _ h => h
  refine ⟨_, (pss_cons (ps_expr (pe_meth0 (pv 0) T.cls_Bench T.meth_Bench_ask_for_index F_Bench_ask_for_index (hr.mono (by decide)) b_Bench_ask_for_index .nil hx))
    (pss_cons (ps_set (i := 1) sc_Bench_why.nd rfl (Or.inl rfl) (pe_un un_neg pe_int))
    (pss_cons (ps_if (pt_not (pt_val (pe_call F_serves (hr.mono (by decide)) rfl T.glo_serves kp_serves b_serves .nil pass0 (pa_cons (pe_fld (pv 0) rfl) (pa_cons (pe_fld (pv 0) rfl) pa_nil))))) (pss_one (ps_set (i := 1) sc_Bench_why.nd rfl (Or.inl rfl) (pe_fld (pe_fld (pe_fld (pv 0) rfl) rfl) rfl))) pss_nil)
    (pss_one (ps_ret (pe_lst (pa_cons (pv 1) (pa_cons (pe_call F_first_lacking (hr.mono (by decide)) rfl T.glo_first_lacking kp_first_lacking b_first_lacking .nil pass0 (pa_cons (pe_fld (pv 0) rfl) (pa_cons (pe_fld (pv 0) rfl) pa_nil))) (pa_cons (pe_call F_first_out_of_order (hr.mono (by decide)) rfl T.glo_first_out_of_order kp_first_out_of_order b_first_out_of_order .nil pass0 (pa_cons (pe_fld (pv 0) rfl) (pa_cons (pe_fld (pv 0) rfl) pa_nil))) pa_nil))))))))), ?_⟩
  refine body_B 2 rfl (fun fs as r fs2 h => by rw [len_Bench_why fs as r fs2 h]; decide) (fun B fs as r fs2 hK hT hf hX => ?_) vs H Q h
  subst hK hT

  obtain ⟨s, hs, rfl, rfl, rfl, hr⟩ := hf
  rcases hr with ⟨z, hz, rfl⟩ | ⟨t, q, i, hn, ht, hq, hi, rfl⟩
  · exact ex_ask (f := f_Bench_ask_for_index B.K) (fs := bF B.K s) (er := errI s) rfl ⟨s, rfl, rfl, rfl, rfl⟩ rfl (fun z' h => by rw [hz] at h; cases h; exact hX z rfl _ rfl) (fun h => by rw [hz] at h; cases h)
  · refine ex_ask (f := f_Bench_ask_for_index B.K) (fs := bF B.K s) (er := errI s) rfl ⟨s, rfl, rfl, rfl, rfl⟩ rfl (fun z h => by rw [hn] at h; cases h) (fun _ => ?_)
    obtain ⟨st, sq, si⟩ := s
    obtain rfl : st = some t := ht
    obtain rfl : sq = some q := hq
    obtain rfl : si = some i := hi
    have hT := (hs.t t rfl).2.2
    have hQ := hs.q t q rfl rfl
    have hI := hs.i t i rfl rfl

    refine ex_seq (ex_set (ev_neg (ev_int (i := 1))) (of_decide_eq_true rfl) ?_)
    refine ex_mid [some (.bor (.obj (He.ga B.K "Bench") (bF B.K ⟨some t, some q, some i⟩))), some (.val (.int (Vaidxb.orNone (Vaidxb.unserved i q))))] ?_ ?_
    · refine ex_if (c := !VaidxBase.serves i q) (et_not (et_B (ev_call (f := f_serves _) (ea_cons (ev_fldS (i := 0) rfl rfl T.cls_Bench T.n_Bench_index rfl) (ea_cons (ev_fldS (i := 0) rfl rfl T.cls_Bench T.n_Bench_question rfl) ea_nil)) ⟨i, q, rfl, hQ.nd, hQ.fl, rfl⟩))) (fun h => ?_) (fun h => ex_next ?_)
      · have hv : VaidxBase.serves i q = false := by simpa using h
        obtain ⟨f, ho⟩ := serves_only hv
        refine ex_set (d := nD f.col) (ev_fld (C := He.ga B.K "Filter") (fs := [("column", nD f.col), ("low", nD f.lo), ("high", nD f.hi)]) (ev_eq (ev_fld (ev_fldS (i := 0) rfl rfl T.cls_Bench T.n_Bench_index rfl) T.cls_Index T.n_Index_condition rfl) (by rw [ho]; rfl)) T.cls_Filter T.n_Filter_column rfl) (of_decide_eq_true rfl) ?_
        unfold Vaidxb.unserved
        rw [hv, ho]
        rfl
      · have hv : VaidxBase.serves i q = true := by simpa using h
        unfold Vaidxb.unserved
        rw [hv]
        rfl
    · exact ex_ret (ev_lst (ea_cons (ev_var (i := 1) rfl) (ea_cons (ev_call (f := f_first_lacking _) (ea_cons (ev_fldS (i := 0) rfl rfl T.cls_Bench T.n_Bench_index rfl) (ea_cons (ev_fldS (i := 0) rfl rfl T.cls_Bench T.n_Bench_question rfl) ea_nil)) ⟨i, q, rfl, hI.kl, hI.ol, hQ.fl, hQ.ol, hQ.wl, rfl⟩) (ea_cons (ev_call (f := f_first_out_of_order _) (ea_cons (ev_fldS (i := 0) rfl rfl T.cls_Bench T.n_Bench_index rfl) (ea_cons (ev_fldS (i := 0) rfl rfl T.cls_Bench T.n_Bench_question rfl) ea_nil)) ⟨i, q, rfl, hI.kl, hQ.nd, hQ.fl, hQ.ol, rfl⟩) ea_nil))) (of_decide_eq_true rfl)) ⟨rfl, rfl⟩
abbrev N_Bench_work : List Str := ["self", "done"]
theorem sc_Bench_work : FnScope N_Bench_work ["self"] (defScope s_Bench_work) := ⟨rfl, rfl, rfl, by decide +kernel, rfl, by decide +kernel, by decide +kernel⟩
def f_Bench_work (K : PySem.W.Frag) : List (Str × D) → List D → Res → List (Str × D) → Prop := fun fs as r fs2 => ∃ s : Bst, Sw s ∧ fs = bF K s ∧ as = [] ∧ fs2 = bF K s ∧ ((∃ z, errS s = some z ∧ r = .error z) ∨ (∃ t q i, errS s = none ∧ s.table = some t ∧ s.question = some q ∧ s.index = some i ∧ r = .ok (insD (ansWork t q i))))
abbrev sp_Bench_work (K : PySem.W.Frag) (TT : List NTab) : Sp := SpB K TT (He.ga K "Refusal") (He.ga K "Bench") (f_Bench_work K)
theorem len_Bench_work : ∀ (fs : List (Str × D)) (as : List D) r fs2, f_Bench_work K fs as r fs2 → as.length + 1 = 1 := by
  intro fs as r fs2 h
  obtain ⟨_, _, _, rfl, _⟩ := h; rfl
theorem ok_Bench_work (T : Txt K mg) (TB : Tabs2 K base mg) (hTT : TT = TTT K) : DefOk P w K mg base (L2.CX P w) 10 ("Bench", some "work") ["self"] (sp_Bench_work K TT) := by
  obtain ⟨⟨fd_Bench_ask_for_serving, F_Bench_ask_for_serving, b_Bench_ask_for_serving⟩, kp_Bench_ask_for_serving⟩ := ok_Bench_ask_for_serving (P := P) (w := w) (base := base) (TT := TT) T TB hTT
  obtain ⟨⟨fd_Bench_way_by, F_Bench_way_by, b_Bench_way_by⟩, kp_Bench_way_by⟩ := ok_Bench_way_by (P := P) (w := w) (base := base) (TT := TT) T TB hTT
  obtain ⟨⟨fd_work_of, F_work_of, b_work_of⟩, kp_work_of⟩ := ok_work_of (P := P) (w := w) (base := base) (TT := TT) T
  obtain ⟨fd, F⟩ := T.def_ (i := 70) (d := d_Bench_work) rfl
  refine ⟨⟨fd, FunD.ok F sc_Bench_work (sp_lenB (n := 1) len_Bench_work) (fun cdv A outer s H vs Q E hr h => ?_), F.bindsN fun _ _ _ _ _ _ us hl => match us, hl with | [_], _ => rfl⟩, F.kp⟩
  have hx : Passes (L2.CX P w) (cxOf (L2.CX P w) P w K mg base N_Bench_work d_Bench_work.qual d_Bench_work.scope (He.fAd K d_Bench_work.at_) cdv A outer s H E) E := passes_call (takes_of rfl rfl rfl rfl) fun _ _ _ _ h => h
  refine ⟨_, (pss_cons (ps_expr (pe_meth0 (pv 0) T.cls_Bench T.meth_Bench_ask_for_serving F_Bench_ask_for_serving (hr.mono (by decide)) b_Bench_ask_for_serving .nil hx))
    (pss_cons (ps_set (i := 1) sc_Bench_work.nd rfl (Or.inl rfl) (pe_call F_work_of (hr.mono (by decide)) rfl T.glo_work_of kp_work_of b_work_of .nil pass0 (pa_cons (pe_meth (pv 0) T.cls_Bench T.meth_Bench_way_by F_Bench_way_by (hr.mono (by decide)) b_Bench_way_by .nil pass0 (pa_cons (pe_fld (pv 0) rfl) pa_nil)) pa_nil)))
    (pss_one (ps_ret (pe_lst (pa_cons (pe_fld (pv 1) rfl) (pa_cons (pe_fld (pv 1) rfl) (pa_cons (pe_fld (pv 1) rfl) (pa_cons (pe_fld (pv 1) rfl) pa_nil))))))))), ?_⟩
  refine body_B 2 rfl (fun fs as r fs2 h => by rw [len_Bench_work fs as r fs2 h]; decide) (fun B fs as r fs2 hK hT hf hX => ?_) vs H Q h
  subst hK hT

  obtain ⟨s, hs, rfl, rfl, rfl, hr⟩ := hf
  rcases hr with ⟨z, hz, rfl⟩ | ⟨t, q, i, hn, ht, hq, hi, rfl⟩
  · exact ex_ask (f := f_Bench_ask_for_serving B.K) (fs := bF B.K s) (er := errS s) rfl ⟨s, hs, rfl, rfl, rfl, rfl⟩ rfl (fun z' h => by rw [hz] at h; cases h; exact hX z rfl _ rfl) (fun h => by rw [hz] at h; cases h)
  · refine ex_ask (f := f_Bench_ask_for_serving B.K) (fs := bF B.K s) (er := errS s) rfl ⟨s, hs, rfl, rfl, rfl, rfl⟩ rfl (fun z h => by rw [hn] at h; cases h) (fun _ => ?_)
    obtain ⟨st, sq, si⟩ := s
    obtain rfl : st = some t := ht
    obtain rfl : sq = some q := hq
    obtain rfl : si = some i := hi
    have hT := (hs.t t rfl).2.2
    have hQ := hs.q t q rfl rfl
    have hI := hs.i t i rfl rfl

    refine ex_seq (ex_set (d := kD B.K (wayI t i q).work) (ev_call (f := f_work_of _) (ea_cons (ev_x (ev_methB (f := f_Bench_way_by B.K) (r := .ok (wD B.K (wayI t i q))) (fs := bF B.K ⟨some t, some q, some i⟩) (fs' := bF B.K ⟨some t, some q, some i⟩) (ea_cons (ev_fldS (i := 0) rfl rfl T.cls_Bench T.n_Bench_index rfl) ea_nil) rfl rfl rfl rfl ⟨t, q, some i, i, t.cols, hT, hQ, hI, rfl, rfl, rfl, rfl⟩ (fun n h => nomatch h))) ea_nil) ⟨_, t.cols, rfl, wayI_ok hT hI hQ, rfl⟩) (of_decide_eq_true rfl) ?_)
    exact ex_ret (ev_lst (ea_cons (ev_fld (ev_var (i := 1) rfl) T.cls_Work T.n_Work_touched rfl) (ea_cons (ev_fld (ev_var (i := 1) rfl) T.cls_Work T.n_Work_looked_up rfl) (ea_cons (ev_fld (ev_var (i := 1) rfl) T.cls_Work T.n_Work_put_in_order rfl) (ea_cons (ev_fld (ev_var (i := 1) rfl) T.cls_Work T.n_Work_cost rfl) ea_nil)))) (of_decide_eq_true rfl)) ⟨rfl, rfl⟩
abbrev N_Bench_whole : List Str := ["self", "done"]
theorem sc_Bench_whole : FnScope N_Bench_whole ["self"] (defScope s_Bench_whole) := ⟨rfl, rfl, rfl, by decide +kernel, rfl, by decide +kernel, by decide +kernel⟩
def f_Bench_whole (K : PySem.W.Frag) : List (Str × D) → List D → Res → List (Str × D) → Prop := fun fs as r fs2 => ∃ s : Bst, Sw s ∧ fs = bF K s ∧ as = [] ∧ fs2 = bF K s ∧ ((∃ z, errQ s = some z ∧ r = .error z) ∨ (∃ t q, errQ s = none ∧ s.table = some t ∧ s.question = some q ∧ r = .ok (insD (ansWhole t q))))
abbrev sp_Bench_whole (K : PySem.W.Frag) (TT : List NTab) : Sp := SpB K TT (He.ga K "Refusal") (He.ga K "Bench") (f_Bench_whole K)
theorem len_Bench_whole : ∀ (fs : List (Str × D)) (as : List D) r fs2, f_Bench_whole K fs as r fs2 → as.length + 1 = 1 := by
  intro fs as r fs2 h
  obtain ⟨_, _, _, rfl, _⟩ := h; rfl
theorem ok_Bench_whole (T : Txt K mg) (TB : Tabs2 K base mg) (hTT : TT = TTT K) : DefOk P w K mg base (L2.CX P w) 7 ("Bench", some "whole") ["self"] (sp_Bench_whole K TT) := by
  obtain ⟨⟨fd_Bench_ask_for_question, F_Bench_ask_for_question, b_Bench_ask_for_question⟩, kp_Bench_ask_for_question⟩ := ok_Bench_ask_for_question (P := P) (w := w) (base := base) (TT := TT) T TB hTT
  obtain ⟨⟨fd_way_by_table, F_way_by_table, b_way_by_table⟩, kp_way_by_table⟩ := ok_way_by_table (P := P) (w := w) (base := base) (TT := TT) T
  obtain ⟨⟨fd_work_of, F_work_of, b_work_of⟩, kp_work_of⟩ := ok_work_of (P := P) (w := w) (base := base) (TT := TT) T
  obtain ⟨fd, F⟩ := T.def_ (i := 71) (d := d_Bench_whole) rfl
  refine ⟨⟨fd, FunD.ok F sc_Bench_whole (sp_lenB (n := 1) len_Bench_whole) (fun cdv A outer s H vs Q E hr h => ?_), F.bindsN fun _ _ _ _ _ _ us hl => match us, hl with | [_], _ => rfl⟩, F.kp⟩
  have hx : Passes (L2.CX P w) (cxOf (L2.CX P w) P w K mg base N_Bench_whole d_Bench_whole.qual d_Bench_whole.scope (He.fAd K d_Bench_whole.at_) cdv A outer s H E) E := passes_call (takes_of rfl rfl rfl rfl) fun _ _ _ _ h => h
  refine ⟨_, (pss_cons (ps_expr (pe_meth0 (pv 0) T.cls_Bench T.meth_Bench_ask_for_question F_Bench_ask_for_question (hr.mono (by decide)) b_Bench_ask_for_question .nil hx))
    (pss_cons (ps_set (i := 1) sc_Bench_whole.nd rfl (Or.inl rfl) (pe_call F_work_of (hr.mono (by decide)) rfl T.glo_work_of kp_work_of b_work_of .nil pass0 (pa_cons (pe_call F_way_by_table (hr.mono (by decide)) rfl T.glo_way_by_table kp_way_by_table b_way_by_table .nil pass0 (pa_cons (pe_fld (pv 0) rfl) (pa_cons (pe_fld (pv 0) rfl) pa_nil))) pa_nil)))
    (pss_one (ps_ret (pe_lst (pa_cons (pe_fld (pv 1) rfl) (pa_cons (pe_fld (pv 1) rfl) (pa_cons (pe_fld (pv 1) rfl) pa_nil)))))))), ?_⟩
  refine body_B 2 rfl (fun fs as r fs2 h => by rw [len_Bench_whole fs as r fs2 h]; decide) (fun B fs as r fs2 hK hT hf hX => ?_) vs H Q h
  subst hK hT

  obtain ⟨s, hs, rfl, rfl, rfl, hr⟩ := hf
  rcases hr with ⟨z, hz, rfl⟩ | ⟨t, q, hn, ht, hq, rfl⟩
  · exact ex_ask (f := f_Bench_ask_for_question B.K) (fs := bF B.K s) (er := errQ s) rfl ⟨s, rfl, rfl, rfl, rfl⟩ rfl (fun z' h => by rw [hz] at h; cases h; exact hX z rfl _ rfl) (fun h => by rw [hz] at h; cases h)
  · refine ex_ask (f := f_Bench_ask_for_question B.K) (fs := bF B.K s) (er := errQ s) rfl ⟨s, rfl, rfl, rfl, rfl⟩ rfl (fun z h => by rw [hn] at h; cases h) (fun _ => ?_)
    obtain ⟨st, sq, si⟩ := s
    obtain rfl : st = some t := ht
    obtain rfl : sq = some q := hq
    have hT := (hs.t t rfl).2.2
    have hQ := hs.q t q rfl rfl

    refine ex_seq (ex_set (d := kD B.K (wayT t q).work) (ev_call (f := f_work_of _) (ea_cons (ev_call (f := f_way_by_table _) (ea_cons (ev_fldS (i := 0) rfl rfl T.cls_Bench T.n_Bench_table rfl) (ea_cons (ev_fldS (i := 0) rfl rfl T.cls_Bench T.n_Bench_question rfl) ea_nil)) ⟨t, q, t.cols, rfl, hQ, rfl⟩) ea_nil) ⟨_, t.cols, rfl, wayT_ok hT hQ, rfl⟩) (of_decide_eq_true rfl) ?_)
    exact ex_ret (ev_lst (ea_cons (ev_fld (ev_var (i := 1) rfl) T.cls_Work T.n_Work_touched rfl) (ea_cons (ev_fld (ev_var (i := 1) rfl) T.cls_Work T.n_Work_put_in_order rfl) (ea_cons (ev_fld (ev_var (i := 1) rfl) T.cls_Work T.n_Work_cost rfl) ea_nil))) (of_decide_eq_true rfl)) ⟨rfl, rfl⟩
abbrev N_Bench_best : List Str := ["self", "table_cost", "index_cost"]
theorem sc_Bench_best : FnScope N_Bench_best ["self"] (defScope s_Bench_best) := ⟨rfl, rfl, rfl, by decide +kernel, rfl, by decide +kernel, by decide +kernel⟩
def f_Bench_best (K : PySem.W.Frag) : List (Str × D) → List D → Res → List (Str × D) → Prop := fun fs as r fs2 => ∃ s : Bst, Sw s ∧ fs = bF K s ∧ as = [] ∧ fs2 = bF K s ∧ ((∃ z, errI s = some z ∧ r = .error z) ∨ (∃ t q i, errI s = none ∧ s.table = some t ∧ s.question = some q ∧ s.index = some i ∧ r = .ok (insD (ansBest t q i))))
abbrev sp_Bench_best (K : PySem.W.Frag) (TT : List NTab) : Sp := SpB K TT (He.ga K "Refusal") (He.ga K "Bench") (f_Bench_best K)
theorem len_Bench_best : ∀ (fs : List (Str × D)) (as : List D) r fs2, f_Bench_best K fs as r fs2 → as.length + 1 = 1 := by
  intro fs as r fs2 h
  obtain ⟨_, _, _, rfl, _⟩ := h; rfl
theorem ok_Bench_best (T : Txt K mg) (TB : Tabs2 K base mg) (hTT : TT = TTT K) : DefOk P w K mg base (L2.CX P w) 10 ("Bench", some "best") ["self"] (sp_Bench_best K TT) := by
  obtain ⟨⟨fd_Bench_ask_for_index, F_Bench_ask_for_index, b_Bench_ask_for_index⟩, kp_Bench_ask_for_index⟩ := ok_Bench_ask_for_index (P := P) (w := w) (base := base) (TT := TT) T TB hTT
  obtain ⟨⟨fd_Bench_way_by, F_Bench_way_by, b_Bench_way_by⟩, kp_Bench_way_by⟩ := ok_Bench_way_by (P := P) (w := w) (base := base) (TT := TT) T TB hTT
  obtain ⟨⟨fd_serves, F_serves, b_serves⟩, kp_serves⟩ := ok_serves (P := P) (w := w) (base := base) (TT := TT) T
  obtain ⟨⟨fd_way_by_table, F_way_by_table, b_way_by_table⟩, kp_way_by_table⟩ := ok_way_by_table (P := P) (w := w) (base := base) (TT := TT) T
  obtain ⟨⟨fd_work_of, F_work_of, b_work_of⟩, kp_work_of⟩ := ok_work_of (P := P) (w := w) (base := base) (TT := TT) T
  obtain ⟨fd, F⟩ := T.def_ (i := 72) (d := d_Bench_best) rfl
  refine ⟨⟨fd, FunD.ok F sc_Bench_best (sp_lenB (n := 1) len_Bench_best) (fun cdv A outer s H vs Q E hr h => ?_), F.bindsN fun _ _ _ _ _ _ us hl => match us, hl with | [_], _ => rfl⟩, F.kp⟩
  have hx : Passes (L2.CX P w) (cxOf (L2.CX P w) P w K mg base N_Bench_best d_Bench_best.qual d_Bench_best.scope (He.fAd K d_Bench_best.at_) cdv A outer s H E) E := passes_call (takes_of rfl rfl rfl rfl) fun _ _ _ _ h => h
  refine ⟨_, (pss_cons (ps_expr (pe_meth0 (pv 0) T.cls_Bench T.meth_Bench_ask_for_index F_Bench_ask_for_index (hr.mono (by decide)) b_Bench_ask_for_index .nil hx))
    (pss_cons (ps_set (i := 1) sc_Bench_best.nd rfl (Or.inl rfl) (pe_fld (pe_call F_work_of (hr.mono (by decide)) rfl T.glo_work_of kp_work_of b_work_of .nil pass0 (pa_cons (pe_call F_way_by_table (hr.mono (by decide)) rfl T.glo_way_by_table kp_way_by_table b_way_by_table .nil pass0 (pa_cons (pe_fld (pv 0) rfl) (pa_cons (pe_fld (pv 0) rfl) pa_nil))) pa_nil)) rfl))
    (pss_cons (ps_if (pt_not (pt_val (pe_call F_serves (hr.mono (by decide)) rfl T.glo_serves kp_serves b_serves .nil pass0 (pa_cons (pe_fld (pv 0) rfl) (pa_cons (pe_fld (pv 0) rfl) pa_nil))))) (pss_one (ps_ret (pe_lst (pa_cons pe_int (pa_cons (pv 1) (pa_cons (pe_un un_neg pe_int) pa_nil)))))) pss_nil)
    (pss_cons (ps_set (i := 2) sc_Bench_best.nd rfl (Or.inl rfl) (pe_fld (pe_call F_work_of (hr.mono (by decide)) rfl T.glo_work_of kp_work_of b_work_of .nil pass0 (pa_cons (pe_meth (pv 0) T.cls_Bench T.meth_Bench_way_by F_Bench_way_by (hr.mono (by decide)) b_Bench_way_by .nil pass0 (pa_cons (pe_fld (pv 0) rfl) pa_nil)) pa_nil)) rfl))
    (pss_cons (ps_if (pt_cmpR op_lt (pv 2) (pv 1) (nomark _)) (pss_one (ps_ret (pe_lst (pa_cons pe_int (pa_cons (pv 2) (pa_cons (pv 1) pa_nil)))))) pss_nil)
    (pss_one (ps_ret (pe_lst (pa_cons pe_int (pa_cons (pv 1) (pa_cons (pv 2) pa_nil))))))))))), ?_⟩
  refine body_B 3 rfl (fun fs as r fs2 h => by rw [len_Bench_best fs as r fs2 h]; decide) (fun B fs as r fs2 hK hT hf hX => ?_) vs H Q h
  subst hK hT

  obtain ⟨s, hs, rfl, rfl, rfl, hr⟩ := hf
  rcases hr with ⟨z, hz, rfl⟩ | ⟨t, q, i, hn, ht, hq, hi, rfl⟩
  · exact ex_ask (f := f_Bench_ask_for_index B.K) (fs := bF B.K s) (er := errI s) rfl ⟨s, rfl, rfl, rfl, rfl⟩ rfl (fun z' h => by rw [hz] at h; cases h; exact hX z rfl _ rfl) (fun h => by rw [hz] at h; cases h)
  · refine ex_ask (f := f_Bench_ask_for_index B.K) (fs := bF B.K s) (er := errI s) rfl ⟨s, rfl, rfl, rfl, rfl⟩ rfl (fun z h => by rw [hn] at h; cases h) (fun _ => ?_)
    obtain ⟨st, sq, si⟩ := s
    obtain rfl : st = some t := ht
    obtain rfl : sq = some q := hq
    obtain rfl : si = some i := hi
    have hT := (hs.t t rfl).2.2
    have hQ := hs.q t q rfl rfl
    have hI := hs.i t i rfl rfl

    refine ex_seq (ex_set (d := nD (wayT t q).work.cost) (ev_fld (ev_eq (ev_call (f := f_work_of _) (ea_cons (ev_call (f := f_way_by_table _) (ea_cons (ev_fldS (i := 0) rfl rfl T.cls_Bench T.n_Bench_table rfl) (ea_cons (ev_fldS (i := 0) rfl rfl T.cls_Bench T.n_Bench_question rfl) ea_nil)) ⟨t, q, t.cols, rfl, hQ, rfl⟩) ea_nil) ⟨_, t.cols, rfl, wayT_ok hT hQ, rfl⟩) (rfl : _ = kD B.K (wayT t q).work)) T.cls_Work T.n_Work_cost rfl) (of_decide_eq_true rfl) ?_)
    unfold ansBest
    cases hv : VaidxBase.serves i q with
    | false =>
      refine ex_seq (ex_if (c := true) (et_eq (et_not (et_B (ev_call (f := f_serves _) (ea_cons (ev_fldS (i := 0) rfl rfl T.cls_Bench T.n_Bench_index rfl) (ea_cons (ev_fldS (i := 0) rfl rfl T.cls_Bench T.n_Bench_question rfl) ea_nil)) ⟨i, q, rfl, hQ.nd, hQ.fl, rfl⟩))) (by rw [hv]; rfl)) (fun _ => ?_) (fun h => nomatch h))
      exact ex_ret (ev_lst (ea_cons (ev_int (i := 0)) (ea_cons (ev_var (i := 1) rfl) (ea_cons (ev_neg (ev_int (i := 1))) ea_nil))) (of_decide_eq_true rfl)) ⟨rfl, rfl⟩
    | true =>
      refine ex_seq (ex_if (c := false) (et_eq (et_not (et_B (ev_call (f := f_serves _) (ea_cons (ev_fldS (i := 0) rfl rfl T.cls_Bench T.n_Bench_index rfl) (ea_cons (ev_fldS (i := 0) rfl rfl T.cls_Bench T.n_Bench_question rfl) ea_nil)) ⟨i, q, rfl, hQ.nd, hQ.fl, rfl⟩))) (by rw [hv]; rfl)) (fun h => nomatch h) (fun _ => ex_next ?_))
      refine ex_seq (ex_set (d := nD (wayI t i q).work.cost) (ev_fld (ev_eq (ev_call (f := f_work_of _) (ea_cons (ev_x (ev_methB (f := f_Bench_way_by B.K) (r := .ok (wD B.K (wayI t i q))) (fs := bF B.K ⟨some t, some q, some i⟩) (fs' := bF B.K ⟨some t, some q, some i⟩) (ea_cons (ev_fldS (i := 0) rfl rfl T.cls_Bench T.n_Bench_index rfl) ea_nil) rfl rfl rfl rfl ⟨t, q, some i, i, t.cols, hT, hQ, hI, rfl, rfl, rfl, rfl⟩ (fun n h => nomatch h))) ea_nil) ⟨_, t.cols, rfl, wayI_ok hT hI hQ, rfl⟩) (rfl : _ = kD B.K (wayI t i q).work)) T.cls_Work T.n_Work_cost rfl) (of_decide_eq_true rfl) ?_)
      show Ex B _ [some (.bor (.obj (He.ga B.K "Bench") (bF B.K ⟨some t, some q, some i⟩))), some (.val (nD (wayT t q).work.cost)), some (.val (nD (wayI t i q).work.cost))] _
      rw [if_pos rfl]
      by_cases hc : (wayI t i q).work.cost < (wayT t q).work.cost
      · rw [if_pos hc]
        refine ex_seq (ex_if (c := true) (et_eq (et_test (ev_ib (ev_var (i := 2) rfl) (ev_var (i := 1) rfl))) ((dec_lt _ _).trans (decide_eq_true hc))) (fun _ => ?_) (fun h => nomatch h))
        exact ex_ret (ev_lst (ea_cons (ev_int (i := 1)) (ea_cons (ev_var (i := 2) rfl) (ea_cons (ev_var (i := 1) rfl) ea_nil))) (of_decide_eq_true rfl)) ⟨rfl, rfl⟩
      · rw [if_neg hc]
        refine ex_seq (ex_if (c := false) (et_eq (et_test (ev_ib (ev_var (i := 2) rfl) (ev_var (i := 1) rfl))) ((dec_lt _ _).trans (decide_eq_false hc))) (fun h => nomatch h) (fun _ => ex_next ?_))
        exact ex_ret (ev_lst (ea_cons (ev_int (i := 0)) (ea_cons (ev_var (i := 1) rfl) (ea_cons (ev_var (i := 2) rfl) ea_nil))) (of_decide_eq_true rfl)) ⟨rfl, rfl⟩
end
end One
namespace One
open PySem PySem.Spec PyProof.Rows L2 NdefX Dl Lm
section
variable {P : Program} {w : World} {K : PySem.W.Frag} {mg : Str → Option Value} {base : Heap} {TT : List NTab}
abbrev N_Bench_way_told : List Str := ["self", "way_number"]
theorem sc_Bench_way_told : FnScope N_Bench_way_told ["self", "way_number"] (defScope s_Bench_way_told) := ⟨rfl, rfl, rfl, by decide +kernel, rfl, by decide +kernel, by decide +kernel⟩
def f_Bench_way_told (K : PySem.W.Frag) : List (Str × D) → List D → Res → List (Str × D) → Prop := fun fs as r fs2 => ∃ (s : Bst) (k : Int), Sw s ∧ fs = bF K s ∧ as = [.int k] ∧ fs2 = bF K s ∧ r = (match told s k with | .ok y => .ok (wD K y) | .error e => .error e)
abbrev sp_Bench_way_told (K : PySem.W.Frag) (TT : List NTab) : Sp := SpB K TT (He.ga K "Refusal") (He.ga K "Bench") (f_Bench_way_told K)
theorem len_Bench_way_told : ∀ (fs : List (Str × D)) (as : List D) r fs2, f_Bench_way_told K fs as r fs2 → as.length + 1 = 2 := by
  intro fs as r fs2 h
  obtain ⟨_, _, _, _, rfl, _⟩ := h; rfl
theorem ok_Bench_way_told (T : Txt K mg) (TB : Tabs2 K base mg) (hTT : TT = TTT K) : DefOk P w K mg base (L2.CX P w) 10 ("Bench", some "way_told") ["self", "way_number"] (sp_Bench_way_told K TT) := by
  obtain ⟨⟨fd_Bench_ask_for_question, F_Bench_ask_for_question, b_Bench_ask_for_question⟩, kp_Bench_ask_for_question⟩ := ok_Bench_ask_for_question (P := P) (w := w) (base := base) (TT := TT) T TB hTT
  obtain ⟨⟨fd_Bench_ask_for_serving, F_Bench_ask_for_serving, b_Bench_ask_for_serving⟩, kp_Bench_ask_for_serving⟩ := ok_Bench_ask_for_serving (P := P) (w := w) (base := base) (TT := TT) T TB hTT
  obtain ⟨⟨fd_Bench_ask_for_table, F_Bench_ask_for_table, b_Bench_ask_for_table⟩, kp_Bench_ask_for_table⟩ := ok_Bench_ask_for_table (P := P) (w := w) (base := base) (TT := TT) T TB hTT
  obtain ⟨⟨fd_Bench_way_by, F_Bench_way_by, b_Bench_way_by⟩, kp_Bench_way_by⟩ := ok_Bench_way_by (P := P) (w := w) (base := base) (TT := TT) T TB hTT
  obtain ⟨⟨fd_way_by_table, F_way_by_table, b_way_by_table⟩, kp_way_by_table⟩ := ok_way_by_table (P := P) (w := w) (base := base) (TT := TT) T
  obtain ⟨⟨fd_NoSuchWay_init, F_NoSuchWay_init, b_NoSuchWay_init⟩, _⟩ := ok_NoSuchWay_init (P := P) (w := w) (base := base) T
  obtain ⟨fd, F⟩ := T.def_ (i := 79) (d := d_Bench_way_told) rfl
  refine ⟨⟨fd, FunD.ok F sc_Bench_way_told (sp_lenB (n := 2) len_Bench_way_told) (fun cdv A outer s H vs Q E hr h => ?_), F.bindsN fun _ _ _ _ _ _ us hl => match us, hl with | [_, _], _ => rfl⟩, F.kp⟩
  have hx : Passes (L2.CX P w) (cxOf (L2.CX P w) P w K mg base N_Bench_way_told d_Bench_way_told.qual d_Bench_way_told.scope (He.fAd K d_Bench_way_told.at_) cdv A outer s H E) E := passes_call (takes_of rfl rfl rfl rfl) fun _ _ _ _ h => h
  refine ⟨_, (pss_cons (ps_expr (pe_meth0 (pv 0) T.cls_Bench T.meth_Bench_ask_for_table F_Bench_ask_for_table (hr.mono (by decide)) b_Bench_ask_for_table .nil hx))
    (pss_cons (ps_if (pt_cmpR op_notIn_seq (pv 1) (pe_tup (pa_cons (pe_gI rfl T.int_BY_TABLE) (pa_cons (pe_gI rfl T.int_BY_INDEX) pa_nil))) (by with_unfolding_all rfl)) (pss_one (ps_raise rfl (takes_of rfl rfl rfl rfl) (pmk_e T.e_NoSuchWay F_NoSuchWay_init (hr.mono (by decide)) b_NoSuchWay_init pass0 (by rfl) T.glo_NoSuchWay))) pss_nil)
    (pss_cons (ps_expr (pe_meth0 (pv 0) T.cls_Bench T.meth_Bench_ask_for_question F_Bench_ask_for_question (hr.mono (by decide)) b_Bench_ask_for_question .nil hx))
    (pss_cons (ps_if (pt_cmpR op_eq (pv 1) (pe_gI rfl T.int_BY_TABLE) (nomark _)) (pss_one (ps_ret (pe_call F_way_by_table (hr.mono (by decide)) rfl T.glo_way_by_table kp_way_by_table b_way_by_table .nil pass0 (pa_cons (pe_fld (pv 0) rfl) (pa_cons (pe_fld (pv 0) rfl) pa_nil))))) pss_nil)
    (pss_cons (ps_expr (pe_meth0 (pv 0) T.cls_Bench T.meth_Bench_ask_for_serving F_Bench_ask_for_serving (hr.mono (by decide)) b_Bench_ask_for_serving .nil hx))
    (pss_one (ps_ret (pe_meth (pv 0) T.cls_Bench T.meth_Bench_way_by F_Bench_way_by (hr.mono (by decide)) b_Bench_way_by .nil pass0 (pa_cons (pe_fld (pv 0) rfl) pa_nil))))))))), ?_⟩
  refine body_B 2 rfl (fun fs as r fs2 h => by rw [len_Bench_way_told fs as r fs2 h]; decide) (fun B fs as r fs2 hK hT hf hX => ?_) vs H Q h
  subst hK hT

  obtain ⟨s, k, hs, rfl, rfl, rfl, rfl⟩ := hf
  have hE : ∀ z, told s k = .error z → ∀ e' : En, e'[0]? = some (some (.bor (.obj (He.ga B.K "Bench") (bF B.K s)))) → Xo B (He.ga B.K "Refusal") E z e' := fun z h => by rw [h] at hX; exact hX z rfl
  refine ex_ask (f := f_Bench_ask_for_table B.K) (fs := bF B.K s) (er := errT s) rfl ⟨s, rfl, rfl, rfl, rfl⟩ rfl (fun z h => hE z (by unfold told; rw [h]) _ rfl) (fun hn => ?_)
  obtain ⟨t, ht⟩ := errT_no hn
  have tu : Ev B _ [some (.bor (.obj (He.ga B.K "Bench") (bF B.K s))), some (.val (.int k))] (.tup ([0, 1].map D.int)) _ := ev_tup (ea_cons (ev_int (i := 0)) (ea_cons (ev_int (i := 1)) ea_nil)) (of_decide_eq_true rfl)
  by_cases hk : k = 0 ∨ k = 1
  · refine ex_seq (ex_if (c := false) (et_eq (et_test (ev_in (neg := true) (i := k) (ns := [0, 1]) (ev_var (i := 1) rfl) tu (.inr rfl))) (by rw [if_pos rfl, decide_eq_true (by rcases hk with rfl | rfl <;> simp)]; rfl)) (fun h => nomatch h) (fun _ => ex_next ?_))
    have e0 : told s k = (match s.table, s.question with
      | some t, some q => if k = 0 then .ok (wayT t q) else (match s.index with
        | some i => if VaidxBase.serves i q = true then .ok (wayI t i q) else .error (-6)
        | none => .error (-7))
      | _, _ => .error (-9)) := by unfold told; rw [hn]; exact if_pos hk
    refine ex_ask (f := f_Bench_ask_for_question B.K) (fs := bF B.K s) (er := errQ s) rfl ⟨s, rfl, rfl, rfl, rfl⟩ rfl (fun z h => hE z ?_ _ rfl) (fun hq => ?_)
    · unfold errQ at h
      rw [hn] at h
      cases eq : s.question with
      | none => rw [eq] at h; rw [e0, ht, eq]; cases h; rfl
      | some q => rw [eq] at h; cases h
    obtain ⟨t', q, ht', hq'⟩ := errQ_no hq
    rw [ht] at ht'
    obtain rfl := Option.some.inj ht'
    rw [ht, hq'] at e0
    have hT := (hs.t t ht).2.2
    have hQ := hs.q t q ht hq'
    by_cases h0 : k = 0
    · refine ex_seq (ex_if (c := true) (et_eq (et_test (ev_eqI (i := k) (ev_var (i := 1) rfl) (ev_int (i := 0)))) (decide_eq_true h0)) (fun _ => ?_) (fun h => nomatch h))
      rw [show told s k = .ok (wayT t q) from e0.trans (if_pos h0)]
      exact ex_ret (ev_call (f := f_way_by_table _) (ea_cons (ev_eq (ev_fldS (i := 0) rfl rfl T.cls_Bench T.n_Bench_table rfl) (by rw [ht]; rfl)) (ea_cons (ev_eq (ev_fldS (i := 0) rfl rfl T.cls_Bench T.n_Bench_question rfl) (by rw [hq']; rfl)) ea_nil)) ⟨t, q, t.cols, rfl, hQ, rfl⟩) ⟨rfl, rfl⟩
    · refine ex_seq (ex_if (c := false) (et_eq (et_test (ev_eqI (i := k) (ev_var (i := 1) rfl) (ev_int (i := 0)))) (decide_eq_false h0)) (fun h => nomatch h) (fun _ => ex_next ?_))
      have e1 := e0.trans (if_neg h0)
      refine ex_ask (f := f_Bench_ask_for_serving B.K) (fs := bF B.K s) (er := errS s) rfl ⟨s, hs, rfl, rfl, rfl, rfl⟩ rfl (fun z h => hE z ?_ _ rfl) (fun hv => ?_)
      · unfold errS errI at h
        rw [hq] at h
        cases ei : s.index with
        | none => rw [ei] at h; rw [e1, ei]; cases h; rfl
        | some i =>
          rw [ei] at h
          have h : (if svB s = true then none else some (-6 : Int)) = some z := h
          unfold svB at h
          rw [ei, hq'] at h
          have h : (if VaidxBase.serves i q = true then none else some (-6 : Int)) = some z := h
          rw [e1, ei]
          show (if VaidxBase.serves i q = true then Except.ok (wayI t i q) else Except.error (-6 : Int)) = Except.error z
          split at h
          · cases h
          · rename_i c
            rw [if_neg c]; cases h; rfl
      · obtain ⟨t2, q2, i, ht2, hq2, hi2, hsv⟩ := errS_no hv
        rw [ht] at ht2
        obtain rfl := Option.some.inj ht2
        rw [hq'] at hq2
        obtain rfl := Option.some.inj hq2
        rw [hi2] at e1
        have e2 : told s k = .ok (wayI t i q) := e1.trans (if_pos hsv)
        rw [e2]
        obtain ⟨st, sq, si⟩ := s
        obtain rfl : st = some t := ht
        obtain rfl : sq = some q := hq'
        obtain rfl : si = some i := hi2
        have hI := hs.i t i rfl rfl
        exact ex_ret (ev_x (ev_methB (f := f_Bench_way_by B.K) (r := .ok (wD B.K (wayI t i q))) (fs := bF B.K ⟨some t, some q, some i⟩) (fs' := bF B.K ⟨some t, some q, some i⟩) (ea_cons (ev_fldS (i := 0) rfl rfl T.cls_Bench T.n_Bench_index rfl) ea_nil) rfl rfl rfl rfl ⟨t, q, some i, i, t.cols, hT, hQ, hI, rfl, rfl, rfl, rfl⟩ (fun n h => nomatch h))) ⟨rfl, rfl⟩
  · have e0 : told s k = .error (-5) := by unfold told; rw [hn]; exact if_neg hk
    exact ex_seq (ex_if (c := true) (et_eq (et_test (ev_in (neg := true) (i := k) (ns := [0, 1]) (ev_var (i := 1) rfl) tu (.inr rfl))) (by rw [if_pos rfl, decide_eq_false (by simpa using hk)]; rfl)) (fun _ => ex_raise T.e_NoSuchWay T.x_NoSuchWay (hE _ e0 _ rfl)) (fun h => nomatch h))
abbrev N_Bench_trace : List Str := ["self", "way_number", "steps", "told", "step"]
theorem sc_Bench_trace : FnScope N_Bench_trace ["self", "way_number"] (defScope s_Bench_trace) := ⟨rfl, rfl, rfl, by decide +kernel, rfl, by decide +kernel, by decide +kernel⟩
def f_Bench_trace (K : PySem.W.Frag) : List (Str × D) → List D → Res → List (Str × D) → Prop := fun fs as r fs2 => ∃ (s : Bst) (k : Int), Sw s ∧ fs = bF K s ∧ as = [.int k] ∧ fs2 = bF K s ∧ r = (match told s k with | .ok y => .ok (insD (ansTrace y)) | .error e => .error e)
abbrev sp_Bench_trace (K : PySem.W.Frag) (TT : List NTab) : Sp := SpB K TT (He.ga K "Refusal") (He.ga K "Bench") (f_Bench_trace K)
theorem len_Bench_trace : ∀ (fs : List (Str × D)) (as : List D) r fs2, f_Bench_trace K fs as r fs2 → as.length + 1 = 2 := by
  intro fs as r fs2 h
  obtain ⟨_, _, _, _, rfl, _⟩ := h; rfl
theorem ok_Bench_trace (T : Txt K mg) (TB : Tabs2 K base mg) (hTT : TT = TTT K) : DefOk P w K mg base (L2.CX P w) 11 ("Bench", some "trace") ["self", "way_number"] (sp_Bench_trace K TT) := by
  obtain ⟨⟨fd_Bench_way_told, F_Bench_way_told, b_Bench_way_told⟩, kp_Bench_way_told⟩ := ok_Bench_way_told (P := P) (w := w) (base := base) (TT := TT) T TB hTT
  obtain ⟨⟨fd_steps_of, F_steps_of, b_steps_of⟩, kp_steps_of⟩ := ok_steps_of (P := P) (w := w) (base := base) (TT := TT) T
  obtain ⟨fd, F⟩ := T.def_ (i := 73) (d := d_Bench_trace) rfl
  refine ⟨⟨fd, FunD.ok F sc_Bench_trace (sp_lenB (n := 2) len_Bench_trace) (fun cdv A outer s H vs Q E hr h => ?_), F.bindsN fun _ _ _ _ _ _ us hl => match us, hl with | [_, _], _ => rfl⟩, F.kp⟩
  have hx : Passes (L2.CX P w) (cxOf (L2.CX P w) P w K mg base N_Bench_trace d_Bench_trace.qual d_Bench_trace.scope (He.fAd K d_Bench_trace.at_) cdv A outer s H E) E := passes_call (takes_of rfl rfl rfl rfl) fun _ _ _ _ h => h
  refine ⟨_, (pss_cons (ps_set (i := 2) sc_Bench_trace.nd rfl (Or.inl rfl) (pe_call F_steps_of (hr.mono (by decide)) rfl T.glo_steps_of kp_steps_of b_steps_of .nil pass0 (pa_cons (pe_meth (pv 0) T.cls_Bench T.meth_Bench_way_told F_Bench_way_told (hr.mono (by decide)) b_Bench_way_told .nil hx (pa_cons (pv 1) pa_nil)) pa_nil)))
    (pss_cons (ps_set (i := 3) sc_Bench_trace.nd rfl (Or.inl rfl) (pe_lst (pa_cons (pe_callB call_len_seq (by rfl) T.free_len PySem.boot_len (pa_cons (pv 2) pa_nil)) pa_nil)))
    (pss_cons (ps_for (passes_of rfl) rfl (pi_list (pv 2)) (pg_name (i := 4) sc_Bench_trace.nd rfl (Or.inl rfl))
    (pss_one (ps_expr (pe_bm PySem.F.plainAttrs_list PySem.F.slot_list_extend PySem.F.type_list_extend mt_extend (pv 3) (pa_cons (pe_lst (pa_cons (pe_fld (pe_fld (pv 4) rfl) rfl) (pa_cons (pe_fld (pv 4) rfl) (pa_cons (pe_fld (pv 4) rfl) (pa_cons (pe_fld (pv 4) rfl) pa_nil))))) pa_nil)))))
    (pss_one (ps_ret (pv 3)))))), ?_⟩
  refine body_B 5 rfl (fun fs as r fs2 h => by rw [len_Bench_trace fs as r fs2 h]; decide) (fun B fs as r fs2 hK hT hf hX => ?_) vs H Q h
  subst hK hT

  obtain ⟨s, k, hs, rfl, rfl, rfl, rfl⟩ := hf
  cases hy : told s k with
  | error z =>
    rw [hy] at hX
    exact ex_seq (exE_set (evE_call (eaE_at (evE_x (n := z) (ev_methB (f := f_Bench_way_told B.K) (r := .error z) (fs := bF B.K s) (fs' := bF B.K s) (as := [.int k]) (ea_cons (ev_var (i := 1) rfl) ea_nil) rfl rfl rfl rfl ⟨s, k, hs, rfl, rfl, rfl, by rw [hy]⟩ (fun n h => by cases h; exact hX z rfl _ rfl))))))
  | ok y =>
    obtain ⟨w, hw⟩ := told_ok hs hy
    have lz : (y.steps y.gs y.stop).length ≤ 12 := by
      exact Nat.le_trans (steps_len y _ _) hw.gl
    refine ex_seq (ex_set (ev_call (f := f_steps_of _) (ea_cons (ev_x (ev_methB (f := f_Bench_way_told B.K) (r := .ok (wD B.K y)) (fs := bF B.K s) (fs' := bF B.K s) (as := [.int k]) (ea_cons (ev_var (i := 1) rfl) ea_nil) rfl rfl rfl rfl ⟨s, k, hs, rfl, rfl, rfl, by rw [hy]⟩ (fun n h => nomatch h))) ea_nil) ⟨y, w, rfl, hw, rfl⟩) (of_decide_eq_true rfl) ?_)
    show Ex B _ [some (.bor (.obj (He.ga B.K "Bench") (bF B.K s))), some (.val (.int k)), some (.val (D.lst ((y.steps y.gs y.stop).map (sD B.K)))), none, none] _
    unfold ansTrace
    refine ex_seq (ex_setO (eo_lst (ea_cons (ev_eq (ev_len (xs := (y.steps y.gs y.stop).map (sD B.K)) (ev_var (i := 2) rfl)) (congrArg (fun (n : Nat) => D.int (n : Int)) (List.length_map _))) ea_nil) (of_decide_eq_true rfl)) (of_decide_eq_true rfl) ?_)
    refine ex_seq (ex_for (l := y.steps y.gs y.stop) (enc := sD B.K) (ev_var (i := 2) rfl) (fun i e2 => ∃ (x4 : Option Ent), e2 = [some (.bor (.obj (He.ga B.K "Bench") (bF B.K s))), some (.val (.int k)), some (.val (D.lst ((y.steps y.gs y.stop).map (sD B.K)))), some (.own (.lst (((((y.steps y.gs y.stop).length : Nat) : Int) :: ((y.steps y.gs y.stop).take i).flatMap toldS).map D.int))), x4]) ⟨none, rfl⟩ ?_ ?_ ?_)
    · rintro i e2 ⟨x4, rfl⟩
      exact of_decide_eq_true rfl
    · rintro i a e2 hi ⟨x4, rfl⟩
      have hn : i < 12 := Nat.lt_of_lt_of_le (List.getElem?_eq_some_iff.mp hi).1 lz
      have st : ((y.steps y.gs y.stop).take (i + 1)).flatMap toldS = ((y.steps y.gs y.stop).take i).flatMap toldS ++ toldS a := by rw [take_more hi, List.flatMap_append, List.flatMap_cons, List.flatMap_nil, List.append_nil]
      have fl := flat_le toldS 4 (fun _ => Nat.le_of_ble_eq_true rfl) ((y.steps y.gs y.stop).take i)
      rw [List.length_take] at fl
      refine ex_ext (ys := (toldS a).map D.int) rfl (ev_lst (ea_cons (ev_fld (ev_fld (ev_var (i := 4) (d := sD B.K a) rfl) T.cls_Step T.n_Step_group rfl) T.cls_Group T.n_Group_number rfl) (ea_cons (ev_fld (ev_var (i := 4) (d := sD B.K a) rfl) T.cls_Step T.n_Step_touched rfl) (ea_cons (ev_fld (ev_var (i := 4) (d := sD B.K a) rfl) T.cls_Step T.n_Step_looked_up rfl) (ea_cons (ev_fld (ev_var (i := 4) (d := sD B.K a) rfl) T.cls_Step T.n_Step_found rfl) ea_nil)))) (of_decide_eq_true rfl)) rfl ?_ ⟨some (.val (sD B.K a)), ?_⟩
      · have : (toldS a).length ≤ 4 := Nat.le_of_ble_eq_true rfl
        rw [List.length_map, List.length_map, List.length_cons]
        omega
      · rw [st, ← List.map_append]
        rfl
    · rintro e2 ⟨x4, rfl⟩
      rw [List.take_length]
      exact ex_ret (ev_own (i := 3) rfl) ⟨rfl, rfl⟩
abbrev N_Bench_answer : List Str := ["self", "way_number", "shares", "told", "share"]
theorem sc_Bench_answer : FnScope N_Bench_answer ["self", "way_number"] (defScope s_Bench_answer) := ⟨rfl, rfl, rfl, by decide +kernel, rfl, by decide +kernel, by decide +kernel⟩
def f_Bench_answer (K : PySem.W.Frag) : List (Str × D) → List D → Res → List (Str × D) → Prop := fun fs as r fs2 => ∃ (s : Bst) (k : Int), Sw s ∧ fs = bF K s ∧ as = [.int k] ∧ fs2 = bF K s ∧ r = (match told s k with | .ok y => .ok (insD (ansAnswer y)) | .error e => .error e)
abbrev sp_Bench_answer (K : PySem.W.Frag) (TT : List NTab) : Sp := SpB K TT (He.ga K "Refusal") (He.ga K "Bench") (f_Bench_answer K)
theorem len_Bench_answer : ∀ (fs : List (Str × D)) (as : List D) r fs2, f_Bench_answer K fs as r fs2 → as.length + 1 = 2 := by
  intro fs as r fs2 h
  obtain ⟨_, _, _, _, rfl, _⟩ := h; rfl
theorem ok_Bench_answer (T : Txt K mg) (TB : Tabs2 K base mg) (hTT : TT = TTT K) : DefOk P w K mg base (L2.CX P w) 11 ("Bench", some "answer") ["self", "way_number"] (sp_Bench_answer K TT) := by
  obtain ⟨⟨fd_Bench_way_told, F_Bench_way_told, b_Bench_way_told⟩, kp_Bench_way_told⟩ := ok_Bench_way_told (P := P) (w := w) (base := base) (TT := TT) T TB hTT
  obtain ⟨⟨fd_shares_answered, F_shares_answered, b_shares_answered⟩, kp_shares_answered⟩ := ok_shares_answered (P := P) (w := w) (base := base) (TT := TT) T TB hTT
  obtain ⟨fd, F⟩ := T.def_ (i := 74) (d := d_Bench_answer) rfl
  refine ⟨⟨fd, FunD.ok F sc_Bench_answer (sp_lenB (n := 2) len_Bench_answer) (fun cdv A outer s H vs Q E hr h => ?_), F.bindsN fun _ _ _ _ _ _ us hl => match us, hl with | [_, _], _ => rfl⟩, F.kp⟩
  have hx : Passes (L2.CX P w) (cxOf (L2.CX P w) P w K mg base N_Bench_answer d_Bench_answer.qual d_Bench_answer.scope (He.fAd K d_Bench_answer.at_) cdv A outer s H E) E := passes_call (takes_of rfl rfl rfl rfl) fun _ _ _ _ h => h
  refine ⟨_, (pss_cons (ps_set (i := 2) sc_Bench_answer.nd rfl (Or.inl rfl) (pe_call F_shares_answered (hr.mono (by decide)) rfl T.glo_shares_answered kp_shares_answered b_shares_answered .nil pass0 (pa_cons (pe_meth (pv 0) T.cls_Bench T.meth_Bench_way_told F_Bench_way_told (hr.mono (by decide)) b_Bench_way_told .nil hx (pa_cons (pv 1) pa_nil)) pa_nil)))
    (pss_cons (ps_set (i := 3) sc_Bench_answer.nd rfl (Or.inl rfl) (pe_lst (pa_cons (pe_callB call_len_seq (by rfl) T.free_len PySem.boot_len (pa_cons (pv 2) pa_nil)) pa_nil)))
    (pss_cons (ps_for (passes_of rfl) rfl (pi_list (pv 2)) (pg_name (i := 4) sc_Bench_answer.nd rfl (Or.inl rfl))
    (pss_one (ps_expr (pe_bm PySem.F.plainAttrs_list PySem.F.slot_list_extend PySem.F.type_list_extend mt_extend (pv 3) (pa_cons (pe_lst (pa_cons (pe_fld (pe_fld (pv 4) rfl) rfl) (pa_cons (pe_fld (pv 4) rfl) pa_nil))) pa_nil)))))
    (pss_one (ps_ret (pv 3)))))), ?_⟩
  refine body_B 5 rfl (fun fs as r fs2 h => by rw [len_Bench_answer fs as r fs2 h]; decide) (fun B fs as r fs2 hK hT hf hX => ?_) vs H Q h
  subst hK hT

  obtain ⟨s, k, hs, rfl, rfl, rfl, rfl⟩ := hf
  cases hy : told s k with
  | error z =>
    rw [hy] at hX
    exact ex_seq (exE_set (evE_call (eaE_at (evE_x (n := z) (ev_methB (f := f_Bench_way_told B.K) (r := .error z) (fs := bF B.K s) (fs' := bF B.K s) (as := [.int k]) (ea_cons (ev_var (i := 1) rfl) ea_nil) rfl rfl rfl rfl ⟨s, k, hs, rfl, rfl, rfl, by rw [hy]⟩ (fun n h => by cases h; exact hX z rfl _ rfl))))))
  | ok y =>
    obtain ⟨w, hw⟩ := told_ok hs hy
    have lz : (y.shares).length ≤ 12 := by
      exact shares_le hw
    refine ex_seq (ex_set (ev_call (f := f_shares_answered _) (ea_cons (ev_x (ev_methB (f := f_Bench_way_told B.K) (r := .ok (wD B.K y)) (fs := bF B.K s) (fs' := bF B.K s) (as := [.int k]) (ea_cons (ev_var (i := 1) rfl) ea_nil) rfl rfl rfl rfl ⟨s, k, hs, rfl, rfl, rfl, by rw [hy]⟩ (fun n h => nomatch h))) ea_nil) ⟨y, w, rfl, hw, rfl⟩) (of_decide_eq_true rfl) ?_)
    show Ex B _ [some (.bor (.obj (He.ga B.K "Bench") (bF B.K s))), some (.val (.int k)), some (.val (D.lst ((y.shares).map (hD B.K)))), none, none] _
    unfold ansAnswer
    refine ex_seq (ex_setO (eo_lst (ea_cons (ev_eq (ev_len (xs := (y.shares).map (hD B.K)) (ev_var (i := 2) rfl)) (congrArg (fun (n : Nat) => D.int (n : Int)) (List.length_map _))) ea_nil) (of_decide_eq_true rfl)) (of_decide_eq_true rfl) ?_)
    refine ex_seq (ex_for (l := y.shares) (enc := hD B.K) (ev_var (i := 2) rfl) (fun i e2 => ∃ (x4 : Option Ent), e2 = [some (.bor (.obj (He.ga B.K "Bench") (bF B.K s))), some (.val (.int k)), some (.val (D.lst ((y.shares).map (hD B.K)))), some (.own (.lst (((((y.shares).length : Nat) : Int) :: ((y.shares).take i).flatMap toldH).map D.int))), x4]) ⟨none, rfl⟩ ?_ ?_ ?_)
    · rintro i e2 ⟨x4, rfl⟩
      exact of_decide_eq_true rfl
    · rintro i a e2 hi ⟨x4, rfl⟩
      have hn : i < 12 := Nat.lt_of_lt_of_le (List.getElem?_eq_some_iff.mp hi).1 lz
      have st : ((y.shares).take (i + 1)).flatMap toldH = ((y.shares).take i).flatMap toldH ++ toldH a := by rw [take_more hi, List.flatMap_append, List.flatMap_cons, List.flatMap_nil, List.append_nil]
      have fl := flat_le toldH 4 (fun _ => Nat.le_of_ble_eq_true rfl) ((y.shares).take i)
      rw [List.length_take] at fl
      refine ex_ext (ys := (toldH a).map D.int) rfl (ev_lst (ea_cons (ev_fld (ev_fld (ev_var (i := 4) (d := hD B.K a) rfl) T.cls_Share T.n_Share_group rfl) T.cls_Group T.n_Group_number rfl) (ea_cons (ev_fld (ev_var (i := 4) (d := hD B.K a) rfl) T.cls_Share T.n_Share_size rfl) ea_nil)) (of_decide_eq_true rfl)) rfl ?_ ⟨some (.val (hD B.K a)), ?_⟩
      · have : (toldH a).length ≤ 4 := Nat.le_of_ble_eq_true rfl
        rw [List.length_map, List.length_map, List.length_cons]
        omega
      · rw [st, ← List.map_append]
        rfl
    · rintro e2 ⟨x4, rfl⟩
      rw [List.take_length]
      exact ex_ret (ev_own (i := 3) rfl) ⟨rfl, rfl⟩
end
end One
namespace One
open PySem PySem.Spec PyProof.Rows L2 NdefX Dl Lm
section
variable {P : Program} {w : World} {K : PySem.W.Frag} {mg : Str → Option Value} {base : Heap} {TT : List NTab}
abbrev N_Bench_rows : List Str := ["self", "run", "told", "group"]
theorem sc_Bench_rows : FnScope N_Bench_rows ["self"] (defScope s_Bench_rows) := ⟨rfl, rfl, rfl, by decide +kernel, rfl, by decide +kernel, by decide +kernel⟩
def f_Bench_rows (K : PySem.W.Frag) : List (Str × D) → List D → Res → List (Str × D) → Prop := fun fs as r fs2 => ∃ s : Bst, Sw s ∧ fs = bF K s ∧ as = [] ∧ fs2 = bF K s ∧ ((∃ z, errS s = some z ∧ r = .error z) ∨ (∃ t q i, errS s = none ∧ s.table = some t ∧ s.question = some q ∧ s.index = some i ∧ r = if 300 < VaidxBase.rowsOf ((inRange t i q).map (·.1)) then .error (-4) else .ok (insD (ansRows (wayI t i q)))))
abbrev sp_Bench_rows (K : PySem.W.Frag) (TT : List NTab) : Sp := SpB K TT (He.ga K "Refusal") (He.ga K "Bench") (f_Bench_rows K)
theorem len_Bench_rows : ∀ (fs : List (Str × D)) (as : List D) r fs2, f_Bench_rows K fs as r fs2 → as.length + 1 = 1 := by
  intro fs as r fs2 h
  obtain ⟨_, _, _, rfl, _⟩ := h; rfl
theorem ok_Bench_rows (T : Txt K mg) (TB : Tabs2 K base mg) (hTT : TT = TTT K) : DefOk P w K mg base (L2.CX P w) 10 ("Bench", some "rows") ["self"] (sp_Bench_rows K TT) := by
  obtain ⟨⟨fd_Bench_ask_for_serving, F_Bench_ask_for_serving, b_Bench_ask_for_serving⟩, kp_Bench_ask_for_serving⟩ := ok_Bench_ask_for_serving (P := P) (w := w) (base := base) (TT := TT) T TB hTT
  obtain ⟨⟨fd_Bench_count_in_range, F_Bench_count_in_range, b_Bench_count_in_range⟩, kp_Bench_count_in_range⟩ := ok_Bench_count_in_range (P := P) (w := w) (base := base) (TT := TT) T TB hTT
  obtain ⟨⟨fd_Bench_way_by, F_Bench_way_by, b_Bench_way_by⟩, kp_Bench_way_by⟩ := ok_Bench_way_by (P := P) (w := w) (base := base) (TT := TT) T TB hTT
  obtain ⟨⟨fd_run_of, F_run_of, b_run_of⟩, kp_run_of⟩ := ok_run_of (P := P) (w := w) (base := base) (TT := TT) T
  obtain ⟨⟨fd_TooManyEntries_init, F_TooManyEntries_init, b_TooManyEntries_init⟩, _⟩ := ok_TooManyEntries_init (P := P) (w := w) (base := base) T
  obtain ⟨fd, F⟩ := T.def_ (i := 75) (d := d_Bench_rows) rfl
  refine ⟨⟨fd, FunD.ok F sc_Bench_rows (sp_lenB (n := 1) len_Bench_rows) (fun cdv A outer s H vs Q E hr h => ?_), F.bindsN fun _ _ _ _ _ _ us hl => match us, hl with | [_], _ => rfl⟩, F.kp⟩
  have hx : Passes (L2.CX P w) (cxOf (L2.CX P w) P w K mg base N_Bench_rows d_Bench_rows.qual d_Bench_rows.scope (He.fAd K d_Bench_rows.at_) cdv A outer s H E) E := passes_call (takes_of rfl rfl rfl rfl) fun _ _ _ _ h => h
  refine ⟨_, (pss_cons (ps_expr (pe_meth0 (pv 0) T.cls_Bench T.meth_Bench_ask_for_serving F_Bench_ask_for_serving (hr.mono (by decide)) b_Bench_ask_for_serving .nil hx))
    (pss_cons (ps_if (pt_cmpR op_gt (pe_meth0 (pv 0) T.cls_Bench T.meth_Bench_count_in_range F_Bench_count_in_range (hr.mono (by decide)) b_Bench_count_in_range .nil pass0) (pe_gI rfl T.int_MOST_ROWS) (nomark _)) (pss_one (ps_raise rfl (takes_of rfl rfl rfl rfl) (pmk_e T.e_TooManyEntries F_TooManyEntries_init (hr.mono (by decide)) b_TooManyEntries_init pass0 (by rfl) T.glo_TooManyEntries))) pss_nil)
    (pss_cons (ps_set (i := 1) sc_Bench_rows.nd rfl (Or.inl rfl) (pe_call F_run_of (hr.mono (by decide)) rfl T.glo_run_of kp_run_of b_run_of .nil pass0 (pa_cons (pe_meth (pv 0) T.cls_Bench T.meth_Bench_way_by F_Bench_way_by (hr.mono (by decide)) b_Bench_way_by .nil pass0 (pa_cons (pe_fld (pv 0) rfl) pa_nil)) pa_nil)))
    (pss_cons (ps_set (i := 2) sc_Bench_rows.nd rfl (Or.inl rfl) (pe_lst (pa_cons (pe_fld (pv 1) rfl) (pa_cons (pe_fld (pv 1) rfl) (pa_cons (pe_fld (pv 1) rfl) (pa_cons (pe_callB call_len_seq (by rfl) T.free_len PySem.boot_len (pa_cons (pe_fld (pv 1) rfl) pa_nil)) pa_nil))))))
    (pss_cons (ps_expr (pe_bm PySem.F.plainAttrs_list PySem.F.slot_list_extend PySem.F.type_list_extend mt_extend (pv 2) (pa_cons (pe_lc (own := [("group", 3)]) (g := gName 3) (by rfl) sc_Bench_rows.nd (pi_list (pe_fld (pv 1) rfl)) (blkOk_by (own := [("group", 3)]) (N := N_Bench_rows) (sc := defScope s_Bench_rows) (by decide +kernel)) (fun _ _ _ _ _ => pg_name (i := 3) sc_Bench_rows.nd rfl (Or.inl rfl)) (fun _ _ _ _ _ => by exact pts_nil) (fun _ _ _ _ _ => by exact (pe_fldB (pv 3) rfl))) pa_nil)))
    (pss_one (ps_ret (pv 2)))))))), ?_⟩
  refine body_B 4 rfl (fun fs as r fs2 h => by rw [len_Bench_rows fs as r fs2 h]; decide) (fun B fs as r fs2 hK hT hf hX => ?_) vs H Q h
  subst hK hT

  obtain ⟨s, hs, rfl, rfl, rfl, hr⟩ := hf
  rcases hr with ⟨z, hz, rfl⟩ | ⟨t, q, i, hn, ht, hq, hi, rfl⟩
  · exact ex_ask (f := f_Bench_ask_for_serving B.K) (fs := bF B.K s) (er := errS s) rfl ⟨s, hs, rfl, rfl, rfl, rfl⟩ rfl (fun z' h => by rw [hz] at h; cases h; exact hX z rfl _ rfl) (fun h => by rw [hz] at h; cases h)
  · refine ex_ask (f := f_Bench_ask_for_serving B.K) (fs := bF B.K s) (er := errS s) rfl ⟨s, hs, rfl, rfl, rfl, rfl⟩ rfl (fun z h => by rw [hn] at h; cases h) (fun _ => ?_)
    obtain ⟨st, sq, si⟩ := s
    obtain rfl : st = some t := ht
    obtain rfl : sq = some q := hq
    obtain rfl : si = some i := hi
    have hT := (hs.t t rfl).2.2
    have hQ := hs.q t q rfl rfl
    have hI := hs.i t i rfl rfl

    have rp := rows_perm (touched_perm t i q)
    by_cases h3 : 300 < VaidxBase.rowsOf ((inRange t i q).map (·.1))
    · rw [if_pos h3] at hX
      exact ex_seq (ex_if (c := true) (et_eq (et_test (ev_ib (ev_x (ev_methB (f := f_Bench_count_in_range B.K) (r := .ok (nD (VaidxBase.rowsOf ((inRange t i q).map (·.1))))) (fs := bF B.K ⟨some t, some q, some i⟩) (fs' := bF B.K ⟨some t, some q, some i⟩) ea_nil rfl rfl rfl rfl ⟨t, q, i, t.cols, hT, hQ, hI, rfl, rfl, rfl, rfl⟩ (fun n h => nomatch h))) (ev_int (i := 300)))) (decide_eq_true (show ((VaidxBase.rowsOf ((inRange t i q).map (·.1)) : Nat) : Int) > 300 by omega))) (fun _ => ex_raise T.e_TooManyEntries T.x_TooManyEntries (hX (-4) rfl _ rfl)) (fun h => nomatch h))
    · rw [if_neg h3]
      refine ex_seq (ex_if (c := false) (et_eq (et_test (ev_ib (ev_x (ev_methB (f := f_Bench_count_in_range B.K) (r := .ok (nD (VaidxBase.rowsOf ((inRange t i q).map (·.1))))) (fs := bF B.K ⟨some t, some q, some i⟩) (fs' := bF B.K ⟨some t, some q, some i⟩) ea_nil rfl rfl rfl rfl ⟨t, q, i, t.cols, hT, hQ, hI, rfl, rfl, rfl, rfl⟩ (fun n h => nomatch h))) (ev_int (i := 300)))) (decide_eq_false (show ¬ ((VaidxBase.rowsOf ((inRange t i q).map (·.1)) : Nat) : Int) > 300 by omega))) (fun h => nomatch h) (fun _ => ex_next ?_))
      have el := each_len (wayI t i q).gs
      have er : VaidxBase.rowsOf ((wayI t i q).gs.map (·.1)) = VaidxBase.rowsOf ((inRange t i q).map (·.1)) := rp
      have rh := run_hits (wayI t i q) (each (wayI t i q).gs) ⟨0, 0, []⟩
      have rh : (wayI t i q).ran.hits.length ≤ 300 := by
        show ((wayI t i q).run (each (wayI t i q).gs) ⟨0, 0, []⟩).hits.length ≤ 300
        have : ([] : List Gr).length = 0 := rfl
        simp only [] at rh
        omega
      refine ex_seq (ex_set (d := rnD B.K (wayI t i q) (wayI t i q).ran) (ev_call (f := f_run_of _) (ea_cons (ev_x (ev_methB (f := f_Bench_way_by B.K) (r := .ok (wD B.K (wayI t i q))) (fs := bF B.K ⟨some t, some q, some i⟩) (fs' := bF B.K ⟨some t, some q, some i⟩) (ea_cons (ev_fldS (i := 0) rfl rfl T.cls_Bench T.n_Bench_index rfl) ea_nil) rfl rfl rfl rfl ⟨t, q, some i, i, t.cols, hT, hQ, hI, rfl, rfl, rfl, rfl⟩ (fun n h => nomatch h))) ea_nil) ⟨wayI t i q, t.cols, rfl, wayI_ok hT hI hQ, by omega, rfl⟩) (of_decide_eq_true rfl) ?_)
      refine ex_seq (ex_setO (eo_lst (ea_cons (ev_fld (ev_var (i := 1) rfl) T.cls_Run T.n_Run_touched rfl) (ea_cons (ev_fld (ev_var (i := 1) rfl) T.cls_Run T.n_Run_looked_up rfl) (ea_cons (ev_fld (ev_var (i := 1) rfl) T.cls_Run T.n_Run_put_in_order rfl) (ea_cons (ev_eq (ev_len (xs := (wayI t i q).ran.hits.map (gD B.K)) (ev_fld (ev_var (i := 1) rfl) T.cls_Run T.n_Run_found_groups rfl)) (congrArg (fun (n : Nat) => D.int (n : Int)) (List.length_map _))) ea_nil)))) (of_decide_eq_true rfl)) (of_decide_eq_true rfl) ?_)
      refine ex_seq (ex_ext (i := 2) (ys := (wayI t i q).ran.hits.map fun (g : Gr) => nD g.2) rfl (ev_ofO (eo_lcM (j := 3) (l := (wayI t i q).ran.hits) (enc := gD B.K) (g := fun (g : Gr) => nD g.2) (ev_fld (ev_var (i := 1) rfl) T.cls_Run T.n_Run_found_groups rfl) (of_decide_eq_true rfl) (by omega) fun G2 H2 g hm => by exact ev_fld (C := He.ga B.K "Group") (fs := [("number", nD g.2), ("cells", nsD g.1.row), ("size", nD g.1.count)]) (ev_var (i := 3) rfl) T.cls_Group T.n_Group_number rfl)) rfl ?_ ?_)
      · rw [List.length_map]
        show 4 + _ ≤ _
        omega
      · refine ex_ret (ev_own (i := 2) rfl) ⟨?_, rfl⟩
        show (Except.ok (D.lst ((ansRows (wayI t i q)).map D.int)) : Res) = .ok (D.lst _)
        unfold ansRows
        rw [List.map_append, List.map_map]
        rfl
abbrev N_Bench_prefixes : List Str := ["self", "whole_count", "told", "key_count"]
theorem sc_Bench_prefixes : FnScope N_Bench_prefixes ["self"] (defScope s_Bench_prefixes) := ⟨rfl, rfl, rfl, by decide +kernel, rfl, by decide +kernel, by decide +kernel⟩
def f_Bench_prefixes (K : PySem.W.Frag) : List (Str × D) → List D → Res → List (Str × D) → Prop := fun fs as r fs2 => ∃ s : Bst, Sw s ∧ fs = bF K s ∧ as = [] ∧ fs2 = bF K s ∧ ((∃ z, errS s = some z ∧ r = .error z) ∨ (∃ t q i, errS s = none ∧ s.table = some t ∧ s.question = some q ∧ s.index = some i ∧ r = .ok (insD (ansPrefixes t q i))))
abbrev sp_Bench_prefixes (K : PySem.W.Frag) (TT : List NTab) : Sp := SpB K TT (He.ga K "Refusal") (He.ga K "Bench") (f_Bench_prefixes K)
theorem len_Bench_prefixes : ∀ (fs : List (Str × D)) (as : List D) r fs2, f_Bench_prefixes K fs as r fs2 → as.length + 1 = 1 := by
  intro fs as r fs2 h
  obtain ⟨_, _, _, rfl, _⟩ := h; rfl
theorem ok_Bench_prefixes (T : Txt K mg) (TB : Tabs2 K base mg) (hTT : TT = TTT K) : DefOk P w K mg base (L2.CX P w) 10 ("Bench", some "prefixes") ["self"] (sp_Bench_prefixes K TT) := by
  obtain ⟨⟨fd_Bench_ask_for_serving, F_Bench_ask_for_serving, b_Bench_ask_for_serving⟩, kp_Bench_ask_for_serving⟩ := ok_Bench_ask_for_serving (P := P) (w := w) (base := base) (TT := TT) T TB hTT
  obtain ⟨⟨fd_Bench_way_by, F_Bench_way_by, b_Bench_way_by⟩, kp_Bench_way_by⟩ := ok_Bench_way_by (P := P) (w := w) (base := base) (TT := TT) T TB hTT
  obtain ⟨⟨fd_Index_with_first_keys, F_Index_with_first_keys, b_Index_with_first_keys⟩, kp_Index_with_first_keys⟩ := ok_Index_with_first_keys (P := P) (w := w) (base := base) (TT := TT) T
  obtain ⟨⟨fd_work_of, F_work_of, b_work_of⟩, kp_work_of⟩ := ok_work_of (P := P) (w := w) (base := base) (TT := TT) T
  obtain ⟨fd, F⟩ := T.def_ (i := 76) (d := d_Bench_prefixes) rfl
  refine ⟨⟨fd, FunD.ok F sc_Bench_prefixes (sp_lenB (n := 1) len_Bench_prefixes) (fun cdv A outer s H vs Q E hr h => ?_), F.bindsN fun _ _ _ _ _ _ us hl => match us, hl with | [_], _ => rfl⟩, F.kp⟩
  have hx : Passes (L2.CX P w) (cxOf (L2.CX P w) P w K mg base N_Bench_prefixes d_Bench_prefixes.qual d_Bench_prefixes.scope (He.fAd K d_Bench_prefixes.at_) cdv A outer s H E) E := passes_call (takes_of rfl rfl rfl rfl) fun _ _ _ _ h => h
  refine ⟨_, (pss_cons (ps_expr (pe_meth0 (pv 0) T.cls_Bench T.meth_Bench_ask_for_serving F_Bench_ask_for_serving (hr.mono (by decide)) b_Bench_ask_for_serving .nil hx))
    (pss_cons (ps_set (i := 1) sc_Bench_prefixes.nd rfl (Or.inl rfl) (pe_callB call_len_seq (by rfl) T.free_len PySem.boot_len (pa_cons (pe_fld (pe_fld (pv 0) rfl) rfl) pa_nil)))
    (pss_cons (ps_set (i := 2) sc_Bench_prefixes.nd rfl (Or.inl rfl) (pe_lst (pa_cons (pv 1) pa_nil)))
    (pss_cons (ps_for (passes_of rfl) rfl (pi_range2 rfl T.free_range (pa_cons pe_int (pa_cons (pe_op op_add (pv 1) pe_int) pa_nil))) (pg_name (i := 3) sc_Bench_prefixes.nd rfl (Or.inl rfl))
    (pss_one (ps_expr (pe_bm PySem.F.plainAttrs_list PySem.F.slot_list_append PySem.F.type_list_append mt_append (pv 2) (pa_cons (pe_fld (pe_call F_work_of (hr.mono (by decide)) rfl T.glo_work_of kp_work_of b_work_of .nil pass0 (pa_cons (pe_meth (pv 0) T.cls_Bench T.meth_Bench_way_by F_Bench_way_by (hr.mono (by decide)) b_Bench_way_by .nil pass0 (pa_cons (pe_meth (pe_fld (pv 0) rfl) T.cls_Index T.meth_Index_with_first_keys F_Index_with_first_keys (hr.mono (by decide)) b_Index_with_first_keys .nil pass0 (pa_cons (pv 3) pa_nil)) pa_nil)) pa_nil)) rfl) pa_nil)))))
    (pss_one (ps_ret (pv 2))))))), ?_⟩
  refine body_B 4 rfl (fun fs as r fs2 h => by rw [len_Bench_prefixes fs as r fs2 h]; decide) (fun B fs as r fs2 hK hT hf hX => ?_) vs H Q h
  subst hK hT

  obtain ⟨s, hs, rfl, rfl, rfl, hr⟩ := hf
  rcases hr with ⟨z, hz, rfl⟩ | ⟨t, q, i, hn, ht, hq, hi, rfl⟩
  · exact ex_ask (f := f_Bench_ask_for_serving B.K) (fs := bF B.K s) (er := errS s) rfl ⟨s, hs, rfl, rfl, rfl, rfl⟩ rfl (fun z' h => by rw [hz] at h; cases h; exact hX z rfl _ rfl) (fun h => by rw [hz] at h; cases h)
  · refine ex_ask (f := f_Bench_ask_for_serving B.K) (fs := bF B.K s) (er := errS s) rfl ⟨s, hs, rfl, rfl, rfl, rfl⟩ rfl (fun z h => by rw [hn] at h; cases h) (fun _ => ?_)
    obtain ⟨st, sq, si⟩ := s
    obtain rfl : st = some t := ht
    obtain rfl : sq = some q := hq
    obtain rfl : si = some i := hi
    have hT := (hs.t t rfl).2.2
    have hQ := hs.q t q rfl rfl
    have hI := hs.i t i rfl rfl

    have kl := hI.kl
    refine ex_seq (ex_set (d := nD i.keys.length) (ev_eq (ev_len (xs := i.keys.map nD) (ev_fld (ev_fldS (i := 0) rfl rfl T.cls_Bench T.n_Bench_index rfl) T.cls_Index T.n_Index_key_columns rfl)) (congrArg (fun (n : Nat) => D.int (n : Int)) (List.length_map _))) (of_decide_eq_true rfl) ?_)
    refine ex_seq (ex_setO (eo_lst (ea_cons (ev_var (i := 1) rfl) ea_nil) (of_decide_eq_true rfl)) (of_decide_eq_true rfl) ?_)
    refine ex_seq (ex_range2 (a := 1) (n := i.keys.length + 1) (ev_int (i := 1)) (ev_eq (ev_ii (f := fun a b => a + b) (ev_var (i := 1) rfl) (ev_int (i := 1))) (show D.int (((i.keys.length : Nat) : Int) + 1) = D.int ((i.keys.length + 1 : Nat) : Int) from rfl)) (by omega) (fun k e2 => 1 ≤ k ∧ ∃ (x3 : Option Ent), e2 = [some (.bor (.obj (He.ga B.K "Bench") (bF B.K ⟨some t, some q, some i⟩))), some (.val (nD i.keys.length)), some (.own (.lst ((((i.keys.length : Nat) : Int) :: (List.range (k - 1)).map fun k => ((wayI t (Vaidxb.shorter i (k + 1)) q).work.cost : Int)).map D.int))), x3]) ⟨Nat.le_refl _, none, rfl⟩ ?_ ?_ ?_)
    · rintro k e2 ⟨_, x3, rfl⟩
      exact of_decide_eq_true rfl
    · rintro k e2 hk ⟨h1, x3, rfl⟩
      have hS := shorter_ok hI k
      obtain ⟨m, rfl⟩ : ∃ m, k = m + 1 := ⟨k - 1, by omega⟩
      refine ex_app (i := 2) (r := .ok (nD (wayI t (Vaidxb.shorter i (m + 1)) q).work.cost)) rfl (evx_ok (ev_fld (ev_eq (ev_call (f := f_work_of _) (ea_cons (ev_x (ev_methB (f := f_Bench_way_by B.K) (r := .ok (wD B.K (wayI t (Vaidxb.shorter i (m + 1)) q))) (fs := bF B.K ⟨some t, some q, some i⟩) (fs' := bF B.K ⟨some t, some q, some i⟩) (ea_cons (ev_meth (f := f_Index_with_first_keys _) (ev_fldS (i := 0) rfl rfl T.cls_Bench T.n_Bench_index rfl) rfl (ea_cons (ev_var (i := 3) (d := .int ((m + 1 : Nat) : Int)) rfl) ea_nil) ⟨i, m + 1, rfl, rfl⟩) ea_nil) rfl rfl rfl rfl ⟨t, q, some i, Vaidxb.shorter i (m + 1), t.cols, hT, hQ, hS, rfl, rfl, rfl, rfl⟩ (fun n h => nomatch h))) ea_nil) ⟨_, t.cols, rfl, wayI_ok hT hS hQ, rfl⟩) (rfl : _ = kD B.K (wayI t (Vaidxb.shorter i (m + 1)) q).work)) T.cls_Work T.n_Work_cost rfl)) rfl ?_ (fun d z => ?_)
      · rw [List.length_map, List.length_cons, List.length_map, List.length_range]
        omega
      · cases z
        refine ⟨by omega, some (.val (.int ((m + 1 : Nat) : Int))), ?_⟩
        rw [show m + 1 + 1 - 1 = (m + 1 - 1) + 1 by omega, List.range_succ, List.map_append, ← List.cons_append, List.map_append]
        rfl
    · rintro e2 ⟨_, x3, rfl⟩
      exact ex_ret (ev_own (i := 2) rfl) ⟨rfl, rfl⟩
abbrev N_Bench_take_table : List Str := ["self", "numbers", "table"]
theorem sc_Bench_take_table : FnScope N_Bench_take_table ["self", "numbers"] (defScope s_Bench_take_table) := ⟨rfl, rfl, rfl, by decide +kernel, rfl, by decide +kernel, by decide +kernel⟩
def f_Bench_take_table (K : PySem.W.Frag) : List (Str × D) → List D → Res → List (Str × D) → Prop := fun fs as r fs2 => ∃ (s : Bst) (l : List Int), fs = bF K s ∧ as = [.lst (l.map D.int)] ∧ (((rTable l 0).1 = none ∧ r = .error (-1) ∧ fs2 = bF K s) ∨ ∃ t, (rTable l 0).1 = some t ∧ r = .ok (insD [(t.cols : Nat), (t.groups.length : Nat), (VaidxBase.rowsOf t.groups : Nat)]) ∧ fs2 = bF K ⟨some t, none, none⟩)
abbrev sp_Bench_take_table (K : PySem.W.Frag) (TT : List NTab) : Sp := SpB K TT (He.ga K "Refusal") (He.ga K "Bench") (f_Bench_take_table K)
theorem len_Bench_take_table : ∀ (fs : List (Str × D)) (as : List D) r fs2, f_Bench_take_table K fs as r fs2 → as.length + 1 = 2 := by
  intro fs as r fs2 h
  obtain ⟨_, _, _, rfl, _⟩ := h; rfl
theorem ok_Bench_take_table (T : Txt K mg) (TB : Tabs2 K base mg) (hTT : TT = TTT K) : DefOk P w K mg base (L2.CX P w) 7 ("Bench", some "take_table") ["self", "numbers"] (sp_Bench_take_table K TT) := by
  obtain ⟨⟨fd_count_rows, F_count_rows, b_count_rows⟩, kp_count_rows⟩ := ok_count_rows (P := P) (w := w) (base := base) (TT := TT) T
  obtain ⟨⟨fd_read_table, F_read_table, b_read_table⟩, kp_read_table⟩ := ok_read_table (P := P) (w := w) (base := base) (TT := TT) T
  obtain ⟨fd, F⟩ := T.def_ (i := 65) (d := d_Bench_take_table) rfl
  refine ⟨⟨fd, FunD.ok F sc_Bench_take_table (sp_lenB (n := 2) len_Bench_take_table) (fun cdv A outer s H vs Q E hr h => ?_), F.bindsN fun _ _ _ _ _ _ us hl => match us, hl with | [_, _], _ => rfl⟩, F.kp⟩
  have hx : Passes (L2.CX P w) (cxOf (L2.CX P w) P w K mg base N_Bench_take_table d_Bench_take_table.qual d_Bench_take_table.scope (He.fAd K d_Bench_take_table.at_) cdv A outer s H E) E := passes_call (takes_of rfl rfl rfl rfl) fun _ _ _ _ h => h
  refine ⟨_, (pss_cons (ps_set (i := 2) sc_Bench_take_table.nd rfl (Or.inl rfl) (pe_call F_read_table (hr.mono (by decide)) rfl T.glo_read_table kp_read_table b_read_table .nil hx (pa_cons (pv 1) pa_nil)))
    (pss_cons (ps_fld (pv 0) (pv 2) rfl)
    (pss_cons (ps_fld (pv 0) pe_non rfl)
    (pss_cons (ps_fld (pv 0) pe_non rfl)
    (pss_one (ps_ret (pe_lst (pa_cons (pe_fld (pv 2) rfl) (pa_cons (pe_callB call_len_seq (by rfl) T.free_len PySem.boot_len (pa_cons (pe_fld (pv 2) rfl) pa_nil)) (pa_cons (pe_call F_count_rows (hr.mono (by decide)) rfl T.glo_count_rows kp_count_rows b_count_rows .nil pass0 (pa_cons (pe_fld (pv 2) rfl) pa_nil)) pa_nil)))))))))), ?_⟩
  refine body_B 3 rfl (fun fs as r fs2 h => by rw [len_Bench_take_table fs as r fs2 h]; decide) (fun B fs as r fs2 hK hT hf hX => ?_) vs H Q h
  subst hK hT

  obtain ⟨s, l, rfl, rfl, hr⟩ := hf
  rcases hr with ⟨z, rfl, rfl⟩ | ⟨t, z, rfl, rfl⟩
  · exact ex_seq (exE_set (evE_x (n := -1) (ev_callX (f := f_read_table B.K) (r := .error (-1)) (ea_cons (ev_var (i := 1) rfl) ea_nil) ⟨l, rfl, by rw [z]; rfl⟩ (fun n h => by cases h; exact hX (-1) rfl _ rfl))))
  · have ok := rTable_ok (l := l) (p := 0) (r := (rTable l 0).2) (t := t) (by rw [← z])
    have tl := ok.2.2.len
    refine ex_seq (ex_set (ev_x (ev_callX (f := f_read_table B.K) (r := .ok (tD B.K t)) (ea_cons (ev_var (i := 1) rfl) ea_nil) ⟨l, rfl, by rw [z]; rfl⟩ (fun n h => nomatch h))) (of_decide_eq_true rfl) ?_)
    refine ex_seq (ex_fld (evx_ok (ev_var (i := 2) rfl)) (i := 0) rfl rfl T.cls_Bench T.n_Bench_table (of_decide_eq_true rfl) (fun d q => ?_))
    cases q
    refine ex_seq (ex_fld (evx_ok ev_non) (i := 0) rfl rfl T.cls_Bench T.n_Bench_question (of_decide_eq_true rfl) (fun d q => ?_))
    cases q
    refine ex_seq (ex_fld (evx_ok ev_non) (i := 0) rfl rfl T.cls_Bench T.n_Bench_index (of_decide_eq_true rfl) (fun d q => ?_))
    cases q
    show Ex B _ [some (.bor (.obj (He.ga B.K "Bench") (bF B.K ⟨some t, none, none⟩))), some (.val (.lst (l.map D.int))), some (.val (tD B.K t))] _
    refine ex_ret (ev_lst (ea_cons (ev_fld (ev_var (i := 2) rfl) T.cls_Table T.n_Table_width rfl) (ea_cons (ev_eq (ev_len (xs := t.groups.zipIdx.map (gD B.K)) (ev_fld (ev_var (i := 2) rfl) T.cls_Table T.n_Table_groups rfl)) (congrArg (fun (n : Nat) => D.int (n : Int)) (by rw [List.length_map, List.length_zipIdx]))) (ea_cons (ev_eq (ev_call (f := f_count_rows _) (ea_cons (ev_fld (ev_var (i := 2) rfl) T.cls_Table T.n_Table_groups rfl) ea_nil) ⟨t.groups.zipIdx, rfl, by rw [List.length_zipIdx]; omega, rfl⟩) (by rw [zip_fst]; rfl)) ea_nil))) (of_decide_eq_true rfl)) ⟨rfl, rfl⟩
abbrev N_Bench_take_question : List Str := ["self", "numbers", "question", "found", "group"]
theorem sc_Bench_take_question : FnScope N_Bench_take_question ["self", "numbers"] (defScope s_Bench_take_question) := ⟨rfl, rfl, rfl, by decide +kernel, rfl, by decide +kernel, by decide +kernel⟩
def f_Bench_take_question (K : PySem.W.Frag) : List (Str × D) → List D → Res → List (Str × D) → Prop := fun fs as r fs2 => ∃ (s : Bst) (l : List Int), Sw s ∧ fs = bF K s ∧ as = [.lst (l.map D.int)] ∧ ((∃ z, errT s = some z ∧ r = .error z ∧ fs2 = bF K s) ∨ ∃ t, errT s = none ∧ s.table = some t ∧ (((rQuestion t.cols l 0).1 = none ∧ r = .error (-1) ∧ fs2 = bF K s) ∨ ∃ q, (rQuestion t.cols l 0).1 = some q ∧ r = .ok (insD [(VaidxBase.rowsOf ((foundG t q).map (·.1)) : Nat)]) ∧ fs2 = bF K { s with question := some q }))
abbrev sp_Bench_take_question (K : PySem.W.Frag) (TT : List NTab) : Sp := SpB K TT (He.ga K "Refusal") (He.ga K "Bench") (f_Bench_take_question K)
theorem len_Bench_take_question : ∀ (fs : List (Str × D)) (as : List D) r fs2, f_Bench_take_question K fs as r fs2 → as.length + 1 = 2 := by
  intro fs as r fs2 h
  obtain ⟨_, _, _, _, rfl, _⟩ := h; rfl
theorem ok_Bench_take_question (T : Txt K mg) (TB : Tabs2 K base mg) (hTT : TT = TTT K) : DefOk P w K mg base (L2.CX P w) 9 ("Bench", some "take_question") ["self", "numbers"] (sp_Bench_take_question K TT) := by
  obtain ⟨⟨fd_Bench_ask_for_table, F_Bench_ask_for_table, b_Bench_ask_for_table⟩, kp_Bench_ask_for_table⟩ := ok_Bench_ask_for_table (P := P) (w := w) (base := base) (TT := TT) T TB hTT
  obtain ⟨⟨fd_count_rows, F_count_rows, b_count_rows⟩, kp_count_rows⟩ := ok_count_rows (P := P) (w := w) (base := base) (TT := TT) T
  obtain ⟨⟨fd_passes_all, F_passes_all, b_passes_all⟩, kp_passes_all⟩ := ok_passes_all (P := P) (w := w) (base := base) (TT := TT) T
  obtain ⟨⟨fd_read_question, F_read_question, b_read_question⟩, kp_read_question⟩ := ok_read_question (P := P) (w := w) (base := base) (TT := TT) T
  obtain ⟨fd, F⟩ := T.def_ (i := 66) (d := d_Bench_take_question) rfl
  refine ⟨⟨fd, FunD.ok F sc_Bench_take_question (sp_lenB (n := 2) len_Bench_take_question) (fun cdv A outer s H vs Q E hr h => ?_), F.bindsN fun _ _ _ _ _ _ us hl => match us, hl with | [_, _], _ => rfl⟩, F.kp⟩
  have hx : Passes (L2.CX P w) (cxOf (L2.CX P w) P w K mg base N_Bench_take_question d_Bench_take_question.qual d_Bench_take_question.scope (He.fAd K d_Bench_take_question.at_) cdv A outer s H E) E := passes_call (takes_of rfl rfl rfl rfl) fun _ _ _ _ h => h
  refine ⟨_, (pss_cons (ps_expr (pe_meth0 (pv 0) T.cls_Bench T.meth_Bench_ask_for_table F_Bench_ask_for_table (hr.mono (by decide)) b_Bench_ask_for_table .nil hx))
    (pss_cons (ps_set (i := 2) sc_Bench_take_question.nd rfl (Or.inr rfl) (pe_call F_read_question (hr.mono (by decide)) rfl T.glo_read_question kp_read_question b_read_question .nil hx (pa_cons (pv 1) (pa_cons (pe_fld (pe_fld (pv 0) rfl) rfl) pa_nil))))
    (pss_cons (ps_fld (pv 0) (pv 2) rfl)
    (pss_cons (ps_setLc (i := 3) (own := [("group", 4)]) (g := gName 4) (by rfl) sc_Bench_take_question.nd rfl rfl (sw_true rfl rfl rfl (by decide +kernel)) (pi_list (pe_fld (pe_fld (pv 0) rfl) rfl)) (blkOk_by (own := [("group", 4)]) (N := N_Bench_take_question) (sc := defScope s_Bench_take_question) (by decide +kernel)) (fun _ _ _ _ _ => pg_name (i := 4) sc_Bench_take_question.nd rfl (Or.inl rfl)) (fun _ _ _ _ _ => by exact (pts_one (pt_val (pe_call F_passes_all (hr.mono (by decide)) rfl T.glo_passes_all kp_passes_all b_passes_all .nil pass0 (pa_cons (pe_fldB (pv 2) rfl) (pa_cons (pv 4) pa_nil)))))) (fun _ _ _ _ _ => by exact (pv 4)))
    (pss_one (ps_ret (pe_lst (pa_cons (pe_call F_count_rows (hr.mono (by decide)) rfl T.glo_count_rows kp_count_rows b_count_rows .nil pass0 (pa_cons (pv 3) pa_nil)) pa_nil)))))))), ?_⟩
  refine body_B 5 rfl (fun fs as r fs2 h => by rw [len_Bench_take_question fs as r fs2 h]; decide) (fun B fs as r fs2 hK hT hf hX => ?_) vs H Q h
  subst hK hT

  obtain ⟨s, l, hs, rfl, rfl, hr⟩ := hf
  rcases hr with ⟨z, hz, rfl, rfl⟩ | ⟨t, hn, ht, hr⟩
  · exact ex_ask (f := f_Bench_ask_for_table B.K) (fs := bF B.K s) (er := errT s) rfl ⟨s, rfl, rfl, rfl, rfl⟩ rfl (fun z' h => by rw [hz] at h; cases h; exact hX z rfl _ rfl) (fun h => by rw [hz] at h; cases h)
  · refine ex_ask (f := f_Bench_ask_for_table B.K) (fs := bF B.K s) (er := errT s) rfl ⟨s, rfl, rfl, rfl, rfl⟩ rfl (fun z h => by rw [hn] at h; cases h) (fun _ => ?_)
    obtain ⟨st, sq, si⟩ := s
    obtain rfl : st = some t := ht
    have h0 := hs.t t rfl
    rcases hr with ⟨z, rfl, rfl⟩ | ⟨q, z, rfl, rfl⟩
    · exact ex_seq (exE_set (evE_x (n := -1) (ev_callX (f := f_read_question B.K) (r := .error (-1)) (ea_cons (ev_var (i := 1) rfl) (ea_cons (ev_fld (ev_fldS (i := 0) rfl rfl T.cls_Bench T.n_Bench_table rfl) T.cls_Table T.n_Table_width rfl) ea_nil)) ⟨l, t.cols, rfl, h0.1, h0.2.1, by rw [z]; rfl⟩ (fun n h => by cases h; exact hX (-1) rfl _ rfl))))
    · have hQ := rQuestion_ok (w := t.cols) h0.1 h0.2.1 (l := l) (p := 0) (r := (rQuestion t.cols l 0).2) (q := q) (by rw [← z])
      have tl := h0.2.2.len
      refine ex_seq (ex_set (ev_x (ev_callX (f := f_read_question B.K) (r := .ok (qD B.K q)) (ea_cons (ev_var (i := 1) rfl) (ea_cons (ev_fld (ev_fldS (i := 0) rfl rfl T.cls_Bench T.n_Bench_table rfl) T.cls_Table T.n_Table_width rfl) ea_nil)) ⟨l, t.cols, rfl, h0.1, h0.2.1, by rw [z]; rfl⟩ (fun n h => nomatch h))) (of_decide_eq_true rfl) ?_)
      refine ex_seq (ex_fld (evx_ok (ev_var (i := 2) rfl)) (i := 0) rfl rfl T.cls_Bench T.n_Bench_question (of_decide_eq_true rfl) (fun d q => ?_))
      cases q
      show Ex B _ [some (.bor (.obj (He.ga B.K "Bench") (bF B.K ⟨some t, some q, si⟩))), some (.val (.lst (l.map D.int))), some (.val (qD B.K q)), none, none] _
      refine ex_seq (ex_set (d := gsD B.K (foundG t q)) (ev_ofO (eo_lc (j := 4) (l := t.groups.zipIdx) (enc := gD B.K) (p := fun g => q.filters.all (VaidxBase.passes g.1.row)) (g := gD B.K) (ev_fld (ev_fldS (i := 0) rfl rfl T.cls_Bench T.n_Bench_table rfl) T.cls_Table T.n_Table_groups rfl) (of_decide_eq_true rfl) (by rw [List.length_zipIdx]; omega) (fun G2 H2 g hm => et_B ?_) (fun G2 H2 g hm _ => ev_var (i := 4) rfl))) (of_decide_eq_true rfl) ?_)
      · exact ev_call (f := f_passes_all _) (ea_cons (ev_fld (C := He.ga B.K "Question") (fs := [("filters", fsD B.K q.filters), ("order", nsD q.order), ("backwards", .bl q.back), ("wanted", nsD q.wants), ("limit", nD q.limit), ("asked", nD q.times)]) (ev_var (i := 2) rfl) T.cls_Question T.n_Question_filters rfl) (ea_cons (ev_var (i := 4) rfl) ea_nil)) ⟨q.filters, g, rfl, fun f hf => by rw [(h0.2.2.gs g hm).row]; exact (hQ.fs f hf).col, by have := hQ.fl; omega, rfl⟩
      · refine ex_ret (ev_lst (ea_cons (ev_call (f := f_count_rows _) (ea_cons (ev_var (i := 3) (d := gsD B.K (foundG t q)) rfl) ea_nil) ⟨foundG t q, rfl, ?_, rfl⟩) ea_nil) (of_decide_eq_true rfl)) ⟨rfl, rfl⟩
        have := List.length_filter_le (fun g : Gr => q.filters.all (VaidxBase.passes g.1.row)) t.groups.zipIdx
        rw [List.length_zipIdx] at this
        show (foundG t q).length ≤ _
        unfold foundG
        omega
abbrev N_Bench_take_index : List Str := ["self", "numbers", "index", "entry_count"]
theorem sc_Bench_take_index : FnScope N_Bench_take_index ["self", "numbers"] (defScope s_Bench_take_index) := ⟨rfl, rfl, rfl, by decide +kernel, rfl, by decide +kernel, by decide +kernel⟩
def f_Bench_take_index (K : PySem.W.Frag) : List (Str × D) → List D → Res → List (Str × D) → Prop := fun fs as r fs2 => ∃ (s : Bst) (l : List Int), Sw s ∧ fs = bF K s ∧ as = [.lst (l.map D.int)] ∧ ((∃ z, errT s = some z ∧ r = .error z ∧ fs2 = bF K s) ∨ ∃ t, errT s = none ∧ s.table = some t ∧ (((rIndex t.cols l 0).1 = none ∧ r = .error (-1) ∧ fs2 = bF K s) ∨ ∃ i, (rIndex t.cols l 0).1 = some i ∧ r = .ok (insD [(VaidxBase.rowsOf ((heldG t i).map (·.1)) : Nat), ((VaidxBase.rowsOf ((heldG t i).map (·.1)) : Nat) : Int) * (1 + ((VaidxBase.columnsOf i).length : Nat))]) ∧ fs2 = bF K { s with index := some i }))
abbrev sp_Bench_take_index (K : PySem.W.Frag) (TT : List NTab) : Sp := SpB K TT (He.ga K "Refusal") (He.ga K "Bench") (f_Bench_take_index K)
theorem len_Bench_take_index : ∀ (fs : List (Str × D)) (as : List D) r fs2, f_Bench_take_index K fs as r fs2 → as.length + 1 = 2 := by
  intro fs as r fs2 h
  obtain ⟨_, _, _, _, rfl, _⟩ := h; rfl
theorem ok_Bench_take_index (T : Txt K mg) (TB : Tabs2 K base mg) (hTT : TT = TTT K) : DefOk P w K mg base (L2.CX P w) 8 ("Bench", some "take_index") ["self", "numbers"] (sp_Bench_take_index K TT) := by
  obtain ⟨⟨fd_Bench_ask_for_table, F_Bench_ask_for_table, b_Bench_ask_for_table⟩, kp_Bench_ask_for_table⟩ := ok_Bench_ask_for_table (P := P) (w := w) (base := base) (TT := TT) T TB hTT
  obtain ⟨⟨fd_Index_own_columns, F_Index_own_columns, b_Index_own_columns⟩, kp_Index_own_columns⟩ := ok_Index_own_columns (P := P) (w := w) (base := base) (TT := TT) T
  obtain ⟨⟨fd_count_rows, F_count_rows, b_count_rows⟩, kp_count_rows⟩ := ok_count_rows (P := P) (w := w) (base := base) (TT := TT) T
  obtain ⟨⟨fd_groups_held, F_groups_held, b_groups_held⟩, kp_groups_held⟩ := ok_groups_held (P := P) (w := w) (base := base) (TT := TT) T
  obtain ⟨⟨fd_read_index, F_read_index, b_read_index⟩, kp_read_index⟩ := ok_read_index (P := P) (w := w) (base := base) (TT := TT) T
  obtain ⟨fd, F⟩ := T.def_ (i := 67) (d := d_Bench_take_index) rfl
  refine ⟨⟨fd, FunD.ok F sc_Bench_take_index (sp_lenB (n := 2) len_Bench_take_index) (fun cdv A outer s H vs Q E hr h => ?_), F.bindsN fun _ _ _ _ _ _ us hl => match us, hl with | [_, _], _ => rfl⟩, F.kp⟩
  have hx : Passes (L2.CX P w) (cxOf (L2.CX P w) P w K mg base N_Bench_take_index d_Bench_take_index.qual d_Bench_take_index.scope (He.fAd K d_Bench_take_index.at_) cdv A outer s H E) E := passes_call (takes_of rfl rfl rfl rfl) fun _ _ _ _ h => h
  refine ⟨_, (pss_cons (ps_expr (pe_meth0 (pv 0) T.cls_Bench T.meth_Bench_ask_for_table F_Bench_ask_for_table (hr.mono (by decide)) b_Bench_ask_for_table .nil hx))
    (pss_cons (ps_set (i := 2) sc_Bench_take_index.nd rfl (Or.inl rfl) (pe_call F_read_index (hr.mono (by decide)) rfl T.glo_read_index kp_read_index b_read_index .nil hx (pa_cons (pv 1) (pa_cons (pe_fld (pe_fld (pv 0) rfl) rfl) pa_nil))))
    (pss_cons (ps_fld (pv 0) (pv 2) rfl)
    (pss_cons (ps_set (i := 3) sc_Bench_take_index.nd rfl (Or.inl rfl) (pe_call F_count_rows (hr.mono (by decide)) rfl T.glo_count_rows kp_count_rows b_count_rows .nil pass0 (pa_cons (pe_call F_groups_held (hr.mono (by decide)) rfl T.glo_groups_held kp_groups_held b_groups_held .nil pass0 (pa_cons (pe_fld (pv 0) rfl) (pa_cons (pv 2) pa_nil))) pa_nil)))
    (pss_one (ps_ret (pe_lst (pa_cons (pv 3) (pa_cons (pe_op op_mul (pv 3) (pe_op op_add pe_int (pe_callB call_len_seq (by rfl) T.free_len PySem.boot_len (pa_cons (pe_meth0 (pv 2) T.cls_Index T.meth_Index_own_columns F_Index_own_columns (hr.mono (by decide)) b_Index_own_columns .nil pass0) pa_nil)))) pa_nil))))))))), ?_⟩
  refine body_B 4 rfl (fun fs as r fs2 h => by rw [len_Bench_take_index fs as r fs2 h]; decide) (fun B fs as r fs2 hK hT hf hX => ?_) vs H Q h
  subst hK hT

  obtain ⟨s, l, hs, rfl, rfl, hr⟩ := hf
  rcases hr with ⟨z, hz, rfl, rfl⟩ | ⟨t, hn, ht, hr⟩
  · exact ex_ask (f := f_Bench_ask_for_table B.K) (fs := bF B.K s) (er := errT s) rfl ⟨s, rfl, rfl, rfl, rfl⟩ rfl (fun z' h => by rw [hz] at h; cases h; exact hX z rfl _ rfl) (fun h => by rw [hz] at h; cases h)
  · refine ex_ask (f := f_Bench_ask_for_table B.K) (fs := bF B.K s) (er := errT s) rfl ⟨s, rfl, rfl, rfl, rfl⟩ rfl (fun z h => by rw [hn] at h; cases h) (fun _ => ?_)
    obtain ⟨st, sq, si⟩ := s
    obtain rfl : st = some t := ht
    have h0 := hs.t t rfl
    rcases hr with ⟨z, rfl, rfl⟩ | ⟨i, z, rfl, rfl⟩
    · exact ex_seq (exE_set (evE_x (n := -1) (ev_callX (f := f_read_index B.K) (r := .error (-1)) (ea_cons (ev_var (i := 1) rfl) (ea_cons (ev_fld (ev_fldS (i := 0) rfl rfl T.cls_Bench T.n_Bench_table rfl) T.cls_Table T.n_Table_width rfl) ea_nil)) ⟨l, t.cols, rfl, h0.1, h0.2.1, by rw [z]; rfl⟩ (fun n h => by cases h; exact hX (-1) rfl _ rfl))))
    · have hI := rIndex_ok (w := t.cols) h0.1 h0.2.1 (l := l) (p := 0) (r := (rIndex t.cols l 0).2) (i := i) (by rw [← z])
      have tl := h0.2.2.len
      have hl : (heldG t i).length ≤ 1000 := by
        have := List.length_filter_le (fun g : Gr => VaidxBase.isIn i g.1.row) t.groups.zipIdx
        rw [List.length_zipIdx] at this
        unfold heldG
        omega
      have cl : (VaidxBase.columnsOf i).length ≤ 8 := by
        unfold VaidxBase.columnsOf
        rw [List.length_append]
        have := hI.kl
        have := hI.ol
        omega
      refine ex_seq (ex_set (ev_x (ev_callX (f := f_read_index B.K) (r := .ok (iD B.K i)) (ea_cons (ev_var (i := 1) rfl) (ea_cons (ev_fld (ev_fldS (i := 0) rfl rfl T.cls_Bench T.n_Bench_table rfl) T.cls_Table T.n_Table_width rfl) ea_nil)) ⟨l, t.cols, rfl, h0.1, h0.2.1, by rw [z]; rfl⟩ (fun n h => nomatch h))) (of_decide_eq_true rfl) ?_)
      refine ex_seq (ex_fld (evx_ok (ev_var (i := 2) rfl)) (i := 0) rfl rfl T.cls_Bench T.n_Bench_index (of_decide_eq_true rfl) (fun d q => ?_))
      cases q
      show Ex B _ [some (.bor (.obj (He.ga B.K "Bench") (bF B.K ⟨some t, sq, some i⟩))), some (.val (.lst (l.map D.int))), some (.val (iD B.K i)), none] _
      refine ex_seq (ex_set (d := nD (VaidxBase.rowsOf ((heldG t i).map (·.1)))) (ev_call (f := f_count_rows _) (ea_cons (ev_call (f := f_groups_held _) (ea_cons (ev_fldS (i := 0) rfl rfl T.cls_Bench T.n_Bench_table rfl) (ea_cons (ev_var (i := 2) rfl) ea_nil)) ⟨t, i, t.cols, rfl, h0.2.2, hI, rfl⟩) ea_nil) ⟨heldG t i, rfl, hl, rfl⟩) (of_decide_eq_true rfl) ?_)
      exact ex_ret (ev_lst (ea_cons (ev_var (i := 3) rfl) (ea_cons (ev_iiC (C := CMul) (f := fun a b => a * b) (ev_var (i := 3) rfl) (ev_ii (f := fun a b => a + b) (ev_int (i := 1)) (ev_eq (ev_len (xs := (VaidxBase.columnsOf i).map nD) (ev_meth (f := f_Index_own_columns _) (ev_var (i := 2) rfl) rfl ea_nil ⟨i, rfl, hI.kl, hI.ol, rfl⟩)) (congrArg (fun (n : Nat) => D.int (n : Int)) (List.length_map _)))) (.inr (by omega))) ea_nil)) (of_decide_eq_true rfl)) ⟨rfl, rfl⟩
end
end One
namespace One
open PySem PySem.Spec PyProof.Rows L2 NdefX Dl
/-- what one call comes to -/
def oneR (K : PySem.W.Frag) (k : Int) (s : Bst) (l : List Int) (r : Res) (fs2 : List (Str × D)) : Prop :=
  (k = 0 ∧ f_Bench_take_table K (bF K s) [insD l] r fs2) ∨ (k = 1 ∧ f_Bench_take_question K (bF K s) [insD l] r fs2) ∨ (k = 2 ∧ f_Bench_take_index K (bF K s) [insD l] r fs2) ∨
  (k = 3 ∧ f_Bench_plan K (bF K s) [] r fs2) ∨ (k = 4 ∧ f_Bench_why K (bF K s) [] r fs2) ∨ (k = 5 ∧ f_Bench_work K (bF K s) [] r fs2) ∨ (k = 6 ∧ f_Bench_whole K (bF K s) [] r fs2) ∨ (k = 7 ∧ f_Bench_best K (bF K s) [] r fs2) ∨
  (k = 8 ∧ ∃ x xs, l = x :: xs ∧ f_Bench_trace K (bF K s) [.int x] r fs2) ∨ (k = 9 ∧ ∃ x xs, l = x :: xs ∧ f_Bench_answer K (bF K s) [.int x] r fs2) ∨
  (k = 10 ∧ f_Bench_rows K (bF K s) [] r fs2) ∨ (k = 11 ∧ f_Bench_prefixes K (bF K s) [] r fs2)
theorem ex_skip {B : Bs} {e : En} {P : Bh} {t u : TS} {i : Nat} {k j : Int} (h : e[i]? = some (some (.val (.int k)))) (n : k ≠ j) (q : Ex B u e P) : Ex B (tSeq (tIfS (tTest (tOp rEq (tVar i) (tC (.int j)))) t tNext) u) e P :=
  ex_seq (ex_if (c := false) (et_eq (et_test (ev_eqI (ev_var h) (ev_int (i := j)))) (decide_eq_false n)) (fun z => nomatch z) (fun _ => ex_next q))
theorem ex_hit {B : Bs} {e : En} {P : Bh} {t u : TS} {i : Nat} {k : Int} (h : e[i]? = some (some (.val (.int k)))) (q : Ex B t e { P with nx := fun e' => Ex B u e' P }) : Ex B (tSeq (tIfS (tTest (tOp rEq (tVar i) (tC (.int k)))) t tNext) u) e P :=
  ex_seq (ex_if (c := true) (et_eq (et_test (ev_eqI (ev_var h) (ev_int (i := k)))) (decide_eq_true rfl)) (fun _ => q) (fun z => nomatch z))
end One
namespace One
open PySem PySem.Spec PyProof.Rows L2 NdefX Dl Lm
section
variable {P : Program} {w : World} {K : PySem.W.Frag} {mg : Str → Option Value} {base : Heap} {TT : List NTab}
abbrev N_answer_one : List Str := ["bench", "call", "numbers"]
theorem sc_answer_one : FnScope N_answer_one ["bench", "call", "numbers"] (defScope s_answer_one) := ⟨rfl, rfl, rfl, by decide +kernel, rfl, by decide +kernel, by decide +kernel⟩
def f_answer_one (K : PySem.W.Frag) : List (Str × D) → List D → Res → List (Str × D) → Prop := fun fs as r fs2 => ∃ (s : Bst) (k : Int) (l : List Int), Sw s ∧ fs = bF K s ∧ as = [.int k, insD l] ∧ oneR K k s l r fs2
abbrev sp_answer_one (K : PySem.W.Frag) (TT : List NTab) : Sp := SpB K TT (He.ga K "Refusal") (He.ga K "Bench") (f_answer_one K)
theorem len_answer_one : ∀ (fs : List (Str × D)) (as : List D) r fs2, f_answer_one K fs as r fs2 → as.length + 1 = 3 := by
  intro fs as r fs2 h
  obtain ⟨_, _, _, _, _, rfl, _⟩ := h; rfl
theorem ok_answer_one (T : Txt K mg) (TB : Tabs2 K base mg) (hTT : TT = TTT K) : DefOk P w K mg base (L2.CX P w) 12 ("answer_one", none) ["bench", "call", "numbers"] (sp_answer_one K TT) := by
  obtain ⟨⟨fd_Bench_answer, F_Bench_answer, b_Bench_answer⟩, kp_Bench_answer⟩ := ok_Bench_answer (P := P) (w := w) (base := base) (TT := TT) T TB hTT
  obtain ⟨⟨fd_Bench_best, F_Bench_best, b_Bench_best⟩, kp_Bench_best⟩ := ok_Bench_best (P := P) (w := w) (base := base) (TT := TT) T TB hTT
  obtain ⟨⟨fd_Bench_plan, F_Bench_plan, b_Bench_plan⟩, kp_Bench_plan⟩ := ok_Bench_plan (P := P) (w := w) (base := base) (TT := TT) T TB hTT
  obtain ⟨⟨fd_Bench_prefixes, F_Bench_prefixes, b_Bench_prefixes⟩, kp_Bench_prefixes⟩ := ok_Bench_prefixes (P := P) (w := w) (base := base) (TT := TT) T TB hTT
  obtain ⟨⟨fd_Bench_rows, F_Bench_rows, b_Bench_rows⟩, kp_Bench_rows⟩ := ok_Bench_rows (P := P) (w := w) (base := base) (TT := TT) T TB hTT
  obtain ⟨⟨fd_Bench_take_index, F_Bench_take_index, b_Bench_take_index⟩, kp_Bench_take_index⟩ := ok_Bench_take_index (P := P) (w := w) (base := base) (TT := TT) T TB hTT
  obtain ⟨⟨fd_Bench_take_question, F_Bench_take_question, b_Bench_take_question⟩, kp_Bench_take_question⟩ := ok_Bench_take_question (P := P) (w := w) (base := base) (TT := TT) T TB hTT
  obtain ⟨⟨fd_Bench_take_table, F_Bench_take_table, b_Bench_take_table⟩, kp_Bench_take_table⟩ := ok_Bench_take_table (P := P) (w := w) (base := base) (TT := TT) T TB hTT
  obtain ⟨⟨fd_Bench_trace, F_Bench_trace, b_Bench_trace⟩, kp_Bench_trace⟩ := ok_Bench_trace (P := P) (w := w) (base := base) (TT := TT) T TB hTT
  obtain ⟨⟨fd_Bench_whole, F_Bench_whole, b_Bench_whole⟩, kp_Bench_whole⟩ := ok_Bench_whole (P := P) (w := w) (base := base) (TT := TT) T TB hTT
  obtain ⟨⟨fd_Bench_why, F_Bench_why, b_Bench_why⟩, kp_Bench_why⟩ := ok_Bench_why (P := P) (w := w) (base := base) (TT := TT) T TB hTT
  obtain ⟨⟨fd_Bench_work, F_Bench_work, b_Bench_work⟩, kp_Bench_work⟩ := ok_Bench_work (P := P) (w := w) (base := base) (TT := TT) T TB hTT
  obtain ⟨fd, F⟩ := T.def_ (i := 87) (d := d_answer_one) rfl
  refine ⟨⟨fd, FunD.ok F sc_answer_one (sp_lenB (n := 3) len_answer_one) (fun cdv A outer s H vs Q E hr h => ?_), F.bindsN fun _ _ _ _ _ _ us hl => match us, hl with | [_, _, _], _ => rfl⟩, F.kp⟩
  have hx : Passes (L2.CX P w) (cxOf (L2.CX P w) P w K mg base N_answer_one d_answer_one.qual d_answer_one.scope (He.fAd K d_answer_one.at_) cdv A outer s H E) E := passes_call (takes_of rfl rfl rfl rfl) fun _ _ _ _ h => h
  refine ⟨_, (pss_cons (ps_if (pt_cmpR op_eq (pv 1) (pe_gI rfl T.int_TABLE) (nomark _)) (pss_one (ps_ret (pe_meth (pv 0) T.cls_Bench T.meth_Bench_take_table F_Bench_take_table (hr.mono (by decide)) b_Bench_take_table .nil hx (pa_cons (pv 2) pa_nil)))) pss_nil)
    (pss_cons (ps_if (pt_cmpR op_eq (pv 1) (pe_gI rfl T.int_QUESTION) (nomark _)) (pss_one (ps_ret (pe_meth (pv 0) T.cls_Bench T.meth_Bench_take_question F_Bench_take_question (hr.mono (by decide)) b_Bench_take_question .nil hx (pa_cons (pv 2) pa_nil)))) pss_nil)
    (pss_cons (ps_if (pt_cmpR op_eq (pv 1) (pe_gI rfl T.int_INDEX) (nomark _)) (pss_one (ps_ret (pe_meth (pv 0) T.cls_Bench T.meth_Bench_take_index F_Bench_take_index (hr.mono (by decide)) b_Bench_take_index .nil hx (pa_cons (pv 2) pa_nil)))) pss_nil)
    (pss_cons (ps_if (pt_cmpR op_eq (pv 1) (pe_gI rfl T.int_PLAN) (nomark _)) (pss_one (ps_ret (pe_meth0 (pv 0) T.cls_Bench T.meth_Bench_plan F_Bench_plan (hr.mono (by decide)) b_Bench_plan .nil hx))) pss_nil)
    (pss_cons (ps_if (pt_cmpR op_eq (pv 1) (pe_gI rfl T.int_WHY) (nomark _)) (pss_one (ps_ret (pe_meth0 (pv 0) T.cls_Bench T.meth_Bench_why F_Bench_why (hr.mono (by decide)) b_Bench_why .nil hx))) pss_nil)
    (pss_cons (ps_if (pt_cmpR op_eq (pv 1) (pe_gI rfl T.int_WORK) (nomark _)) (pss_one (ps_ret (pe_meth0 (pv 0) T.cls_Bench T.meth_Bench_work F_Bench_work (hr.mono (by decide)) b_Bench_work .nil hx))) pss_nil)
    (pss_cons (ps_if (pt_cmpR op_eq (pv 1) (pe_gI rfl T.int_WHOLE) (nomark _)) (pss_one (ps_ret (pe_meth0 (pv 0) T.cls_Bench T.meth_Bench_whole F_Bench_whole (hr.mono (by decide)) b_Bench_whole .nil hx))) pss_nil)
    (pss_cons (ps_if (pt_cmpR op_eq (pv 1) (pe_gI rfl T.int_BEST) (nomark _)) (pss_one (ps_ret (pe_meth0 (pv 0) T.cls_Bench T.meth_Bench_best F_Bench_best (hr.mono (by decide)) b_Bench_best .nil hx))) pss_nil)
    (pss_cons (ps_if (pt_cmpR op_eq (pv 1) (pe_gI rfl T.int_TRACE) (nomark _)) (pss_one (ps_ret (pe_meth (pv 0) T.cls_Bench T.meth_Bench_trace F_Bench_trace (hr.mono (by decide)) b_Bench_trace .nil hx (pa_cons (pe_ix ix_list (pv 2) pe_int (fun _ _ => rfl)) pa_nil)))) pss_nil)
    (pss_cons (ps_if (pt_cmpR op_eq (pv 1) (pe_gI rfl T.int_ANSWER) (nomark _)) (pss_one (ps_ret (pe_meth (pv 0) T.cls_Bench T.meth_Bench_answer F_Bench_answer (hr.mono (by decide)) b_Bench_answer .nil hx (pa_cons (pe_ix ix_list (pv 2) pe_int (fun _ _ => rfl)) pa_nil)))) pss_nil)
    (pss_cons (ps_if (pt_cmpR op_eq (pv 1) (pe_gI rfl T.int_ROWS) (nomark _)) (pss_one (ps_ret (pe_meth0 (pv 0) T.cls_Bench T.meth_Bench_rows F_Bench_rows (hr.mono (by decide)) b_Bench_rows .nil hx))) pss_nil)
    (pss_cons (ps_if (pt_cmpR op_eq (pv 1) (pe_gI rfl T.int_PREFIXES) (nomark _)) (pss_one (ps_ret (pe_meth0 (pv 0) T.cls_Bench T.meth_Bench_prefixes F_Bench_prefixes (hr.mono (by decide)) b_Bench_prefixes .nil hx))) pss_nil)
    (pss_one ps_never))))))))))))), ?_⟩
  refine body_B 3 rfl (fun fs as r fs2 h => by rw [len_answer_one fs as r fs2 h]; decide) (fun B fs as r fs2 hK hT hf hX => ?_) vs H Q h
  subst hK hT
  obtain ⟨s, k, l, hs, rfl, rfl, hr⟩ := hf
  rcases hr with ⟨rfl, hr⟩ | ⟨rfl, hr⟩ | ⟨rfl, hr⟩ | ⟨rfl, hr⟩ | ⟨rfl, hr⟩ | ⟨rfl, hr⟩ | ⟨rfl, hr⟩ | ⟨rfl, hr⟩ | ⟨rfl, x, xs, rfl, hr⟩ | ⟨rfl, x, xs, rfl, hr⟩ | ⟨rfl, hr⟩ | ⟨rfl, hr⟩
  · exact ex_hit (i := 1) rfl (ex_retX (ev_methB (i := 0) (f := f_Bench_take_table B.K) (ea_cons (ev_var (i := 2) (d := insD l) rfl) ea_nil) rfl rfl rfl rfl hr (fun n z => hX n z _ rfl)) (fun d z => ⟨z, rfl⟩))
  · exact ex_skip (i := 1) rfl (by decide) (ex_hit (i := 1) rfl (ex_retX (ev_methB (i := 0) (f := f_Bench_take_question B.K) (ea_cons (ev_var (i := 2) (d := insD l) rfl) ea_nil) rfl rfl rfl rfl hr (fun n z => hX n z _ rfl)) (fun d z => ⟨z, rfl⟩)))
  · exact ex_skip (i := 1) rfl (by decide) (ex_skip (i := 1) rfl (by decide) (ex_hit (i := 1) rfl (ex_retX (ev_methB (i := 0) (f := f_Bench_take_index B.K) (ea_cons (ev_var (i := 2) (d := insD l) rfl) ea_nil) rfl rfl rfl rfl hr (fun n z => hX n z _ rfl)) (fun d z => ⟨z, rfl⟩))))
  · exact ex_skip (i := 1) rfl (by decide) (ex_skip (i := 1) rfl (by decide) (ex_skip (i := 1) rfl (by decide) (ex_hit (i := 1) rfl (ex_retX (ev_methB (i := 0) (f := f_Bench_plan B.K) ea_nil rfl rfl rfl rfl hr (fun n z => hX n z _ rfl)) (fun d z => ⟨z, rfl⟩)))))
  · exact ex_skip (i := 1) rfl (by decide) (ex_skip (i := 1) rfl (by decide) (ex_skip (i := 1) rfl (by decide) (ex_skip (i := 1) rfl (by decide) (ex_hit (i := 1) rfl (ex_retX (ev_methB (i := 0) (f := f_Bench_why B.K) ea_nil rfl rfl rfl rfl hr (fun n z => hX n z _ rfl)) (fun d z => ⟨z, rfl⟩))))))
  · exact ex_skip (i := 1) rfl (by decide) (ex_skip (i := 1) rfl (by decide) (ex_skip (i := 1) rfl (by decide) (ex_skip (i := 1) rfl (by decide) (ex_skip (i := 1) rfl (by decide) (ex_hit (i := 1) rfl (ex_retX (ev_methB (i := 0) (f := f_Bench_work B.K) ea_nil rfl rfl rfl rfl hr (fun n z => hX n z _ rfl)) (fun d z => ⟨z, rfl⟩)))))))
  · exact ex_skip (i := 1) rfl (by decide) (ex_skip (i := 1) rfl (by decide) (ex_skip (i := 1) rfl (by decide) (ex_skip (i := 1) rfl (by decide) (ex_skip (i := 1) rfl (by decide) (ex_skip (i := 1) rfl (by decide) (ex_hit (i := 1) rfl (ex_retX (ev_methB (i := 0) (f := f_Bench_whole B.K) ea_nil rfl rfl rfl rfl hr (fun n z => hX n z _ rfl)) (fun d z => ⟨z, rfl⟩))))))))
  · exact ex_skip (i := 1) rfl (by decide) (ex_skip (i := 1) rfl (by decide) (ex_skip (i := 1) rfl (by decide) (ex_skip (i := 1) rfl (by decide) (ex_skip (i := 1) rfl (by decide) (ex_skip (i := 1) rfl (by decide) (ex_skip (i := 1) rfl (by decide) (ex_hit (i := 1) rfl (ex_retX (ev_methB (i := 0) (f := f_Bench_best B.K) ea_nil rfl rfl rfl rfl hr (fun n z => hX n z _ rfl)) (fun d z => ⟨z, rfl⟩)))))))))
  · exact ex_skip (i := 1) rfl (by decide) (ex_skip (i := 1) rfl (by decide) (ex_skip (i := 1) rfl (by decide) (ex_skip (i := 1) rfl (by decide) (ex_skip (i := 1) rfl (by decide) (ex_skip (i := 1) rfl (by decide) (ex_skip (i := 1) rfl (by decide) (ex_skip (i := 1) rfl (by decide) (ex_hit (i := 1) rfl (ex_retX (ev_methB (i := 0) (f := f_Bench_trace B.K) (ea_cons (ev_ix (xs := (x :: xs).map D.int) (j := 0) (d := .int x) (ev_var (i := 2) rfl) (ev_int (i := 0)) rfl) ea_nil) rfl rfl rfl rfl hr (fun n z => hX n z _ rfl)) (fun d z => ⟨z, rfl⟩))))))))))
  · exact ex_skip (i := 1) rfl (by decide) (ex_skip (i := 1) rfl (by decide) (ex_skip (i := 1) rfl (by decide) (ex_skip (i := 1) rfl (by decide) (ex_skip (i := 1) rfl (by decide) (ex_skip (i := 1) rfl (by decide) (ex_skip (i := 1) rfl (by decide) (ex_skip (i := 1) rfl (by decide) (ex_skip (i := 1) rfl (by decide) (ex_hit (i := 1) rfl (ex_retX (ev_methB (i := 0) (f := f_Bench_answer B.K) (ea_cons (ev_ix (xs := (x :: xs).map D.int) (j := 0) (d := .int x) (ev_var (i := 2) rfl) (ev_int (i := 0)) rfl) ea_nil) rfl rfl rfl rfl hr (fun n z => hX n z _ rfl)) (fun d z => ⟨z, rfl⟩)))))))))))
  · exact ex_skip (i := 1) rfl (by decide) (ex_skip (i := 1) rfl (by decide) (ex_skip (i := 1) rfl (by decide) (ex_skip (i := 1) rfl (by decide) (ex_skip (i := 1) rfl (by decide) (ex_skip (i := 1) rfl (by decide) (ex_skip (i := 1) rfl (by decide) (ex_skip (i := 1) rfl (by decide) (ex_skip (i := 1) rfl (by decide) (ex_skip (i := 1) rfl (by decide) (ex_hit (i := 1) rfl (ex_retX (ev_methB (i := 0) (f := f_Bench_rows B.K) ea_nil rfl rfl rfl rfl hr (fun n z => hX n z _ rfl)) (fun d z => ⟨z, rfl⟩))))))))))))
  · exact ex_skip (i := 1) rfl (by decide) (ex_skip (i := 1) rfl (by decide) (ex_skip (i := 1) rfl (by decide) (ex_skip (i := 1) rfl (by decide) (ex_skip (i := 1) rfl (by decide) (ex_skip (i := 1) rfl (by decide) (ex_skip (i := 1) rfl (by decide) (ex_skip (i := 1) rfl (by decide) (ex_skip (i := 1) rfl (by decide) (ex_skip (i := 1) rfl (by decide) (ex_skip (i := 1) rfl (by decide) (ex_hit (i := 1) rfl (ex_retX (ev_methB (i := 0) (f := f_Bench_prefixes B.K) ea_nil rfl rfl rfl rfl hr (fun n z => hX n z _ rfl)) (fun d z => ⟨z, rfl⟩)))))))))))))
end
end One
namespace One
open PySem PySem.Spec PyProof.Rows L2 NdefX Dl
/-! ### a refusal's number, answered -/
/-- e.number of the error that slot i has -/
def tNum (K : PySem.W.Frag) (i : Nat) (a : Addr) (cls : Value) (d : Option Addr) : TE := fun σ H Q => ∃ (C dd : Addr) (ls : List (Str × V)) (v : V), cls = .ref C ∧ XfC K C ∧ PySem.W.findIn K (.ref C) "number" = some none ∧ d = some dd ∧ H dd = some (.xd ls) ∧ ls.lookup ("number" : Str) = some v ∧ σ[i]? = some (some (.ref a)) ∧ Q v H
theorem pe_num {X : Cx} {i : Nat} {a : Addr} {oe : Obj} {cls : Value} {d : Option Addr} {pn : List (Addr × Obj)} {e : Expr} {pos : Pos} (hz : Zc cls d oe) (hf : ∃ vs, oe.data = .fields vs) (he : PE (X.suite a ((a, oe) :: pn)) e (tVar i))
    (hb : attributeBase e "number" X.env (eval e X.env) = eval e X.env := by rfl) : PE (X.suite a ((a, oe) :: pn)) (.Attribute e "number" pos) (tNum X.K i a cls d) := by
  refine ⟨?_⟩
  rintro pins s σ H Q I ⟨C, dd, ls, v, ec, T, no, ed, hh, lk, at_, q⟩
  exact (pe_xf T no hz hf he hb).run pins s σ H Q I ⟨_, at_, rfl, ec, dd, ls, v, ed, hh, lk, q⟩
def refD : Res → D
  | .ok d => d
  | .error z => .lst [.int z]
/-- try: return a call on slot 0 / except a refusal as slot i: return [its number] -/
theorem ex_refused {B : Bs} {e : En} {P : Bh} {sp : Sp} {CR C : Addr} {f : List (Str × D) → List D → Res → List (Str × D) → Prop} {ta : TA} {i : Nat} {t : Ent} {fs fs' : List (Str × D)} {as : List D} {r : Res} {W0 : WX} (h : EvA B ta e as e) (h0 : e[0]? = some (some t)) (q : t.ob = some (C, fs)) (hi : i < e.length)
    (hf : f fs as r fs') (y : ∀ d, r = .ok d → P.rt d (e.set 0 (some (t.put C fs')))) (n : ∀ z, r = .error z → P.rt (.lst [.int z]) ((e.set 0 (some (t.put C fs'))).set i none)) (hs : sp = SpB B.K B.T CR C f := by rfl) :
    Ex B (fun D σ H => tRet (tCallS sp (WE (wAs B.K (.ref CR) i (fun a cls d => tRet (tLst (tCons (tNum B.K i a cls d) tNil))) W0 D)) (tCons (tVar 0) ta)) D σ H) e P := fun σ H vs ds D' ⟨G0, s0⟩ _ rr _ => by
  subst hs
  obtain ⟨x, ex, sl⟩ := s0.slot 0 t h0
  obtain ⟨_, p, dx, ws, rfl, hp, rf, g⟩ := slot_ob sl q
  refine ⟨_, ex, h σ H vs ds _ ⟨G0, s0⟩ fun us H1 lw ⟨G1, s1⟩ => ?_⟩
  obtain ⟨s2, ra⟩ := s1.args lw
  obtain ⟨x1, ex1, sl1⟩ := s2.slot 0 t h0
  rw [ex] at ex1
  obtain rfl := Option.some.inj ex1
  obtain ⟨_, p1, dx1, ws1, e1, hp1, rf1, g1⟩ := slot_ob sl1 q
  cases Option.some.inj e1
  have th : H1 p ≠ none := by rw [hp1]; exact fun z => nomatch z
  refine ⟨G1, p, dx1, ws1, fs, us, as, r, fs', rfl, hp1, g1, rf1, ra, hf, s2.pre, fun d er v G2 H2 dx' ws' a h2 r2 rv => ?_, fun z er C' dd G2 H2 dx' ws' a h2 r2 xx ed => ?_⟩
  · exact rr v σ H2 d _ (y d er) ⟨G2, (s2.back h0 q ex a h2 r2 g1 th).push rv⟩
  · have s3 := s2.back h0 q ex a h2 r2 g1 th
    refine ⟨true, xx.te, fun _ b _ => ⟨C', dd, _, .int z, rfl, ⟨xx.ga, xx.gg, xx.exC, xx.hdC⟩, xx.noN, rfl, ed, rfl, ?_, ?_⟩, fun w => nomatch w⟩
    · rw [List.getElem?_set_self (by rw [s2.len]; exact hi)]
    · exact ev_lst (ea_cons (ev_int (i := z)) ea_nil) (of_decide_eq_true rfl) (σ.set i (some (.ref b))) H2 vs ds _ ⟨G2, s3.drop⟩ fun v H3 s4 => rr v _ H3 _ _ (n z er) s4
end One
namespace One
open PySem PySem.Spec PyProof.Rows L2 NdefX Dl Lm
section
variable {P : Program} {w : World} {K : PySem.W.Frag} {mg : Str → Option Value} {base : Heap} {TT : List NTab}
abbrev N_answer_or_refusal : List Str := ["bench", "call", "numbers", "e"]
theorem sc_answer_or_refusal : FnScope N_answer_or_refusal ["bench", "call", "numbers"] (defScope s_answer_or_refusal) := ⟨rfl, rfl, rfl, by decide +kernel, rfl, by decide +kernel, by decide +kernel⟩
def f_answer_or_refusal (K : PySem.W.Frag) : List (Str × D) → List D → Res → List (Str × D) → Prop := fun fs as r fs2 => ∃ (s : Bst) (k : Int) (l : List Int) (r0 : Res), Sw s ∧ fs = bF K s ∧ as = [.int k, insD l] ∧ oneR K k s l r0 fs2 ∧ r = .ok (refD r0)
abbrev sp_answer_or_refusal (K : PySem.W.Frag) (TT : List NTab) : Sp := SpB K TT (He.ga K "Refusal") (He.ga K "Bench") (f_answer_or_refusal K)
theorem len_answer_or_refusal : ∀ (fs : List (Str × D)) (as : List D) r fs2, f_answer_or_refusal K fs as r fs2 → as.length + 1 = 3 := by
  intro fs as r fs2 h
  obtain ⟨_, _, _, _, _, _, rfl, _⟩ := h; rfl
theorem ok_answer_or_refusal (T : Txt K mg) (TB : Tabs2 K base mg) (hTT : TT = TTT K) : DefOk P w K mg base CX0 13 ("answer_or_refusal", none) ["bench", "call", "numbers"] (sp_answer_or_refusal K TT) := by
  obtain ⟨⟨fd_answer_one, F_answer_one, b_answer_one⟩, kp_answer_one⟩ := ok_answer_one (P := P) (w := w) (base := base) (TT := TT) T TB hTT
  obtain ⟨fd, F⟩ := T.def_ (i := 86) (d := d_answer_or_refusal) rfl
  refine ⟨⟨fd, FunD.ok F sc_answer_or_refusal (sp_lenB (n := 3) len_answer_or_refusal) (fun cdv A outer s H vs Q E hr h => ?_), F.bindsN fun _ _ _ _ _ _ us hl => match us, hl with | [_, _, _], _ => rfl⟩, F.kp⟩
  refine ⟨_, PSs.nox (pss_one (ps_try_as (i := 3) (tb := fun W => tRet (tCallS (sp_answer_one K TT) (WE W) (tCons (tVar 0) (tCons (tVar 1) (tCons (tVar 2) tNil))))) (ts := fun a cls d => tRet (tLst (tCons (tNum K 3 a cls d) tNil))) (Wout := fun _ _ _ _ => False) rfl rfl sc_answer_or_refusal.nd rfl rfl ⟨rfl, by decide, Or.inl T.glo_Refusal⟩ takes0
      (fun W pn xe tk _ => pss_one (ps_ret (pe_callS F_answer_one (hr.mono (by decide)) rfl T.glo_answer_one kp_answer_one b_answer_one (fun σ => passAt tk σ) (pa_cons (pv 0) (pa_cons (pv 1) (pa_cons (pv 2) pa_nil))))))
      (fun a oe cls d pn hz hf => pss_one (ps_ret (pe_lst (pa_cons (pe_num hz hf (pv 3)) pa_nil)))))), ?_⟩
  refine body_B (t := fun D σ H => tRet (tCallS (sp_answer_one K TT) (WE (wAs K (.ref (He.ga K "Refusal")) 3 (fun a cls d => tRet (tLst (tCons (tNum K 3 a cls d) tNil))) (fun _ _ _ _ => False) D)) (tCons (tVar 0) (tCons (tVar 1) (tCons (tVar 2) tNil)))) D σ H) 4 rfl (fun fs as r fs2 h => by rw [len_answer_or_refusal fs as r fs2 h]; decide) (fun B fs as r fs2 hK hT hf hX => ?_) vs H Q h
  subst hK hT

  obtain ⟨s, k, l, r0, hs, rfl, rfl, hr, rfl⟩ := hf
  refine ex_refused (B := B) (e := [some (.bor (.obj (He.ga B.K "Bench") (bF B.K s))), some (.val (.int k)), some (.val (insD l)), none]) (W0 := fun _ _ _ _ => False) (t := .bor (.obj (He.ga B.K "Bench") (bF B.K s))) (C := He.ga B.K "Bench") (CR := He.ga B.K "Refusal") (i := 3) (f := f_answer_one B.K) (fs := bF B.K s) (as := [.int k, insD l]) (r := r0) (ea_cons (ev_var (i := 1) rfl) (ea_cons (ev_var (i := 2) rfl) ea_nil)) rfl rfl ?_ ⟨s, k, l, hs, rfl, rfl, hr⟩ ?_ ?_
  · exact of_decide_eq_true rfl
  · intro d z
    subst z
    exact ⟨rfl, rfl⟩
  · intro n z
    subst z
    exact ⟨rfl, rfl⟩
end
end One
namespace One
open PySem PySem.Spec PyProof.Rows L2 NdefX Dl
/-! ### calls in one list -/
theorem cutD_ab (l : List Int) {a b : Nat} (h : b ≤ l.length) : Dl.cutD (l.map D.int) (some (a : Int)) (some (b : Int)) = ((l.drop a).take (b - a)).map D.int := by
  unfold Dl.cutD
  rw [HT.sIx_nat, HT.sIx_nat, List.length_map, List.map_take, List.map_drop, Nat.min_eq_left h]
  by_cases g : a ≤ l.length
  · rw [Nat.min_eq_left g]
  · rw [List.drop_of_length_le (by rw [List.length_map]; omega), List.drop_of_length_le (by rw [List.length_map]; omega), List.take_nil, List.take_nil]
/-- a list that is read alone -/
abbrev sqI (l : List Int) : D := .sq (l.map D.int)
abbrev Cal := Int × List Int
/-- a call as it lies in the list -/
def flat1 (c : Cal) : List Int := if c.1 = 0 ∨ c.1 = 1 ∨ c.1 = 2 then c.1 :: (c.2.length : Int) :: c.2 else c.1 :: c.2
/-- a call that may be asked -/
def okC (c : Cal) : Prop := (c.1 = 0 ∨ c.1 = 1 ∨ c.1 = 2) ∨ ((c.1 = 8 ∨ c.1 = 9) ∧ c.2.length = 1) ∨ ((3 ≤ c.1 ∧ c.1 ≤ 7 ∨ c.1 = 10 ∨ c.1 = 11) ∧ c.2 = [])
def calD (c : Cal) : D := .tup [.int c.1, insD c.2]
theorem drop_flat (xs : List Cal) (c : Cal) (ys : List Cal) : ((xs ++ c :: ys).flatMap flat1).drop (xs.flatMap flat1).length = flat1 c ++ ys.flatMap flat1 := by
  rw [List.flatMap_append, List.drop_left, List.flatMap_cons]
theorem at_flat (xs : List Cal) (c : Cal) (ys : List Cal) (k : Nat) : ((xs ++ c :: ys).flatMap flat1)[(xs.flatMap flat1).length + k]? = (flat1 c ++ ys.flatMap flat1)[k]? := by
  rw [← drop_flat xs c ys, List.getElem?_drop]
theorem flat_long (xs : List Cal) (c : Cal) (ys : List Cal) : (xs.flatMap flat1).length + (flat1 c).length ≤ ((xs ++ c :: ys).flatMap flat1).length := by
  rw [List.flatMap_append, List.flatMap_cons, List.length_append, List.length_append]
  omega
theorem flat_pos (c : Cal) : 1 ≤ (flat1 c).length := by
  unfold flat1
  split <;> simp
theorem flat_snoc (xs : List Cal) (c : Cal) : ((xs ++ [c]).flatMap flat1).length = (xs.flatMap flat1).length + (flat1 c).length := by
  rw [List.flatMap_append, List.length_append, List.flatMap_cons, List.flatMap_nil, List.append_nil]
end One
namespace One
open PySem PySem.Spec PyProof.Rows L2 NdefX Dl Lm
section
variable {P : Program} {w : World} {K : PySem.W.Frag} {mg : Str → Option Value} {base : Heap} {TT : List NTab}
abbrev N_split_calls : List Str := ["calls", "apart", "place", "call", "first", "behind"]
theorem sc_split_calls : FnScope N_split_calls ["calls"] (defScope s_split_calls) := ⟨rfl, rfl, rfl, by decide +kernel, rfl, by decide +kernel, by decide +kernel⟩
def f_split_calls (K : PySem.W.Frag) : List D → D → Prop := fun as d => ∃ (cs : List Cal) (l : List Int), as = [sqI l] ∧ (∀ c ∈ cs, okC c) ∧ cs.length ≤ 1000 ∧ l = cs.flatMap flat1 ∧ d = .lst (cs.map calD)
abbrev sp_split_calls (K : PySem.W.Frag) (TT : List NTab) : Sp := SpP K TT (f_split_calls K)
theorem len_split_calls : ∀ (as : List D) d, f_split_calls K as d → as.length = 1 := by
  intro as d h
  obtain ⟨_, _, rfl, _⟩ := h; rfl
theorem ok_split_calls (T : Txt K mg) : DefOk P w K mg base CX0 1 ("split_calls", none) ["calls"] (sp_split_calls K TT) := by
  obtain ⟨fd, F⟩ := T.def_ (i := 85) (d := d_split_calls) rfl
  refine ⟨⟨fd, FunD.ok F sc_split_calls (sp_lenP (n := 1) len_split_calls) (fun cdv A outer s H vs Q E hr h => ?_), F.bindsN fun _ _ _ _ _ _ us hl => match us, hl with | [_], _ => rfl⟩, F.kp⟩
  refine ⟨_, PSs.nox (pss_cons (ps_set (i := 1) sc_split_calls.nd rfl (Or.inl rfl) (pe_lst pa_nil))
    (pss_cons (ps_set (i := 2) sc_split_calls.nd rfl (Or.inl rfl) pe_int)
    (pss_cons (ps_while PassesOwn.never (pt_cmpR op_lt (pv 2) (pe_callB call_len_seq (by rfl) T.free_len PySem.boot_len (pa_cons (pv 0) pa_nil)) (nomark _))
    (pss_cons (ps_set (i := 3) sc_split_calls.nd rfl (Or.inl rfl) (pe_ix ix_list (pv 0) (pv 2) (fun _ _ => rfl)))
    (pss_cons (ps_set (i := 4) sc_split_calls.nd rfl (Or.inl rfl) (pe_op op_add (pv 2) pe_int))
    (pss_cons (ps_set (i := 5) sc_split_calls.nd rfl (Or.inl rfl) (pv 4))
    (pss_cons (ps_if (pt_cmpR op_in_seq (pv 3) (pe_tup (pa_cons (pe_gI rfl T.int_TABLE) (pa_cons (pe_gI rfl T.int_QUESTION) (pa_cons (pe_gI rfl T.int_INDEX) pa_nil)))) (by with_unfolding_all rfl)) (pss_cons (ps_set (i := 4) sc_split_calls.nd rfl (Or.inl rfl) (pe_op op_add (pv 2) pe_int))
    (pss_one (ps_set (i := 5) sc_split_calls.nd rfl (Or.inl rfl) (pe_op op_add (pv 4) (pe_ix ix_list (pv 0) (pe_op op_add (pv 2) pe_int) (fun _ _ => rfl)))))) (pss_one (ps_if (pt_cmpR op_in_seq (pv 3) (pe_tup (pa_cons (pe_gI rfl T.int_TRACE) (pa_cons (pe_gI rfl T.int_ANSWER) pa_nil))) (by with_unfolding_all rfl)) (pss_one (ps_set (i := 5) sc_split_calls.nd rfl (Or.inl rfl) (pe_op op_add (pv 4) pe_int))) pss_nil)))
    (pss_cons (ps_expr (pe_bm PySem.F.plainAttrs_list PySem.F.slot_list_append PySem.F.type_list_append mt_append (pv 1) (pa_cons (pe_tup (pa_cons (pv 3) (pa_cons (pe_slice sl_list (pv 0) (po_some (pv 4)) (po_some (pv 5))) pa_nil))) pa_nil)))
    (pss_one (ps_set (i := 2) sc_split_calls.nd rfl (Or.inl rfl) (pv 5)))))))))
    (pss_one (ps_ret (pv 1)))))), ?_⟩
  refine body_P 6 rfl (fun as d h => by rw [len_split_calls as d h]; decide) (fun B as d hK hT hf => ?_) vs H Q E h
  subst hK hT

  obtain ⟨cs, l, rfl, hok, hcs, rfl, rfl⟩ := hf
  refine ex_seq (ex_setO (eo_lst ea_nil (of_decide_eq_true rfl)) (of_decide_eq_true rfl) ?_)
  refine ex_seq (ex_set (ev_nat 0 rfl) (of_decide_eq_true rfl) ?_)
  generalize hl : cs.flatMap flat1 = l
  refine ex_seq (ex_while (fun m e' => ∃ (xs ys : List Cal) (x3 x4 x5 : Option Ent), cs = xs ++ ys ∧ m = ys.length ∧ e' = [some (.val (sqI l)), some (.own (.lst (xs.map calD))), some (.val (.int ((xs.flatMap flat1).length : Nat))), x3, x4, x5]) cs.length ⟨[], cs, none, none, none, rfl, rfl, rfl⟩ ?_)
  rintro m e' ⟨xs, ys, x3, x4, x5, hxy, rfl, rfl⟩
  refine ⟨decide (((xs.flatMap flat1).length : Int) < (l.length : Int)), et_eq (et_test (ev_ib (f := fun a b => decide (a < b)) (ev_var (i := 2) rfl) (ev_len (xs := l.map D.int) (ev_var (i := 0) rfl)))) (by rw [List.length_map]), fun hc => ?_, fun hc => ?_⟩
  · have hc := of_decide_eq_true hc
    cases ys with
    | nil =>
      rw [List.append_nil] at hxy
      rw [← hxy, hl] at hc
      omega
    | cons c ys =>
      have hxl : xs.length < 1000 := by
        rw [hxy, List.length_append, List.length_cons] at hcs
        omega
      have fl := flat_long xs c ys
      have at_ := at_flat xs c ys
      have dr := drop_flat xs c ys
      rw [← hxy, hl] at fl at_ dr
      have hg : (l.map D.int)[(xs.flatMap flat1).length]? = some (.int c.1) := by
        have := at_ 0
        rw [Nat.add_zero] at this
        rw [List.getElem?_map, this]
        unfold flat1
        split <;> rfl
      refine ex_seq (ex_set (i := 3) (d := .int c.1) (ev_ix (j := (xs.flatMap flat1).length) (ev_var (i := 0) (d := sqI l) rfl) (ev_var (i := 2) rfl) hg) (of_decide_eq_true rfl) ?_)
      refine ex_seq (ex_set (i := 4) (d := .int (((xs.flatMap flat1).length + 1 : Nat) : Int)) (ev_eq (ev_ii (f := fun a b => a + b) (ev_var (i := 2) rfl) (ev_int (i := 1))) rfl) (of_decide_eq_true rfl) ?_)
      refine ex_seq (ex_set (i := 5) (d := .int (((xs.flatMap flat1).length + 1 : Nat) : Int)) (ev_var (i := 4) rfl) (of_decide_eq_true rfl) ?_)
      show Ex B _ [some (.val (sqI l)), some (.own (.lst (xs.map calD))), some (.val (.int ((xs.flatMap flat1).length : Nat))), some (.val (.int c.1)), some (.val (.int (((xs.flatMap flat1).length + 1 : Nat) : Int))), some (.val (.int (((xs.flatMap flat1).length + 1 : Nat) : Int)))] _
      rcases hok c (by rw [hxy]; exact List.mem_append_right _ (List.mem_cons_self ..)) with h | ⟨h, h2⟩ | ⟨h, h2⟩
      · have e1 : flat1 c = c.1 :: (c.2.length : Int) :: c.2 := by unfold flat1; rw [if_pos h]
        have hlen : (flat1 c).length = c.2.length + 2 := by rw [e1]; rfl
        rw [hlen] at fl
        have hg2 : (l.map D.int)[(xs.flatMap flat1).length + 1]? = some (.int (c.2.length : Nat)) := by
          rw [List.getElem?_map, at_ 1, e1]
          rfl
        have hcut : (l.drop ((xs.flatMap flat1).length + 2)).take ((xs.flatMap flat1).length + (c.2.length + 2) - ((xs.flatMap flat1).length + 2)) = c.2 := by
          rw [← List.drop_drop, dr, e1, show (xs.flatMap flat1).length + (c.2.length + 2) - ((xs.flatMap flat1).length + 2) = c.2.length by omega]
          exact List.take_left
        refine ex_seq (ex_if (c := true) (et_eq (et_test (ev_in (neg := false) (i := c.1) (ns := [0, 1, 2]) (ev_var (i := 3) rfl) (ev_tup (ea_cons (ev_int (i := 0)) (ea_cons (ev_int (i := 1)) (ea_cons (ev_int (i := 2)) ea_nil))) (of_decide_eq_true rfl)) (.inr rfl))) (show (if false = true then _ else decide (c.1 ∈ [0, 1, 2])) = true from by rw [if_neg (fun z => nomatch z)]; exact decide_eq_true (by simpa using h))) (fun _ => ?_) (fun z => nomatch z))
        refine ex_seq (ex_set (i := 4) (d := .int (((xs.flatMap flat1).length + 2 : Nat) : Int)) (ev_eq (ev_ii (f := fun a b => a + b) (ev_var (i := 2) rfl) (ev_int (i := 2))) rfl) (of_decide_eq_true rfl) ?_)
        refine ex_set (i := 5) (d := .int (((xs.flatMap flat1).length + (c.2.length + 2) : Nat) : Int)) (ev_eq (ev_ii (f := fun a b => a + b) (ev_var (i := 4) (d := .int (((xs.flatMap flat1).length + 2 : Nat) : Int)) rfl) (ev_ix (j := (xs.flatMap flat1).length + 1) (ev_var (i := 0) (d := sqI l) rfl) (ev_eq (ev_ii (f := fun a b => a + b) (ev_var (i := 2) rfl) (ev_int (i := 1))) rfl) hg2)) (congrArg D.int (by omega))) (of_decide_eq_true rfl) ?_
        show Ex B _ [some (.val (sqI l)), some (.own (.lst (xs.map calD))), some (.val (.int ((xs.flatMap flat1).length : Nat))), some (.val (.int c.1)), some (.val (.int (((xs.flatMap flat1).length + 2 : Nat) : Int))), some (.val (.int (((xs.flatMap flat1).length + (c.2.length + 2) : Nat) : Int)))] _
        refine ex_seq (ex_app (i := 1) (r := .ok (calD c)) rfl (evx_ok (ev_eq (ev_tup (ea_cons (ev_var (i := 3) (d := .int c.1) rfl) (ea_cons (ev_ofO (eo_slice (xs := l.map D.int) (lo := some (((xs.flatMap flat1).length + 2 : Nat) : Int)) (hi := some (((xs.flatMap flat1).length + (c.2.length + 2) : Nat) : Int)) (ev_var (i := 0) rfl) (ep_at (ev_var (i := 4) rfl)) (ep_at (ev_var (i := 5) rfl)))) ea_nil)) (of_decide_eq_true rfl)) (show D.tup [.int c.1, .lst (Dl.cutD (l.map D.int) (some (((xs.flatMap flat1).length + 2 : Nat) : Int)) (some (((xs.flatMap flat1).length + (c.2.length + 2) : Nat) : Int)))] = calD c from by rw [cutD_ab l (by omega), hcut]; rfl))) rfl (by rw [List.length_map]; omega) (fun d z => ?_))
        cases z
        refine ex_set (i := 2) (d := .int (((xs.flatMap flat1).length + (c.2.length + 2) : Nat) : Int)) (ev_var (i := 5) rfl) (of_decide_eq_true rfl) ⟨ys.length, Nat.lt_succ_self _, xs ++ [c], ys, some (.val (.int c.1)), some (.val (.int (((xs.flatMap flat1).length + 2 : Nat) : Int))), some (.val (.int (((xs.flatMap flat1).length + (c.2.length + 2) : Nat) : Int))), by rw [List.append_assoc]; exact hxy, rfl, ?_⟩
        rw [List.map_append, flat_snoc, hlen]
        rfl
      · have e1 : flat1 c = c.1 :: c.2 := by unfold flat1; rw [if_neg (by omega)]
        have hlen : (flat1 c).length = 2 := by rw [e1, List.length_cons, h2]
        rw [hlen] at fl
        have hcut : (l.drop ((xs.flatMap flat1).length + 1)).take ((xs.flatMap flat1).length + 2 - ((xs.flatMap flat1).length + 1)) = c.2 := by
          rw [← List.drop_drop, dr, e1, show (xs.flatMap flat1).length + 2 - ((xs.flatMap flat1).length + 1) = c.2.length by omega]
          exact List.take_left
        refine ex_seq (ex_if (c := false) (et_eq (et_test (ev_in (neg := false) (i := c.1) (ns := [0, 1, 2]) (ev_var (i := 3) rfl) (ev_tup (ea_cons (ev_int (i := 0)) (ea_cons (ev_int (i := 1)) (ea_cons (ev_int (i := 2)) ea_nil))) (of_decide_eq_true rfl)) (.inr rfl))) (show (if false = true then _ else decide (c.1 ∈ [0, 1, 2])) = false from by rw [if_neg (fun z => nomatch z)]; exact decide_eq_false (by simp; omega))) (fun z => nomatch z) (fun _ => ?_))
        refine ex_if (c := true) (et_eq (et_test (ev_in (neg := false) (i := c.1) (ns := [8, 9]) (ev_var (i := 3) rfl) (ev_tup (ea_cons (ev_int (i := 8)) (ea_cons (ev_int (i := 9)) ea_nil)) (of_decide_eq_true rfl)) (.inr rfl))) (show (if false = true then _ else decide (c.1 ∈ [8, 9])) = true from by rw [if_neg (fun z => nomatch z)]; exact decide_eq_true (by simpa using h))) (fun _ => ?_) (fun z => nomatch z)
        refine ex_set (i := 5) (d := .int (((xs.flatMap flat1).length + 2 : Nat) : Int)) (ev_eq (ev_ii (f := fun a b => a + b) (ev_var (i := 4) (d := .int (((xs.flatMap flat1).length + 1 : Nat) : Int)) rfl) (ev_int (i := 1))) (congrArg D.int (by omega))) (of_decide_eq_true rfl) ?_
        show Ex B _ [some (.val (sqI l)), some (.own (.lst (xs.map calD))), some (.val (.int ((xs.flatMap flat1).length : Nat))), some (.val (.int c.1)), some (.val (.int (((xs.flatMap flat1).length + 1 : Nat) : Int))), some (.val (.int (((xs.flatMap flat1).length + 2 : Nat) : Int)))] _
        refine ex_seq (ex_app (i := 1) (r := .ok (calD c)) rfl (evx_ok (ev_eq (ev_tup (ea_cons (ev_var (i := 3) (d := .int c.1) rfl) (ea_cons (ev_ofO (eo_slice (xs := l.map D.int) (lo := some (((xs.flatMap flat1).length + 1 : Nat) : Int)) (hi := some (((xs.flatMap flat1).length + 2 : Nat) : Int)) (ev_var (i := 0) rfl) (ep_at (ev_var (i := 4) rfl)) (ep_at (ev_var (i := 5) rfl)))) ea_nil)) (of_decide_eq_true rfl)) (show D.tup [.int c.1, .lst (Dl.cutD (l.map D.int) (some (((xs.flatMap flat1).length + 1 : Nat) : Int)) (some (((xs.flatMap flat1).length + 2 : Nat) : Int)))] = calD c from by rw [cutD_ab l (by omega), hcut]; rfl))) rfl (by rw [List.length_map]; omega) (fun d z => ?_))
        cases z
        refine ex_set (i := 2) (d := .int (((xs.flatMap flat1).length + 2 : Nat) : Int)) (ev_var (i := 5) rfl) (of_decide_eq_true rfl) ⟨ys.length, Nat.lt_succ_self _, xs ++ [c], ys, some (.val (.int c.1)), some (.val (.int (((xs.flatMap flat1).length + 1 : Nat) : Int))), some (.val (.int (((xs.flatMap flat1).length + 2 : Nat) : Int))), by rw [List.append_assoc]; exact hxy, rfl, ?_⟩
        rw [List.map_append, flat_snoc, hlen]
        rfl
      · have e1 : flat1 c = c.1 :: c.2 := by unfold flat1; rw [if_neg (by omega)]
        have hlen : (flat1 c).length = 1 := by rw [e1, h2]; rfl
        rw [hlen] at fl
        have hcut : (l.drop ((xs.flatMap flat1).length + 1)).take ((xs.flatMap flat1).length + 1 - ((xs.flatMap flat1).length + 1)) = c.2 := by
          rw [Nat.sub_self, List.take_zero, h2]
        refine ex_seq (ex_if (c := false) (et_eq (et_test (ev_in (neg := false) (i := c.1) (ns := [0, 1, 2]) (ev_var (i := 3) rfl) (ev_tup (ea_cons (ev_int (i := 0)) (ea_cons (ev_int (i := 1)) (ea_cons (ev_int (i := 2)) ea_nil))) (of_decide_eq_true rfl)) (.inr rfl))) (show (if false = true then _ else decide (c.1 ∈ [0, 1, 2])) = false from by rw [if_neg (fun z => nomatch z)]; exact decide_eq_false (by simp; omega))) (fun z => nomatch z) (fun _ => ?_))
        refine ex_if (c := false) (et_eq (et_test (ev_in (neg := false) (i := c.1) (ns := [8, 9]) (ev_var (i := 3) rfl) (ev_tup (ea_cons (ev_int (i := 8)) (ea_cons (ev_int (i := 9)) ea_nil)) (of_decide_eq_true rfl)) (.inr rfl))) (show (if false = true then _ else decide (c.1 ∈ [8, 9])) = false from by rw [if_neg (fun z => nomatch z)]; exact decide_eq_false (by simp; omega))) (fun z => nomatch z) (fun _ => ex_next ?_)
        refine ex_seq (ex_app (i := 1) (r := .ok (calD c)) rfl (evx_ok (ev_eq (ev_tup (ea_cons (ev_var (i := 3) (d := .int c.1) rfl) (ea_cons (ev_ofO (eo_slice (xs := l.map D.int) (lo := some (((xs.flatMap flat1).length + 1 : Nat) : Int)) (hi := some (((xs.flatMap flat1).length + 1 : Nat) : Int)) (ev_var (i := 0) rfl) (ep_at (ev_var (i := 4) rfl)) (ep_at (ev_var (i := 5) rfl)))) ea_nil)) (of_decide_eq_true rfl)) (show D.tup [.int c.1, .lst (Dl.cutD (l.map D.int) (some (((xs.flatMap flat1).length + 1 : Nat) : Int)) (some (((xs.flatMap flat1).length + 1 : Nat) : Int)))] = calD c from by rw [cutD_ab l (by omega), hcut]; rfl))) rfl (by rw [List.length_map]; omega) (fun d z => ?_))
        cases z
        refine ex_set (i := 2) (d := .int (((xs.flatMap flat1).length + 1 : Nat) : Int)) (ev_var (i := 5) rfl) (of_decide_eq_true rfl) ⟨ys.length, Nat.lt_succ_self _, xs ++ [c], ys, some (.val (.int c.1)), some (.val (.int (((xs.flatMap flat1).length + 1 : Nat) : Int))), some (.val (.int (((xs.flatMap flat1).length + 1 : Nat) : Int))), by rw [List.append_assoc]; exact hxy, rfl, ?_⟩
        rw [List.map_append, flat_snoc, hlen]
        rfl
  · have hc := of_decide_eq_false hc
    cases ys with
    | nil =>
      rw [List.append_nil] at hxy
      subst hxy
      exact ex_ret (ev_own (i := 1) rfl) rfl
    | cons c ys =>
      have fl := flat_long xs c ys
      have := flat_pos c
      rw [← hxy, hl] at fl
      omega
end
end One
namespace One
open PySem PySem.Spec PyProof.Rows L2 NdefX Dl
/-! ### calls played one after the other -/
inductive Runs (K : PySem.W.Frag) : Bst → List Cal → List (List Int) → Prop
  | nil (s : Bst) : Runs K s [] []
  | cons {s s' : Bst} {c : Cal} {cs : List Cal} {r : Res} {a : List Int} {rs : List (List Int)} (w : Sw s) (h : oneR K c.1 s c.2 r (bF K s')) (q : refD r = insD a) (t : Runs K s' cs rs) : Runs K s (c :: cs) (a :: rs)
theorem ex_app9 {B : Bs} {e e1 : En} {P : Bh} {te : TE} {i : Nat} {xs : List D} {r : Res} (h0 : e[i]? = some (some (.own (.lst xs)))) (h : EvX B te e r e1) (hi : e1[i]? = some (some (.own (.lst xs)))) (hl : xs.length < 16000000)
    (q : ∀ d, r = .ok d → P.nx (e1.set i (some (.own (.lst (xs ++ [d])))))) : Ex B (tDrop (tBM B.K "list" rAppend (tVar i) (tCons te tNil))) e P := by
  rintro σ H vs ds D' ⟨G0, s0⟩ n _ b
  obtain ⟨p, ws, ep, hp, _, _⟩ := own_lst s0 h0
  refine ⟨_, ep, ty_lst hp, h σ H vs ds _ ⟨G0, s0⟩ ?_⟩
  rintro v H' d er ⟨G1, s1⟩
  obtain ⟨s2, rv⟩ := s1.pop
  obtain ⟨p1, ws1, ep1, hp1, rs, g⟩ := own_lst s2 hi
  rw [ep] at ep1
  cases Option.some.inj (Option.some.inj ep1)
  have big : (16000000 : Nat) ≤ sizeLine := by decide
  have len := rs.len
  exact ⟨p, ws1, v, rfl, rfl, hp1, by omega, n _ _ _ (q d er) ⟨G1, s2.lst hi ep g hp1 (rs.app (.cons rv .nil))⟩⟩
theorem told_more (rs : List (List Int)) (a : List Int) : PyFlat.told (rs ++ [a]) = (PyFlat.told rs ++ [(a.length : Int)]) ++ a := by
  unfold PyFlat.told
  rw [List.flatMap_append, List.flatMap_cons, List.flatMap_nil, List.append_nil, List.append_assoc]
  rfl
theorem told_len (xs ys : List (List Int)) : (PyFlat.told xs).length ≤ (PyFlat.told (xs ++ ys)).length := by
  unfold PyFlat.told
  rw [List.flatMap_append, List.length_append]
  omega
end One
namespace One
open PySem PySem.Spec PyProof.Rows L2 NdefX Dl Lm
section
variable {P : Program} {w : World} {K : PySem.W.Frag} {mg : Str → Option Value} {base : Heap} {TT : List NTab}
abbrev N_answers : List Str := ["calls", "bench", "told", "call", "numbers", "answer"]
theorem sc_answers : FnScope N_answers ["calls"] (defScope s_answers) := ⟨rfl, rfl, rfl, by decide +kernel, rfl, by decide +kernel, by decide +kernel⟩
def f_answers (K : PySem.W.Frag) : List D → D → Prop := fun as d => ∃ (cs : List Cal) (l : List Int) (rs : List (List Int)), as = [sqI l] ∧ (∀ c ∈ cs, okC c) ∧ cs.length ≤ 1000 ∧ l = cs.flatMap flat1 ∧ Runs K Vaidxb.start cs rs ∧ (PyFlat.told rs).length ≤ 10000000 ∧ d = insD (PyFlat.told rs)
abbrev sp_answers (K : PySem.W.Frag) (TT : List NTab) : Sp := SpP K TT (f_answers K)
theorem len_answers : ∀ (as : List D) d, f_answers K as d → as.length = 1 := by
  intro as d h
  obtain ⟨_, _, _, rfl, _⟩ := h; rfl
theorem ok_answers (T : Txt K mg) (TB : Tabs2 K base mg) (hTT : TT = TTT K) : DefOk P w K mg base CX0 14 ("answers", none) ["calls"] (sp_answers K TT) := by
  obtain ⟨⟨fd_answer_or_refusal, F_answer_or_refusal, b_answer_or_refusal⟩, kp_answer_or_refusal⟩ := ok_answer_or_refusal (P := P) (w := w) (base := base) (TT := TT) T TB hTT
  obtain ⟨⟨fd_split_calls, F_split_calls, b_split_calls⟩, kp_split_calls⟩ := ok_split_calls (P := P) (w := w) (base := base) (TT := TT) T
  obtain ⟨⟨fd_Bench_init, F_Bench_init, b_Bench_init⟩, kp_Bench_init⟩ := ok_Bench_init (P := P) (w := w) (base := base) (TT := TT) T
  obtain ⟨fd, F⟩ := T.def_ (i := 84) (d := d_answers) rfl
  refine ⟨⟨fd, FunD.ok F sc_answers (sp_lenP (n := 1) len_answers) (fun cdv A outer s H vs Q E hr h => ?_), F.bindsN fun _ _ _ _ _ _ us hl => match us, hl with | [_], _ => rfl⟩, F.kp⟩
  refine ⟨_, PSs.nox (pss_cons (ps_set (i := 1) sc_answers.nd rfl (Or.inl rfl) (pe_make0 T.mkr_Bench F_Bench_init (hr.mono (by decide)) rfl T.glo_Bench b_Bench_init .nil pass0))
    (pss_cons (ps_set (i := 2) sc_answers.nd rfl (Or.inl rfl) (pe_lst pa_nil))
    (pss_cons (ps_for PassesOwn.never rfl (pi_list (pe_call F_split_calls (hr.mono (by decide)) rfl T.glo_split_calls kp_split_calls b_split_calls .nil pass0 (pa_cons (pv 0) pa_nil))) (pg_tup rfl (pgs_cons (pg_name (i := 3) sc_answers.nd rfl (Or.inl rfl)) (pgs_cons (pg_name (i := 4) sc_answers.nd rfl (Or.inl rfl)) pgs_nil)))
    (pss_cons (ps_set (i := 5) sc_answers.nd rfl (Or.inl rfl) (pe_call F_answer_or_refusal (hr.mono (by decide)) rfl T.glo_answer_or_refusal kp_answer_or_refusal b_answer_or_refusal .nil pass0 (pa_cons (pv 1) (pa_cons (pv 3) (pa_cons (pv 4) pa_nil)))))
    (pss_cons (ps_expr (pe_bm PySem.F.plainAttrs_list PySem.F.slot_list_append PySem.F.type_list_append mt_append (pv 2) (pa_cons (pe_callB call_len_seq (by rfl) T.free_len PySem.boot_len (pa_cons (pv 5) pa_nil)) pa_nil)))
    (pss_one (ps_expr (pe_bm PySem.F.plainAttrs_list PySem.F.slot_list_extend PySem.F.type_list_extend mt_extend (pv 2) (pa_cons (pv 5) pa_nil)))))))
    (pss_one (ps_ret (pv 2)))))), ?_⟩
  refine body_P 6 rfl (fun as d h => by rw [len_answers as d h]; decide) (fun B as d hK hT hf => ?_) vs H Q E h
  subst hK hT

  obtain ⟨cs, l, rs, rfl, hok, hcs, hl, hr, hz, rfl⟩ := hf
  refine ex_seq (ex_setO (eo_make (f := f_Bench_init B.K) ea_nil ⟨rfl, rfl, rfl, rfl⟩) (of_decide_eq_true rfl) ?_)
  refine ex_seq (ex_setO (eo_lst ea_nil (of_decide_eq_true rfl)) (of_decide_eq_true rfl) ?_)
  refine ex_seq (ex_for2 (l := cs) (j := 3) (k := 4) (ea := fun c : Cal => .int c.1) (eb := fun c : Cal => insD c.2) (ev_call (f := f_split_calls B.K) (ea_cons (ev_var (i := 0) rfl) ea_nil) ⟨cs, l, rfl, hok, hcs, hl, rfl⟩) (fun i e2 => ∃ (s : Bst) (us ws : List (List Int)) (x3 x4 x5 : Option Ent), rs = us ++ ws ∧ Runs B.K s (cs.drop i) ws ∧ e2 = [some (.val (sqI l)), some (.own (.obj (He.ga B.K "Bench") (bF B.K s))), some (.own (.lst ((PyFlat.told us).map D.int))), x3, x4, x5]) ⟨Vaidxb.start, [], rs, none, none, none, rfl, hr, rfl⟩ ?_ ?_ ?_)
  · rintro i e2 ⟨s, us, ws, x3, x4, x5, _, _, rfl⟩
    exact ⟨of_decide_eq_true rfl, of_decide_eq_true rfl⟩
  · rintro i c e2 hi ⟨s, us, ws, x3, x4, x5, hu, hr, rfl⟩
    rw [List.drop_eq_getElem?_toList_append, hi] at hr
    have hr : Runs B.K s (c :: cs.drop (i + 1)) ws := hr
    cases hr with
    | @cons _ s' _ _ r a ws w h q t =>
      have big : (PyFlat.told (us ++ [a])).length ≤ 10000000 := by
        refine Nat.le_trans (told_len (us ++ [a]) ws) ?_
        rw [List.append_assoc]
        show (PyFlat.told (us ++ a :: ws)).length ≤ _
        rw [← hu]
        exact hz
      have big2 := big
      rw [told_more] at big2
      simp only [List.length_append, List.length_cons, List.length_nil] at big2
      show Ex B _ [some (.val (sqI l)), some (.own (.obj (He.ga B.K "Bench") (bF B.K s))), some (.own (.lst ((PyFlat.told us).map D.int))), some (.val (.int c.1)), some (.val (insD c.2)), x5] _
      refine ex_seq (ex_set (i := 5) (d := insD a) (ev_ok (ev_callB (i := 1) (f := f_answer_or_refusal B.K) (fs := bF B.K s) (fs' := bF B.K s') (r := .ok (insD a)) (ea_cons (ev_var (i := 3) (d := .int c.1) rfl) (ea_cons (ev_var (i := 4) (d := insD c.2) rfl) ea_nil)) rfl rfl rfl ⟨s, c.1, c.2, r, w, rfl, rfl, h, by rw [q]⟩ (fun n z => nomatch z))) (of_decide_eq_true rfl) ?_)
      show Ex B _ [some (.val (sqI l)), some (.own (.obj (He.ga B.K "Bench") (bF B.K s'))), some (.own (.lst ((PyFlat.told us).map D.int))), some (.val (.int c.1)), some (.val (insD c.2)), some (.val (insD a))] _
      refine ex_seq (ex_app9 (i := 2) (r := .ok (.int (a.length : Nat))) rfl (evx_ok (ev_eq (ev_len (xs := a.map D.int) (ev_var (i := 5) (d := insD a) rfl)) (congrArg (fun (n : Nat) => D.int (n : Int)) (List.length_map _)))) rfl (by rw [List.length_map]; omega) (fun d z => ?_))
      cases z
      refine ex_ext (i := 2) (ys := a.map D.int) rfl (ev_var (i := 5) (d := insD a) rfl) rfl (by simp only [List.length_append, List.length_map, List.length_cons, List.length_nil]; omega) ⟨s', us ++ [a], ws, some (.val (.int c.1)), some (.val (insD c.2)), some (.val (insD a)), by rw [hu, List.append_assoc]; rfl, t, ?_⟩
      rw [told_more, List.map_append, List.map_append]
      rfl
  · rintro e2 ⟨s, us, ws, x3, x4, x5, hu, hr, rfl⟩
    rw [List.drop_length] at hr
    cases hr
    rw [List.append_nil] at hu
    subst hu
    exact ex_ret (ev_own (i := 2) rfl) rfl
end
end One
namespace One
open VaidxBase (Group Table Filter Index)
/-! ### put in order one by one, and all at once -/
section
variable {α : Type} {lt : α → α → Bool}
def putBy (lt : α → α → Bool) (d : α) : List α → List α
  | [] => [d]
  | e :: k => if lt d e = true then d :: e :: k else e :: putBy lt d k
def insBy (lt : α → α → Bool) (a : α) : List α → List α
  | [] => [a]
  | b :: k => if lt b a = true then b :: insBy lt a k else a :: b :: k
/-- rows in order: alike neither before the other -/
structure Ord (lt : α → α → Bool) : Prop where
  asym : ∀ a b, lt a b = true → lt b a = false
  trans : ∀ a b c, lt b a = false → lt c b = false → lt c a = false
theorem put_ins (o : Ord lt) (g a : α) : ∀ k : List α, putBy lt g (insBy lt a k) = insBy lt a (putBy lt g k)
  | [] => by
    by_cases h : lt g a = true
    · simp [putBy, insBy, h]
    · simp [putBy, insBy, h]
  | b :: k => by
    have ih := put_ins o g a k
    by_cases h1 : lt b a = true
    · by_cases h2 : lt g b = true
      · have h3 : lt g a = true := by
          cases h : lt g a with
          | true => rfl
          | false =>
            have := o.trans a g b h (o.asym g b h2)
            rw [h1] at this; cases this
        simp [putBy, insBy, h1, h2, h3]
      · simp [putBy, insBy, h1, h2, ih]
    · by_cases h2 : lt g b = true
      · by_cases h3 : lt g a = true
        · simp [putBy, insBy, h1, h2, h3]
        · simp [putBy, insBy, h1, h2, h3]
      · have h3 : lt g a = false := o.trans a b g (by simpa using h1) (by simpa using h2)
        simp [putBy, insBy, h1, h2, h3]
theorem puts_ins (o : Ord lt) (a : α) : ∀ (l k : List α), l.foldl (fun k d => putBy lt d k) (insBy lt a k) = insBy lt a (l.foldl (fun k d => putBy lt d k) k)
  | [], k => rfl
  | g :: l, k => by
    rw [List.foldl_cons, List.foldl_cons, put_ins o, puts_ins o a l]
theorem ins_mid {a : α} : ∀ {k m : List α}, (∀ b ∈ k, lt b a = true) → (∀ c ∈ m, lt c a = false) → insBy lt a (k ++ m) = k ++ a :: m
  | [], [], _, _ => rfl
  | [], c :: m, _, h => by
    rw [List.nil_append, insBy, h c (List.mem_cons_self ..)]
    rfl
  | b :: k, m, hk, hm => by
    rw [List.cons_append, insBy, if_pos (hk b (List.mem_cons_self ..)), ins_mid (fun x hx => hk x (List.mem_cons_of_mem _ hx)) hm]
    rfl
abbrev leBy (lt : α → α → Bool) : α → α → Bool := fun a b => !lt b a
theorem Ord.le_trans (o : Ord lt) (a b c : α) (h1 : leBy lt a b = true) (h2 : leBy lt b c = true) : leBy lt a c = true := by
  have := o.trans a b c (by simpa [leBy] using h1) (by simpa [leBy] using h2)
  simp [leBy, this]
theorem Ord.le_total (o : Ord lt) (a b : α) : (leBy lt a b || leBy lt b a) = true := by
  cases h : lt b a with
  | false => simp [leBy, h]
  | true => simp [leBy, o.asym b a h]
theorem sort_cons (o : Ord lt) (a : α) (l : List α) : ∃ k m, (a :: l).mergeSort (leBy lt) = k ++ a :: m ∧ l.mergeSort (leBy lt) = k ++ m ∧ (∀ b ∈ k, lt b a = true) ∧ ∀ c ∈ m, lt c a = false := by
  obtain ⟨k, m, h1, h2, h3⟩ := List.mergeSort_cons (le := leBy lt) o.le_trans o.le_total a l
  refine ⟨k, m, h1, h2, fun b hb => ?_, fun c hc => ?_⟩
  · have := h3 b hb
    simpa [leBy] using this
  · have p := List.pairwise_mergeSort (le := leBy lt) o.le_trans o.le_total (a :: l)
    rw [h1, List.pairwise_append, List.pairwise_cons] at p
    have := p.2.1.1 c hc
    simpa [leBy] using this
theorem puts_sort (o : Ord lt) : ∀ l : List α, l.foldl (fun k d => putBy lt d k) [] = l.mergeSort (leBy lt)
  | [] => by simp
  | a :: l => by
    obtain ⟨k, m, h1, h2, h3, h4⟩ := sort_cons o a l
    rw [h1, List.foldl_cons]
    show l.foldl _ (insBy lt a []) = _
    rw [puts_ins o, puts_sort o l, h2, ins_mid h3 h4]
theorem sort_filter (o : Ord lt) (p : α → Bool) : ∀ l : List α, (l.mergeSort (leBy lt)).filter p = (l.filter p).mergeSort (leBy lt)
  | [] => by simp
  | a :: l => by
    have ih := sort_filter o p l
    obtain ⟨k, m, h1, h2, h3, h4⟩ := sort_cons o a l
    rw [h2, List.filter_append] at ih
    rw [h1, List.filter_append, List.filter_cons, List.filter_cons]
    split
    · rename_i hp
      obtain ⟨k2, m2, g1, g2, g3, g4⟩ := sort_cons o a (l.filter p)
      rw [g1, ← ins_mid g3 g4, ← g2, ← ih, ins_mid]
      · exact fun b hb => h3 b (List.mem_filter.mp hb).1
      · exact fun b hb => h4 b (List.mem_filter.mp hb).1
    · exact ih
end
/-! ### rows by some columns -/
theorem less_asym (cs : List Nat) (a b : List Nat) (h : VaidxBase.less cs a b = true) : VaidxBase.less cs b a = false := by
  induction cs with
  | nil => rfl
  | cons c l ih =>
    simp only [VaidxBase.less, Bool.or_eq_true, Bool.and_eq_true, decide_eq_true_eq, beq_iff_eq] at h
    simp only [VaidxBase.less, Bool.or_eq_false_iff, Bool.and_eq_false_iff, decide_eq_false_iff_not, beq_eq_false_iff_ne]
    rcases h with h | ⟨h, h2⟩
    · exact ⟨by omega, .inl (by omega)⟩
    · exact ⟨by omega, .inr (ih h2)⟩
theorem less_trans (cs : List Nat) (a b c : List Nat) (h1 : VaidxBase.less cs b a = false) (h2 : VaidxBase.less cs c b = false) : VaidxBase.less cs c a = false := by
  induction cs with
  | nil => rfl
  | cons x l ih =>
    simp only [VaidxBase.less, Bool.or_eq_false_iff, Bool.and_eq_false_iff, decide_eq_false_iff_not, beq_eq_false_iff_ne] at h1 h2 ⊢
    obtain ⟨p1, q1⟩ := h1
    obtain ⟨p2, q2⟩ := h2
    refine ⟨by omega, ?_⟩
    by_cases e : VaidxBase.valueAt c x = VaidxBase.valueAt a x
    · refine .inr (ih ?_ ?_)
      · rcases q1 with q | q
        · omega
        · exact q
      · rcases q2 with q | q
        · omega
        · exact q
    · exact .inl e
theorem less_ord {α : Type} (cs : List Nat) (row : α → List Nat) : Ord fun a b => VaidxBase.less cs (row a) (row b) := ⟨fun a b => less_asym cs _ _, fun a b c => less_trans cs _ _ _⟩
theorem less_ordB {α : Type} (b : Bool) (cs : List Nat) (row : α → List Nat) : Ord fun x y => if b = true then VaidxBase.less cs (row y) (row x) else VaidxBase.less cs (row x) (row y) := by
  cases b with
  | false => exact less_ord cs row
  | true => exact ⟨fun x y h => less_asym cs _ _ h, fun x y z h1 h2 => less_trans cs _ _ _ h2 h1⟩
theorem less_keys (cs : List Nat) (r s : List Nat) : decide (intsOf (cs.map (VaidxBase.valueAt r)) < intsOf (cs.map (VaidxBase.valueAt s))) = VaidxBase.less cs r s := by
  induction cs with
  | nil => simp [VaidxBase.less]
  | cons c l ih =>
    simp only [VaidxBase.less, ← ih, List.map_cons, List.cons_lt_cons_iff]
    by_cases h : VaidxBase.valueAt r c < VaidxBase.valueAt s c
    · simp [h]
    · by_cases e : VaidxBase.valueAt r c = VaidxBase.valueAt s c
      · simp [e]
      · have : ¬ ((VaidxBase.valueAt r c : Int) = (VaidxBase.valueAt s c : Int)) := by omega
        simp [h, e, this]
theorem data_keys {α : Type} (b : Bool) (cs : List Nat) (row : α → List Nat) : (PySem.W.dataLe b fun a : α => Dl.pdI (intsOf (cs.map (VaidxBase.valueAt (row a))))) = leBy fun x y => if b = true then VaidxBase.less cs (row y) (row x) else VaidxBase.less cs (row x) (row y) := by
  have h0 : ∀ x y : α, PySem.W.dataLe false (fun a : α => Dl.pdI (intsOf (cs.map (VaidxBase.valueAt (row a))))) x y = !VaidxBase.less cs (row y) (row x) := fun x y => by
    have := congrFun (congrFun (PySem.W.dataLe_rows fun a : α => intsOf (cs.map (VaidxBase.valueAt (row a)))) x) y
    rw [← less_keys, ← decide_not]
    refine this.trans (decide_eq_decide.mpr ?_)
    exact List.not_lt.symm
  funext x y
  cases b with
  | false => exact h0 x y
  | true => exact h0 y x
end One
namespace One
open VaidxBase (Group Table Filter Index)
/-! ### the entries as they are touched -/
theorem put_group (cs : List Nat) (g : Group) : ∀ l : List Group, VaidxBase.putGroup cs g l = putBy (fun a b => VaidxBase.less cs a.row b.row) g l
  | [] => rfl
  | h :: l => by rw [VaidxBase.putGroup, putBy, put_group cs g l]
theorem sorted_by (cs : List Nat) (l : List Group) : VaidxBase.sortedBy cs l = l.mergeSort (leBy fun a b => VaidxBase.less cs a.row b.row) := by
  rw [← puts_sort (less_ord cs fun g : Group => g.row)]
  unfold VaidxBase.sortedBy
  congr 1
  funext k g
  exact put_group cs g k
theorem ordG_fst (cs : List Nat) (l : List Gr) : (ordG cs l).map (·.1) = (l.map (·.1)).mergeSort (leBy fun a b => VaidxBase.less cs a.row b.row) := by
  unfold ordG
  rw [data_keys false cs (fun g : Gr => g.1.row), List.map_mergeSort]
  intro a _ b _
  rfl
theorem filter_fst (p : Group → Bool) (l : List Gr) : (l.filter fun g => p g.1).map (·.1) = (l.map (·.1)).filter p := by
  rw [List.filter_map]
  rfl
theorem range_fst (t : Table) (i : Index) (q : VaidxBase.Question) : (inRange t i q).map (·.1) = (t.groups.filter fun g => VaidxBase.isIn i g.row).filter fun g => (VaidxBase.rangeFilters i q).all (VaidxBase.passes g.row) := by
  unfold inRange
  rw [filter_fst (fun g => (VaidxBase.rangeFilters i q).all (VaidxBase.passes g.row)), filter_fst (fun g => VaidxBase.isIn i g.row), zip_fst]
theorem touched_fst (t : Table) (i : Index) (q : VaidxBase.Question) : (touchedG t i q).map (·.1) = VaidxBase.entries t i q := by
  have e : (ordG i.keys (inRange t i q)).map (·.1) = (VaidxBase.sortedBy i.keys (t.groups.filter fun g => VaidxBase.isIn i g.row)).filter fun g => (VaidxBase.rangeFilters i q).all (VaidxBase.passes g.row) := by
    rw [ordG_fst, range_fst, sorted_by, sort_filter (less_ord i.keys fun g : Group => g.row)]
  unfold touchedG VaidxBase.entries
  by_cases h : q.back = true
  · rw [if_pos h, List.map_reverse, e]
    simp only [h, if_true]
  · rw [if_neg h, e]
    simp only [h]
    rfl
theorem rows_entries (t : Table) (i : Index) (q : VaidxBase.Question) : VaidxBase.rowsOf ((inRange t i q).map (·.1)) = VaidxBase.rowsOf (VaidxBase.entries t i q) := by
  rw [← touched_fst]
  exact (rows_perm (touched_perm t i q)).symm
/-! ### where a group lies -/
def Apart (t : Table) : Prop := (t.groups.map fun g => g.row).Nodup
theorem place_at {t : Table} (h : Apart t) {g : Gr} (hg : g ∈ t.groups.zipIdx) : Vaidxb.placeOf t g.1 = g.2 := by
  obtain ⟨g, n⟩ := g
  have hn := List.mem_zipIdx_iff_getElem?.mp hg
  have hn : t.groups[n]? = some g := hn
  obtain ⟨lt, e⟩ := List.getElem?_eq_some_iff.mp hn
  unfold Vaidxb.placeOf
  show t.groups.findIdx (fun x => x.row == g.row) = n
  refine (List.findIdx_eq lt).mpr ⟨by rw [e]; exact beq_self_eq_true _, fun j hj => ?_⟩
  have nd := List.pairwise_iff_getElem.mp h j n (by rw [List.length_map]; omega) (by rw [List.length_map]; omega) hj
  rw [List.getElem_map, List.getElem_map, e] at nd
  exact beq_eq_false_iff_ne.mpr nd
theorem row_at {t : Table} {g : Gr} (hg : g ∈ t.groups.zipIdx) : t.groups[g.2]? = some g.1 := List.mem_zipIdx_iff_getElem?.mp hg
/-! ### steps -/
def doneOf (s : Sp1) : Vaidxb.Done := ⟨s.g.2, s.touched, s.looked, s.found⟩
theorem steps_traced (y : Wy) (t : Table) (own : List Nat → Bool) (cov : Bool) (hl : ∀ g ∈ y.gs, y.looks g.1.row = (own g.1.row && !cov)) (hp : ∀ g ∈ y.gs, Vaidxb.placeOf t g.1 = g.2) :
    ∀ (l : List Gr) (m n : Nat), (∀ g ∈ l, g ∈ y.gs) → (y.stop ≠ 0 → m = y.stop - n ∧ m ≠ 0) → (y.steps l m).map doneOf = Vaidxb.traced t own (VaidxBase.found y.q) cov y.stop (l.map (·.1)) n
  | [], m, n, _, _ => rfl
  | g :: l, m, n, hm, hs => by
    have g0 := hm g (List.mem_cons_self ..)
    have hl0 := hl g g0
    have hp0 := hp g g0
    have ih := fun n' hs' => steps_traced y t own cov hl hp l (y.left g m) n' (fun x hx => hm x (List.mem_cons_of_mem _ hx)) hs'
    have ht : y.take g m = if y.stop ≠ 0 ∧ VaidxBase.found y.q g.1.row = true ∧ y.stop - n < g.1.count then y.stop - n else g.1.count := by
      unfold Wy.take Wy.finds
      by_cases z : y.stop = 0
      · simp [z]
      · have := hs z
        by_cases f : VaidxBase.found y.q g.1.row = true
        · have z2 : 0 < y.stop := by omega
          simp only [z, z2, f, decide_true, Bool.and_self, if_true, ne_eq, not_false_eq_true, true_and]
          split <;> omega
        · simp [f]
    have hn : ¬ (y.stop ≠ 0 ∧ y.stop - n = 0) := fun ⟨a, b⟩ => by have := hs a; omega
    rw [Wy.steps, List.map_cons, List.map_cons, Vaidxb.traced]
    simp only [if_neg hn]
    rw [← ht]
    have hd : doneOf (y.step g m) = ⟨Vaidxb.placeOf t g.1, y.take g m, if (own g.1.row && !cov) = true then y.take g m else 0, if VaidxBase.found y.q g.1.row = true then y.take g m else 0⟩ := by
      unfold doneOf Wy.step Wy.finds
      rw [hl0, hp0]
    rw [hd]
    congr 1
    by_cases z : y.stop = 0
    · rw [if_neg (by simp [z])]
      exact ih _ (fun a => absurd z a)
    · have hs0 := hs z
      have hleft : y.left g m = y.stop - (n + if VaidxBase.found y.q g.1.row = true then y.take g m else 0) := by
        unfold Wy.left Wy.finds
        by_cases f : VaidxBase.found y.q g.1.row = true
        · have z2 : 0 < y.stop := by omega
          rw [if_pos (by simp [f, z2]), if_pos f]
          omega
        · rw [if_neg (by simp [f]), if_neg f]
          omega
      by_cases e : y.left g m = 0
      · rw [if_pos (by simp [e]; omega)]
        cases l with
        | nil => rfl
        | cons h l =>
          rw [List.map_cons, Vaidxb.traced]
          simp only [if_pos (show y.stop ≠ 0 ∧ y.stop - (n + if VaidxBase.found y.q g.1.row = true then y.take g m else 0) = 0 from ⟨z, by omega⟩)]
          rfl
      · rw [if_neg (by simp [e])]
        exact ih _ (fun _ => ⟨hleft, e⟩)
end One
namespace One
open VaidxBase (Group Table Filter Index)
/-! ### sums over the steps -/
theorem gone_steps (y : Wy) (fst : List Nat → Bool) : ∀ (l : List Gr) (m a b c : Nat), (y.stop ≠ 0 → m = y.stop - c ∧ m ≠ 0) → VaidxBase.goThrough fst (VaidxBase.found y.q) y.stop (l.map (·.1)) ⟨a, b, c⟩ = ⟨a + tot ((y.steps l m).map Sp1.touched), b + tot ((y.steps l m).map fun s => if fst s.g.1.row = true then s.touched else 0), c + tot ((y.steps l m).map Sp1.found)⟩
  | [], m, a, b, c, _ => rfl
  | g :: l, m, a, b, c, hs => by
    have ih := fun m' a' b' c' => gone_steps y fst l m' a' b' c'
    have ht : y.take g m = if y.stop ≠ 0 ∧ VaidxBase.found y.q g.1.row = true ∧ y.stop - c < g.1.count then y.stop - c else g.1.count := by
      unfold Wy.take Wy.finds
      by_cases z : y.stop = 0
      · simp [z]
      · have := hs z
        by_cases f : VaidxBase.found y.q g.1.row = true
        · have z2 : 0 < y.stop := by omega
          simp only [z, z2, f, decide_true, Bool.and_self, if_true, ne_eq, not_false_eq_true, true_and]
          split <;> omega
        · simp [f]
    have hn : ¬ (y.stop ≠ 0 ∧ y.stop - c = 0) := fun ⟨a, b⟩ => by have := hs a; omega
    rw [List.map_cons, VaidxBase.goThrough, Wy.steps, List.map_cons, List.map_cons, List.map_cons, tot, tot, tot]
    simp only [if_neg hn]
    rw [← ht]
    have e1 : (y.step g m).touched = y.take g m := rfl
    have e2 : (y.step g m).found = if VaidxBase.found y.q g.1.row = true then y.take g m else 0 := rfl
    have e3 : (y.step g m).g = g := rfl
    rw [e1, e2, e3]
    have fin : ∀ (ss : List Sp1), VaidxBase.goThrough fst (VaidxBase.found y.q) y.stop (l.map (·.1)) ⟨a + y.take g m, if fst g.1.row = true then b + y.take g m else b, if VaidxBase.found y.q g.1.row = true then c + y.take g m else c⟩ = ⟨(a + y.take g m) + tot (ss.map Sp1.touched), (if fst g.1.row = true then b + y.take g m else b) + tot (ss.map fun s => if fst s.g.1.row = true then s.touched else 0), (if VaidxBase.found y.q g.1.row = true then c + y.take g m else c) + tot (ss.map Sp1.found)⟩ →
        VaidxBase.goThrough fst (VaidxBase.found y.q) y.stop (l.map (·.1)) ⟨a + y.take g m, if fst g.1.row = true then b + y.take g m else b, if VaidxBase.found y.q g.1.row = true then c + y.take g m else c⟩ = ⟨a + (y.take g m + tot (ss.map Sp1.touched)), b + ((if fst g.1.row = true then y.take g m else 0) + tot (ss.map fun s => if fst s.g.1.row = true then s.touched else 0)), c + ((if VaidxBase.found y.q g.1.row = true then y.take g m else 0) + tot (ss.map Sp1.found))⟩ := fun ss h => by
      rw [h]
      congr 1
      · omega
      · split <;> omega
      · split <;> omega
    apply fin
    by_cases z : y.stop = 0
    · have hss : (if (decide (0 < y.stop) && decide (y.left g m = 0)) = true then [] else y.steps l (y.left g m)) = y.steps l (y.left g m) := if_neg (by simp [z])
      rw [hss]
      exact ih _ _ _ _ (fun a => absurd z a)
    · have hs0 := hs z
      have hleft : y.left g m = y.stop - (if VaidxBase.found y.q g.1.row = true then c + y.take g m else c) := by
        unfold Wy.left Wy.finds
        by_cases f : VaidxBase.found y.q g.1.row = true
        · have z2 : 0 < y.stop := by omega
          rw [if_pos (by simp [f, z2]), if_pos f]
          omega
        · rw [if_neg (by simp [f]), if_neg f]
          omega
      by_cases e : y.left g m = 0
      · have hss : (if (decide (0 < y.stop) && decide (y.left g m = 0)) = true then [] else y.steps l (y.left g m)) = [] := if_pos (by simp [e]; omega)
        rw [hss]
        cases l with
        | nil => rfl
        | cons h l =>
          rw [List.map_cons, VaidxBase.goThrough]
          simp only [if_pos (show y.stop ≠ 0 ∧ y.stop - (if VaidxBase.found y.q g.1.row = true then c + y.take g m else c) = 0 from ⟨z, by omega⟩)]
          rfl
      · have hss : (if (decide (0 < y.stop) && decide (y.left g m = 0)) = true then [] else y.steps l (y.left g m)) = y.steps l (y.left g m) := if_neg (by simp [e])
        rw [hss]
        exact ih _ _ _ _ (fun _ => ⟨hleft, e⟩)
/-! ### the filters that an index's own columns tell -/
theorem on_self {q : VaidxBase.Question} (nd : (q.filters.map fun f => f.col).Nodup) {f : Filter} (hf : f ∈ q.filters) : VaidxBase.filterOn q f.col = some f := by
  have h : f ∈ q.filters.filter fun g => g.col == f.col := List.mem_filter.mpr ⟨hf, beq_self_eq_true _⟩
  rw [on_nodup nd] at h
  exact Option.mem_toList.mp h
theorem own_all {q : VaidxBase.Question} {i : Index} (nd : (q.filters.map fun f => f.col).Nodup) (p : Filter → Bool) : ((VaidxBase.columnsOf i).filterMap (VaidxBase.filterOn q)).all p = (VaidxBase.ownFilters i q).all p := by
  rw [Bool.eq_iff_iff, List.all_eq_true, List.all_eq_true]
  constructor
  · intro h f hf
    obtain ⟨h1, h2⟩ := List.mem_filter.mp hf
    exact h f (List.mem_filterMap.mpr ⟨f.col, by simpa using h2, on_self nd h1⟩)
  · intro h f hf
    obtain ⟨c, hc, e⟩ := List.mem_filterMap.mp hf
    refine h f (List.mem_filter.mpr ⟨List.mem_of_find?_eq_some e, ?_⟩)
    have : (f.col == c) = true := List.find?_some (p := fun f : Filter => f.col == c) e
    rw [eq_of_beq this]
    simpa using hc
theorem looks_own {t : Table} {q : VaidxBase.Question} {i : Index} (nd : (q.filters.map fun f => f.col).Nodup) (r : List Nat) : (wayI t i q).looks r = ((VaidxBase.ownFilters i q).all (VaidxBase.passes r) && !VaidxBase.covers i q) := by
  unfold Wy.looks wayI
  cases h : VaidxBase.covers i q with
  | true => simp
  | false => simp [own_all nd]
theorem stop_start (y : Wy) : y.stop ≠ 0 → y.stop = y.stop - 0 ∧ y.stop ≠ 0 := fun h => ⟨by omega, h⟩
theorem looked_tot (y : Wy) (own : List Nat → Bool) (hl : ∀ r, y.looks r = own r) : ∀ (l : List Gr) (m : Nat), tot ((y.steps l m).map Sp1.looked) = tot ((y.steps l m).map fun s => if own s.g.1.row = true then s.touched else 0)
  | [], m => rfl
  | g :: l, m => by
    have ih := looked_tot y own hl l (y.left g m)
    rw [Wy.steps, List.map_cons, List.map_cons, tot, tot]
    have e : (y.step g m).looked = if own (y.step g m).g.1.row = true then (y.step g m).touched else 0 := by
      show (if y.looks g.1.row = true then y.take g m else 0) = if own g.1.row = true then y.take g m else 0
      rw [hl]
    rw [e]
    congr 1
    by_cases h : (decide (0 < y.stop) && decide (y.left g m = 0)) = true
    · rw [if_pos h]; rfl
    · rw [if_neg h]; exact ih
theorem looked_none (y : Wy) (hl : ∀ r, y.looks r = false) (l : List Gr) (m : Nat) : tot ((y.steps l m).map Sp1.looked) = 0 := by
  rw [looked_tot y (fun _ => false) hl]
  induction y.steps l m with
  | nil => rfl
  | cons s ss ih => rw [List.map_cons, tot, ih]; rfl
end One
namespace One
open VaidxBase (Group Table Filter Index)
theorem work_index {t : Table} {q : VaidxBase.Question} {i : Index} (nd : (q.filters.map fun f => f.col).Nodup) : (wayI t i q).work = ⟨(VaidxBase.indexWork t i q).touched, (VaidxBase.indexWork t i q).looked, (VaidxBase.indexWork t i q).sorted, VaidxBase.indexCost t i q⟩ := by
  have g := gone_steps (wayI t i q) (fun r => (VaidxBase.ownFilters i q).all (VaidxBase.passes r)) (wayI t i q).gs (wayI t i q).stop 0 0 0 (stop_start _)
  have e1 : (wayI t i q).gs.map (·.1) = VaidxBase.entries t i q := touched_fst t i q
  have e2 : (wayI t i q).q = q := rfl
  have e3 : (wayI t i q).stop = if VaidxBase.isFree i q = true then q.limit else 0 := rfl
  rw [e1, e2, e3, Nat.zero_add, Nat.zero_add, Nat.zero_add] at g
  have k : (if VaidxBase.covers i q = true then 0 else tot (((wayI t i q).steps (wayI t i q).gs (if VaidxBase.isFree i q = true then q.limit else 0)).map fun s => if (VaidxBase.ownFilters i q).all (VaidxBase.passes s.g.1.row) = true then s.touched else 0)) = tot (((wayI t i q).steps (wayI t i q).gs (if VaidxBase.isFree i q = true then q.limit else 0)).map Sp1.looked) := by
    by_cases h : VaidxBase.covers i q = true
    · rw [if_pos h, looked_none _ (fun r => by rw [looks_own nd, h]; simp)]
    · rw [if_neg h]
      refine (looked_tot _ (fun r => (VaidxBase.ownFilters i q).all (VaidxBase.passes r)) (fun r => ?_) _ _).symm
      rw [looks_own nd]
      simp [h]
  unfold Wy.work Wy.sum VaidxBase.indexCost VaidxBase.indexWork
  simp only [g, e3]
  rw [k]
  rfl
theorem work_whole (t : Table) (q : VaidxBase.Question) : (wayT t q).work = ⟨(VaidxBase.wholeWork t q).touched, 0, (VaidxBase.wholeWork t q).sorted, VaidxBase.wholeCost t q⟩ := by
  have g := gone_steps (wayT t q) (VaidxBase.found q) (wayT t q).gs (wayT t q).stop 0 0 0 (stop_start _)
  have e1 : (wayT t q).gs.map (·.1) = t.groups := zip_fst _
  have e2 : (wayT t q).q = q := rfl
  have e3 : (wayT t q).stop = if (VaidxBase.orderLeft q).isEmpty = true then q.limit else 0 := rfl
  have k := looked_none (wayT t q) (fun _ => rfl) (wayT t q).gs (wayT t q).stop
  rw [e1, e2, e3, Nat.zero_add, Nat.zero_add, Nat.zero_add] at g
  rw [e3] at k
  unfold Wy.work Wy.sum VaidxBase.wholeCost VaidxBase.wholeWork
  simp only [g, e3, k]
  rfl
end One
namespace One
open VaidxBase (Group Table Filter Index)
/-! ### shares -/
def pr (h : Gr × Nat) : Nat × Nat := (h.1.2, h.2)
def hitOf (s : Sp1) : Nat × Nat := (s.g.2, s.found)
theorem shares_none : ∀ l : List Sp1, shares l 0 = []
  | [] => rfl
  | s :: l => by rw [shares, if_neg (by omega)]; exact shares_none l
theorem shares_all : ∀ (l : List Sp1) (n : Nat), tot (l.map Sp1.found) ≤ n → (shares l n).map pr = (l.filter fun s => s.found != 0).map hitOf
  | [], n, _ => rfl
  | s :: l, n, h => by
    rw [List.map_cons, tot] at h
    rw [shares, List.filter_cons]
    by_cases z : s.found = 0
    · rw [if_neg (by omega), if_neg (by simp [z])]
      exact shares_all l n (by omega)
    · rw [if_pos (by omega), if_pos (by simpa using z), List.map_cons, List.map_cons, shares_all l _ (by omega)]
      have : min s.found n = s.found := by omega
      rw [this]
      rfl
theorem shares_cut : ∀ (l : List Sp1) (n : Nat), n ≠ 0 → (shares l n).map pr = Vaidxb.cut n ((l.filter fun s => s.found != 0).map hitOf)
  | [], n, _ => rfl
  | s :: l, n, h => by
    rw [shares, List.filter_cons]
    by_cases z : s.found = 0
    · rw [if_neg (by omega), if_neg (by simp [z])]
      exact shares_cut l n h
    · rw [if_pos (by omega), if_pos (by simpa using z), List.map_cons, List.map_cons, Vaidxb.cut]
      have e : (hitOf s).2 = s.found := rfl
      rw [e]
      by_cases c : s.found < n
      · have : min s.found n = s.found := by omega
        rw [if_pos c, this, shares_cut l _ (by omega)]
        rfl
      · have : min s.found n = n := by omega
        rw [if_neg c, if_neg h, this, Nat.sub_self, shares_none]
        rfl
/-! ### the question's order -/
theorem put_while {α : Type} (lt : α → α → Bool) (d : α) : ∀ k : List α, (k.takeWhile fun e => !lt d e) ++ d :: k.drop (k.takeWhile fun e => !lt d e).length = putBy lt d k
  | [] => rfl
  | e :: k => by
    rw [putBy, List.takeWhile_cons]
    cases h : lt d e with
    | true => rfl
    | false =>
      simp only [Bool.not_false, if_true, List.length_cons, List.drop_succ_cons, List.cons_append]
      rw [put_while lt d k]
      rfl
def rowD (t : Table) (d : Vaidxb.Done) : List Nat := ((t.groups[d.group]?).map fun g => g.row).getD []
theorem in_order (t : Table) (q : VaidxBase.Question) (l : List Vaidxb.Done) : Vaidxb.inOrder t q l = l.mergeSort (leBy fun a b => if q.back = true then VaidxBase.less q.order (rowD t b) (rowD t a) else VaidxBase.less q.order (rowD t a) (rowD t b)) := by
  rw [← puts_sort (less_ordB q.back q.order (rowD t))]
  have e : (fun (k : List Vaidxb.Done) (d : Vaidxb.Done) => (k.takeWhile fun e => !(if q.back = true then VaidxBase.less q.order (rowD t e) (rowD t d) else VaidxBase.less q.order (rowD t d) (rowD t e))) ++ d :: k.drop (k.takeWhile fun e => !(if q.back = true then VaidxBase.less q.order (rowD t e) (rowD t d) else VaidxBase.less q.order (rowD t d) (rowD t e))).length) = fun k d => putBy (fun x y => if q.back = true then VaidxBase.less q.order (rowD t y) (rowD t x) else VaidxBase.less q.order (rowD t x) (rowD t y)) d k := by
    funext k d
    exact put_while (fun x y => if q.back = true then VaidxBase.less q.order (rowD t y) (rowD t x) else VaidxBase.less q.order (rowD t x) (rowD t y)) d k
  rw [← e]
  rfl
theorem ordS_done {t : Table} {q : VaidxBase.Question} {l : List Sp1} (h : ∀ s ∈ l, s.g ∈ t.groups.zipIdx) : (ordS q l).map doneOf = Vaidxb.inOrder t q (l.map doneOf) := by
  have hr : ∀ s ∈ l, rowD t (doneOf s) = s.g.1.row := fun s hs => by
    unfold rowD doneOf
    simp only []
    rw [row_at (h s hs)]
    rfl
  unfold ordS
  rw [data_keys q.back q.order (fun s : Sp1 => s.g.1.row), in_order, List.map_mergeSort]
  intro a ha b hb
  simp only [leBy, hr a ha, hr b hb]
theorem ordS_filter (q : VaidxBase.Question) (l : List Sp1) (p : Sp1 → Bool) : (ordS q l).filter p = ordS q (l.filter p) := by
  unfold ordS
  rw [data_keys q.back q.order (fun s : Sp1 => s.g.1.row), sort_filter (less_ordB q.back q.order fun s : Sp1 => s.g.1.row)]
theorem shares_answer {y : Wy} {t : Table} (h : ∀ g ∈ y.gs, g ∈ t.groups.zipIdx) : y.shares.map pr = Vaidxb.answerOf t y.q y.free ((y.steps y.gs y.stop).map doneOf) := by
  have hm : ∀ s ∈ (y.steps y.gs y.stop).filter (fun s => s.found != 0), s.g ∈ t.groups.zipIdx := fun s hs => h _ (steps_mem y _ _ s (List.mem_filter.mp hs).1)
  have ha : ((if y.free = true then y.steps y.gs y.stop else ordS y.q (y.steps y.gs y.stop)).filter fun s => s.found != 0).map hitOf = (if y.free = true then ((y.steps y.gs y.stop).map doneOf).filter (fun d => d.found != 0) else Vaidxb.inOrder t y.q (((y.steps y.gs y.stop).map doneOf).filter fun d => d.found != 0)).map fun d => (d.group, d.found) := by
    have e : ((y.steps y.gs y.stop).map doneOf).filter (fun d => d.found != 0) = ((y.steps y.gs y.stop).filter fun s => s.found != 0).map doneOf := by
      rw [List.filter_map]
      rfl
    rw [e]
    by_cases f : y.free = true
    · rw [if_pos f, if_pos f, List.map_map]
      rfl
    · rw [if_neg f, if_neg f, ordS_filter, ← ordS_done hm, List.map_map]
      rfl
  unfold Wy.shares Vaidxb.answerOf
  simp only []
  rw [← ha]
  generalize (if y.free = true then y.steps y.gs y.stop else ordS y.q (y.steps y.gs y.stop)) = L
  by_cases z : y.q.limit = 0
  · have e : limitOf L y.q.limit = tot (L.map Sp1.found) := if_neg (by omega)
    rw [e, if_pos z, shares_all _ _ (Nat.le_refl _)]
  · have e : limitOf L y.q.limit = y.q.limit := if_pos (by omega)
    rw [e, if_neg z, shares_cut _ _ z]
/-! ### row by row -/
theorem run_rows (y : Wy) (t : Table) (own : List Nat → Bool) (cov : Bool) (hl : ∀ r, y.looks r = (own r && !cov)) : ∀ (l : List Gr) (r : Rn) (f : Nat), (∀ g ∈ l, g ∈ t.groups.zipIdx) → l.length ≤ f → (y.stop ≠ 0 → r.hits.length < y.stop) →
    ∃ left, Vaidxb.runRows t own (VaidxBase.found y.q) cov y.stop f ⟨l.map (·.2), ⟨r.touched, r.looked, 0⟩, r.hits.map (·.2)⟩ = ⟨left, ⟨(y.run l r).touched, (y.run l r).looked, 0⟩, (y.run l r).hits.map (·.2)⟩
  | [], r, f, _, _, _ => by
    cases f with
    | zero => exact ⟨_, rfl⟩
    | succ f => exact ⟨_, rfl⟩
  | g :: l, r, 0, _, h, _ => by simp at h
  | g :: l, r, f + 1, hz, hf, hs => by
    have hg := hz g (List.mem_cons_self ..)
    have ih := fun r' hs' => run_rows y t own cov hl l r' f (fun x hx => hz x (List.mem_cons_of_mem _ hx)) (by simpa using hf) hs'
    have hr : Vaidxb.rowAt t g.2 = g.1.row := by
      unfold Vaidxb.rowAt
      rw [row_at hg]
      rfl
    have go : ∀ (ws : List Nat) (w : VaidxBase.Work) (hs2 : List Nat), (y.stop ≠ 0 → hs2.length < y.stop) → Vaidxb.runRows t own (VaidxBase.found y.q) cov y.stop (f + 1) ⟨g.2 :: ws, w, hs2⟩ = Vaidxb.runRows t own (VaidxBase.found y.q) cov y.stop f ⟨ws, ⟨w.touched + 1, if y.looks g.1.row = true then w.looked + 1 else w.looked, w.sorted⟩, if VaidxBase.found y.q g.1.row = true then hs2 ++ [g.2] else hs2⟩ := fun ws w hs2 h2 => by
      rw [Vaidxb.runRows]
      have c : (List.isEmpty (g.2 :: ws) || (y.stop != 0 && decide (y.stop ≤ hs2.length))) = false := by
        rw [List.isEmpty_cons, Bool.false_or, Bool.and_eq_false_iff]
        by_cases z : y.stop = 0
        · exact .inl (by simp [z])
        · exact .inr (decide_eq_false (by have := h2 z; omega))
      simp only [c]
      rw [if_neg (fun z => nomatch z)]
      unfold Vaidxb.stepRow
      simp only [hr, hl]
    rw [List.map_cons, go _ _ _ (fun z => by rw [List.length_map]; exact hs z), Wy.run]
    unfold Wy.finds
    by_cases fd : VaidxBase.found y.q g.1.row = true
    · rw [if_pos fd, if_pos fd]
      by_cases e : (decide (0 < y.stop) && decide (r.hits.length + 1 = y.stop)) = true
      · rw [if_pos e]
        rw [Bool.and_eq_true, decide_eq_true_eq, decide_eq_true_eq] at e
        cases f with
        | zero => exact ⟨_, by rw [Vaidxb.runRows, List.map_append]; rfl⟩
        | succ f =>
          refine ⟨l.map (·.2), ?_⟩
          rw [Vaidxb.runRows, if_pos, List.map_append]
          · rfl
          · simp only [Bool.or_eq_true, Bool.and_eq_true, decide_eq_true_eq]
            refine .inr ⟨by simp; omega, ?_⟩
            simp
            omega
      · rw [if_neg e]
        rw [Bool.and_eq_true, decide_eq_true_eq, decide_eq_true_eq] at e
        have := ih ⟨r.touched + 1, if y.looks g.1.row = true then r.looked + 1 else r.looked, r.hits ++ [g]⟩ (fun z => by
          show (r.hits ++ [g]).length < _
          rw [List.length_append, List.length_singleton]
          have := hs z
          omega)
        simp only [List.map_append, List.map_cons, List.map_nil] at this
        exact this
    · rw [if_neg fd, if_neg fd]
      exact ih ⟨r.touched + 1, if y.looks g.1.row = true then r.looked + 1 else r.looked, r.hits⟩ hs
theorem spread_each {t : Table} : ∀ {l : List Gr}, (∀ g ∈ l, Vaidxb.placeOf t g.1 = g.2) → Vaidxb.spread t (l.map (·.1)) = (each l).map (·.2)
  | [], _ => rfl
  | g :: l, h => by
    have ih := spread_each (fun x hx => h x (List.mem_cons_of_mem _ hx))
    unfold Vaidxb.spread each at ih ⊢
    rw [List.map_cons, List.flatMap_cons, List.flatMap_cons, ih, List.map_append, List.map_replicate, h g (List.mem_cons_self ..)]
end One
namespace One
open VaidxBase (Group Table Filter Index readNat readPair readTimes readListed readFilter readColumns)
/-! ### reading by places, reading by what is left -/
def Lf {α : Type} (m : Md α) (r : List Int → Option (α × List Int)) : Prop := ∀ (l : List Int) (p : Nat), (m l p).1.map (fun a => (a, l.drop (m l p).2)) = r (l.drop p)
theorem lf_eq {α : Type} {m : Md α} {r r' : List Int → Option (α × List Int)} (h : Lf m r) (e : ∀ x, r x = r' x) : Lf m r' := fun l p => (h l p).trans (e _)
theorem lf_tk (lo hi : Nat) : Lf (tkM lo hi) (readNat lo hi) := fun l p => by
  unfold tkM
  cases h : l[p]? with
  | none =>
    rw [List.drop_of_length_le (List.getElem?_eq_none_iff.mp h)]
    rfl
  | some z =>
    rw [drop_some h]
    unfold readNat VaidxBase.int
    by_cases c : (lo : Int) ≤ z ∧ z ≤ (hi : Int)
    · simp only [if_pos c]; rfl
    · simp only [if_neg c]; rfl
theorem lf_bnd {α β : Type} {m : Md α} {k : α → Md β} {r : List Int → Option (α × List Int)} {rk : α → List Int → Option (β × List Int)} (h : Lf m r) (hk : ∀ a, Lf (k a) (rk a)) : Lf (bnd m k) (fun x => (r x).bind fun u => rk u.1 u.2) := fun l p => by
  have h := h l p
  rcases z : m l p with ⟨_ | a, q⟩
  · rw [z] at h
    have e : r (l.drop p) = none := h.symm
    show _ = (r (l.drop p)).bind _
    rw [bnd_none z, e]
    rfl
  · rw [z] at h
    have e : r (l.drop p) = some (a, l.drop q) := h.symm
    show _ = (r (l.drop p)).bind _
    rw [bnd_some z, e]
    exact hk a l q
theorem lf_ret {α : Type} (a : α) : Lf (ret a) (fun x => some (a, x)) := fun _ _ => rfl
theorem lf_fail {α : Type} : Lf (fail : Md α) (fun _ => none) := fun _ _ => rfl
theorem lf_if {α : Type} {c : Prop} [Decidable c] {m k : Md α} {r s : List Int → Option (α × List Int)} (h : Lf m r) (h2 : Lf k s) : Lf (if c then m else k) (fun x => if c then r x else s x) := by
  by_cases z : c
  · simp only [if_pos z]; exact h
  · simp only [if_neg z]; exact h2
theorem lf_fin : Lf finM (fun x => if x = [] then some ((), []) else none) := fun l p => by
  unfold finM
  by_cases h : p < l.length
  · have : l.drop p ≠ [] := fun z => by have := List.drop_eq_nil_iff.mp z; omega
    simp only [if_pos h, if_neg this]; rfl
  · have : l.drop p = [] := List.drop_of_length_le (by omega)
    simp only [if_neg h, this, if_true]
    rfl
theorem lf_fst {α : Type} {m : Md α} {r : List Int → Option (α × List Int)} (h : Lf m r) (l : List Int) : (m l 0).1 = (r l).map (·.1) := by
  have := h l 0
  rw [List.drop_zero] at this
  rw [← this]
  cases (m l 0).1 <;> rfl
theorem lf_times {α : Type} {m : Md α} {r : List Int → Option (α × List Int)} (h : Lf m r) : ∀ (n i : Nat) (acc : List α), Lf (rep (fun _ acc => bnd m fun c => ret (acc ++ [c])) n i acc) (fun x => (readTimes r n x).map fun u => (acc ++ u.1, u.2))
  | 0, i, acc => lf_eq (lf_ret acc) fun x => by simp [readTimes]
  | n + 1, i, acc => by
    refine lf_eq (lf_bnd (lf_bnd h fun c => lf_ret (acc ++ [c])) fun a => lf_times h n (i + 1) a) fun x => ?_
    rw [readTimes]
    cases r x with
    | none => rfl
    | some u =>
      show (readTimes r n u.2).map _ = ((readTimes r n u.2).map _).map _
      rw [Option.map_map]
      congr 1
      funext v
      simp
theorem lf_cols (w least : Nat) : Lf (rCols w least) (fun x => (readColumns least w x).bind fun u => if u.1.Nodup then some u else none) := by
  refine lf_eq (lf_bnd (lf_tk least w) fun n => lf_bnd (lf_times (lf_tk 0 (w - 1)) n 0 []) fun cs => lf_if (lf_ret cs) lf_fail) fun x => ?_
  unfold readColumns readListed
  cases readNat least w x with
  | none => rfl
  | some n =>
    show ((readTimes (readNat 0 (w - 1)) n.1 n.2).map _).bind _ = (readTimes (readNat 0 (w - 1)) n.1 n.2).bind _
    cases readTimes (readNat 0 (w - 1)) n.1 n.2 <;> rfl
theorem nat_le {lo hi : Nat} {x : List Int} {n : Nat} {y : List Int} (h : readNat lo hi x = some (n, y)) : lo ≤ n ∧ n ≤ hi := by
  unfold readNat VaidxBase.int at h
  cases x with
  | nil => cases h
  | cons z r =>
    simp only [] at h
    split at h
    · cases h
      omega
    · cases h
theorem nat_to {lo hi : Nat} {z : Int} {r : List Int} : readNat lo hi (z :: r) = if (lo : Int) ≤ z ∧ z ≤ (hi : Int) then some (z.toNat, r) else none := rfl
theorem times_all {α : Type} {r : List Int → Option (α × List Int)} {C : α → Prop} (hr : ∀ x u y, r x = some (u, y) → C u) : ∀ {n : Nat} {x y : List Int} {us : List α}, readTimes r n x = some (us, y) → us.length = n ∧ ∀ u ∈ us, C u
  | 0, x, y, us, h => by
    cases h
    exact ⟨rfl, fun _ h => nomatch h⟩
  | n + 1, x, y, us, h => by
    rw [readTimes] at h
    cases e : r x with
    | none => rw [e] at h; cases h
    | some u =>
      rw [e] at h
      have h : (readTimes r n u.2).map (fun v => (u.1 :: v.1, v.2)) = some (us, y) := h
      cases e2 : readTimes r n u.2 with
      | none => rw [e2] at h; cases h
      | some v =>
        rw [e2] at h
        cases h
        obtain ⟨h1, h2⟩ := times_all hr (us := v.1) (y := v.2) e2
        refine ⟨by rw [List.length_cons, h1], fun z hz => ?_⟩
        rcases List.mem_cons.mp hz with rfl | hz
        · exact hr x _ u.2 e
        · exact h2 z hz
theorem listed_all {α : Type} {lo hi : Nat} {r : List Int → Option (α × List Int)} {C : α → Prop} (hr : ∀ x u y, r x = some (u, y) → C u) {x y : List Int} {us : List α} (h : readListed lo hi r x = some (us, y)) : lo ≤ us.length ∧ us.length ≤ hi ∧ ∀ u ∈ us, C u := by
  unfold readListed at h
  cases e : readNat lo hi x with
  | none => rw [e] at h; cases h
  | some n =>
    rw [e] at h
    have h : readTimes r n.1 n.2 = some (us, y) := h
    obtain ⟨h1, h2⟩ := times_all hr h
    have := nat_le (n := n.1) (y := n.2) e
    exact ⟨by omega, by omega, h2⟩
theorem lf_filter {w : Nat} (hw : 1 ≤ w) : Lf (rFilter w) (readFilter w) := by
  refine lf_eq (lf_bnd (lf_tk 0 (w - 1)) fun c => lf_bnd (lf_tk 0 9) fun lo => lf_bnd (lf_tk lo 9) fun hi => lf_ret (⟨c, lo, hi⟩ : Filter)) fun x => ?_
  unfold readFilter readPair VaidxBase.VALUE
  cases e1 : readNat 0 (w - 1) x with
  | none => rfl
  | some u =>
    simp only [Option.bind_some]
    cases e2 : readNat 0 9 u.2 with
    | none => rfl
    | some v =>
      simp only [Option.bind_some]
      have h1 := nat_le (n := u.1) (y := u.2) e1
      have h2 := nat_le (n := v.1) (y := v.2) e2
      cases e3 : v.2 with
      | nil => rfl
      | cons z r =>
        rw [nat_to, nat_to]
        by_cases c : (v.1 : Int) ≤ z ∧ z ≤ ((9 : Nat) : Int)
        · rw [if_pos c, if_pos (by omega)]
          simp only [Option.bind_some, Option.map_some]
          rw [if_pos]
          unfold VaidxBase.okFilter VaidxBase.VALUE
          simp only [Bool.and_eq_true, decide_eq_true_eq]
          omega
        · rw [if_neg c]
          by_cases d : ((0 : Nat) : Int) ≤ z ∧ z ≤ ((9 : Nat) : Int)
          · rw [if_pos d]
            simp only [Option.bind_some, Option.map_some, Option.bind_none]
            rw [if_neg]
            unfold VaidxBase.okFilter VaidxBase.VALUE
            simp only [Bool.and_eq_true, decide_eq_true_eq]
            omega
          · rw [if_neg d]
            rfl
theorem lf_filters {w : Nat} (hw : 1 ≤ w) : Lf (rFilters w) (fun x => (readListed 0 w (readFilter w) x).bind fun u => if (u.1.map fun f => f.col).Nodup then some u else none) := by
  refine lf_eq (lf_bnd (lf_tk 0 w) fun n => lf_bnd (lf_times (lf_filter hw) n 0 []) fun cs => lf_if (lf_ret cs) lf_fail) fun x => ?_
  unfold readListed
  cases readNat 0 w x with
  | none => rfl
  | some n =>
    show ((readTimes (readFilter w) n.1 n.2).map _).bind _ = (readTimes (readFilter w) n.1 n.2).bind _
    cases readTimes (readFilter w) n.1 n.2 <;> rfl
/-! ### what is whole -/
theorem apart_nodup : ∀ l : List Nat, VaidxBase.apart l = decide l.Nodup
  | [] => by simp [VaidxBase.apart]
  | x :: l => by
    rw [VaidxBase.apart, apart_nodup l]
    by_cases h : x ∈ l
    · simp [h]
    · simp [h]
theorem filter_is {w : Nat} {x y : List Int} {f : Filter} (h : readFilter w x = some (f, y)) : VaidxBase.okFilter w f = true := by
  unfold readFilter at h
  obtain ⟨u, _, h⟩ := Option.bind_eq_some_iff.mp h
  split at h
  · rename_i c
    cases h
    exact c
  · cases h
theorem guard_bind {α β : Type} {c : Prop} [Decidable c] (u : α) (f : α → Option β) : (if c then some u else none).bind f = if c then f u else none := by
  split <;> rfl
theorem columns_ok {w least : Nat} (hw : 1 ≤ w) {x y : List Int} {cs : List Nat} (h : readColumns least w x = some (cs, y)) : least ≤ cs.length ∧ (cs.all fun c => decide (c < w)) = true := by
  obtain ⟨h1, _, h2⟩ := listed_all (C := fun c => c < w) (fun x u y e => by have := nat_le e; omega) h
  exact ⟨h1, List.all_eq_true.mpr fun c hc => decide_eq_true (h2 c hc)⟩
theorem question_read {w : Nat} (hw : 1 ≤ w) (l : List Int) : (rQuestion w l 0).1 = VaidxBase.whole (VaidxBase.readQuestion w) l := by
  refine (lf_fst (m := rQuestion w) (lf_bnd (lf_filters hw) fun fs => lf_bnd (lf_cols w 0) fun order => lf_bnd (lf_tk 0 1) fun b => lf_bnd (lf_cols w 0) fun wants => lf_bnd (lf_tk 0 1000000) fun lim => lf_bnd (lf_tk 0 1000) fun asked => lf_bnd lf_fin fun _ => lf_ret (⟨fs, order, b == 1, wants, lim, asked⟩ : VaidxBase.Question)) l).trans ?_
  unfold VaidxBase.whole VaidxBase.readQuestion readPair VaidxBase.LIMIT VaidxBase.TIMES
  rcases e1 : readListed 0 w (readFilter w) l with _ | ⟨fs, x1⟩
  · rfl
  simp only [Option.bind_some, guard_bind]
  rcases e2 : readColumns 0 w x1 with _ | ⟨order, x2⟩
  · simp
  simp only [Option.bind_some, guard_bind]
  rcases e3 : readNat 0 1 x2 with _ | ⟨b, x3⟩
  · simp
  simp only [Option.bind_some, guard_bind]
  rcases e4 : readColumns 0 w x3 with _ | ⟨wants, x4⟩
  · simp
  simp only [Option.bind_some, guard_bind]
  rcases e5 : readNat 0 1000000 x4 with _ | ⟨lim, x5⟩
  · simp
  simp only [Option.bind_some, guard_bind]
  rcases e6 : readNat 0 1000 x5 with _ | ⟨asked, x6⟩
  · simp
  simp only [Option.bind_some, Option.map_some, guard_bind]
  have k1 := (listed_all (C := fun f => VaidxBase.okFilter w f = true) (fun x u y e => filter_is e) e1).2.2
  have k2 := columns_ok hw e2
  have k4 := columns_ok hw e4
  have k5 := nat_le e5
  have k6 := nat_le e6
  have ok : VaidxBase.okQuestion w ⟨fs, order, b == 1, wants, lim, asked⟩ = (decide (fs.map fun f => f.col).Nodup && (decide order.Nodup && decide wants.Nodup)) := by
    unfold VaidxBase.okQuestion VaidxBase.okColumns VaidxBase.LIMIT VaidxBase.TIMES
    simp only [apart_nodup, k2.2, k4.2, List.all_eq_true.mpr k1, k5.2, k6.2, decide_true, Bool.true_and, Bool.and_true]
  rw [ok]
  by_cases n1 : (fs.map fun f => f.col).Nodup
  · by_cases n2 : order.Nodup
    · by_cases n3 : wants.Nodup
      · simp only [n1, n2, n3, if_true, decide_true, Bool.and_self]
        cases x6 with
        | nil => rfl
        | cons z r => rfl
      · simp [n1, n2, n3]
    · simp [n1, n2]
  · simp [n1]
theorem index_read {w : Nat} (hw : 1 ≤ w) (l : List Int) : (rIndex w l 0).1 = VaidxBase.whole (VaidxBase.readIndex w) l := by
  have lo : Lf (rOnly w) (fun x => (readListed 0 1 (readFilter w) x).map fun u => (u.1.head?, u.2)) := by
    refine lf_eq (lf_bnd (lf_tk 0 1) fun b => lf_if (c := b = 1) (lf_bnd (lf_filter hw) fun f => lf_ret (some f)) (lf_ret none)) fun x => ?_
    unfold readListed
    rcases e : readNat 0 1 x with _ | ⟨b, x1⟩
    · rfl
    have := nat_le e
    simp only [Option.bind_some]
    by_cases h : b = 1
    · subst h
      simp only [if_true, readTimes]
      cases readFilter w x1 <;> rfl
    · obtain rfl : b = 0 := by omega
      rfl
  refine (lf_fst (m := rIndex w) (lf_bnd (lf_cols w 1) fun ks => lf_bnd (lf_cols w 0) fun inc => lf_if (c := (ks ++ inc).Nodup) (lf_bnd lo fun only => lf_bnd lf_fin fun _ => lf_ret (⟨ks, inc, only⟩ : Index)) lf_fail) l).trans ?_
  unfold VaidxBase.whole VaidxBase.readIndex readPair
  rcases e1 : readColumns 1 w l with _ | ⟨ks, x1⟩
  · rfl
  simp only [Option.bind_some, guard_bind]
  rcases e2 : readColumns 0 w x1 with _ | ⟨inc, x2⟩
  · simp
  simp only [Option.bind_some, guard_bind]
  rcases e3 : readListed 0 1 (readFilter w) x2 with _ | ⟨fs, x3⟩
  · simp
  simp only [Option.bind_some, Option.map_some, guard_bind]
  have k1 := columns_ok hw e1
  have k2 := columns_ok hw e2
  have k3 := (listed_all (C := fun f => VaidxBase.okFilter w f = true) (fun x u y e => filter_is e) e3).2.2
  have ok : VaidxBase.okIndex w ⟨ks, inc, fs.head?⟩ = decide (ks ++ inc).Nodup := by
    have a1 : ks.isEmpty = false := by
      cases ks with
      | nil => exact absurd k1.1 (by simp)
      | cons k ks => rfl
    have a2 : fs.head?.all (VaidxBase.okFilter w) = true := by
      cases fs with
      | nil => rfl
      | cons f fs => exact k3 f (List.mem_cons_self ..)
    unfold VaidxBase.okIndex VaidxBase.okColumns VaidxBase.columnsOf
    simp only [apart_nodup, a1, a2, List.all_append, k1.2, k2.2, Bool.true_and, Bool.and_true, Bool.not_false]
  rw [ok]
  by_cases n : (ks ++ inc).Nodup
  · have n1 := (List.nodup_append.mp n).1
    have n2 := (List.nodup_append.mp n).2.1
    simp only [n, n1, n2, if_true, decide_true]
    cases x3 with
    | nil => rfl
    | cons z r => rfl
  · simp [n]
/-! ### a table -/
def fresh : List Group → List Group → Bool
  | _, [] => true
  | acc, g :: us => !decide (g.row ∈ acc.map fun g => g.row) && fresh (acc ++ [g]) us
def toG (y : List Nat × Nat) : Group := ⟨y.1, y.2⟩
theorem lf_groups (w : Nat) : ∀ (n i : Nat) (acc : List Group), Lf (rep (grpStep w) n i acc) (fun x => (readTimes (readPair (readTimes (readNat 0 9) w) (readNat 1 1000000)) n x).bind fun u => if fresh acc (u.1.map toG) = true then some (acc ++ u.1.map toG, u.2) else none)
  | 0, i, acc => lf_eq (lf_ret acc) fun x => by simp [readTimes, fresh]
  | n + 1, i, acc => by
    refine lf_eq (lf_bnd (lf_bnd (lf_times (lf_tk 0 9) w 0 []) fun cells => lf_if (c := cells ∈ acc.map fun g => g.row) lf_fail (lf_bnd (lf_tk 1 1000000) fun c => lf_ret (acc ++ [(⟨cells, c⟩ : Group)]))) fun a => lf_groups w n (i + 1) a) fun x => ?_
    rw [readTimes]
    unfold readPair
    rcases e1 : readTimes (readNat 0 9) w x with _ | ⟨cells, x1⟩
    · rfl
    simp only [Option.bind_some, Option.map_some, List.nil_append]
    rcases e2 : readNat 1 1000000 x1 with _ | ⟨c, x2⟩
    · simp
    simp only [Option.bind_some, Option.map_some, List.nil_append]
    show _ = ((readTimes (readPair (readTimes (readNat 0 9) w) (readNat 1 1000000)) n x2).map _).bind _
    by_cases h : cells ∈ acc.map fun g => g.row
    · rw [if_pos h]
      cases readTimes (readPair (readTimes (readNat 0 9) w) (readNat 1 1000000)) n x2 with
      | none => rfl
      | some u =>
        simp only [Option.bind_none, Option.map_some, Option.bind_some, List.map_cons, fresh]
        rw [if_neg]
        intro z
        rw [Bool.and_eq_true] at z
        have := z.1
        simp only [Bool.not_eq_true', decide_eq_false_iff_not] at this
        exact this h
    · rw [if_neg h]
      simp only [Option.bind_some]
      show (readTimes (readPair (readTimes (readNat 0 9) w) (readNat 1 1000000)) n x2).bind _ = _
      cases readTimes (readPair (readTimes (readNat 0 9) w) (readNat 1 1000000)) n x2 with
      | none => rfl
      | some u =>
        simp only [Option.map_some, Option.bind_some, List.map_cons, fresh]
        have hd : (toG (cells, c)).row = cells := rfl
        rw [hd, decide_eq_false h, Bool.not_false, Bool.true_and, List.append_assoc]
        rfl
theorem fresh_rows : ∀ (us acc : List Group), fresh acc us = true ↔ (∀ g ∈ us, g.row ∉ acc.map fun g => g.row) ∧ VaidxBase.rowsApart us = true
  | [], acc => by simp [fresh, VaidxBase.rowsApart]
  | g :: us, acc => by
    rw [fresh, VaidxBase.rowsApart, Bool.and_eq_true, Bool.and_eq_true, fresh_rows us (acc ++ [g])]
    simp only [Bool.not_eq_true', decide_eq_false_iff_not, List.mem_cons, forall_eq_or_imp, List.map_append, List.map_cons, List.map_nil, List.mem_append, List.mem_singleton, not_or, List.not_mem_nil, or_false, List.any_eq_false, beq_iff_eq]
    constructor
    · rintro ⟨h1, h2, h3⟩
      exact ⟨⟨h1, fun x hx => (h2 x hx).1⟩, fun x hx => (h2 x hx).2, h3⟩
    · rintro ⟨⟨h1, h2⟩, h3, h4⟩
      exact ⟨h1, fun x hx => ⟨h2 x hx, h3 x hx⟩, h4⟩
theorem table_read (l : List Int) : (rTable l 0).1 = VaidxBase.whole VaidxBase.readTable l := by
  refine (lf_fst (m := rTable) (lf_bnd (lf_tk 1 4) fun w => lf_bnd (lf_tk 0 12) fun n => lf_bnd (lf_groups w n 0 []) fun gs => lf_bnd lf_fin fun _ => lf_ret (⟨w, gs⟩ : Table)) l).trans ?_
  unfold VaidxBase.whole VaidxBase.readTable VaidxBase.COLS VaidxBase.GROUPS VaidxBase.COUNT VaidxBase.VALUE readListed
  rcases e1 : readNat 1 4 l with _ | ⟨w, x1⟩
  · rfl
  simp only [Option.bind_some]
  rcases e2 : readNat 0 12 x1 with _ | ⟨n, x2⟩
  · rfl
  simp only [Option.bind_some]
  rcases e3 : readTimes (readPair (readTimes (readNat 0 9) w) (readNat 1 1000000)) n x2 with _ | ⟨us, x3⟩
  · rfl
  simp only [Option.bind_some, guard_bind, List.nil_append]
  have k1 := nat_le e1
  have k2 := nat_le e2
  obtain ⟨k3, k4⟩ := times_all (C := fun y : List Nat × Nat => y.1.length = w ∧ (∀ v ∈ y.1, v ≤ 9) ∧ 1 ≤ y.2 ∧ y.2 ≤ 1000000) (fun x u y e => by
    unfold readPair at e
    obtain ⟨v, h1, h2⟩ := Option.bind_eq_some_iff.mp e
    obtain ⟨z, h3, h4⟩ := Option.map_eq_some_iff.mp h2
    cases h4
    obtain ⟨a, b⟩ := times_all (C := fun v => v ≤ 9) (fun x u y e => (nat_le e).2) (us := v.1) (y := v.2) h1
    exact ⟨a, b, nat_le (n := z.1) (y := z.2) h3⟩) e3
  have ok : VaidxBase.okTable ⟨w, us.map toG⟩ = fresh [] (us.map toG) := by
    have f := fresh_rows (us.map toG) []
    have f2 : VaidxBase.rowsApart (us.map toG) = fresh [] (us.map toG) := by
      rw [Bool.eq_iff_iff, f]
      simp
    have g : ((us.map toG).all fun g => g.row.length == w && (g.row.all (fun v => decide (v ≤ 9)) && (decide (1 ≤ g.count) && decide (g.count ≤ 1000000)))) = true := by
      rw [List.all_eq_true]
      intro g hg
      obtain ⟨y, hy, rfl⟩ := List.mem_map.mp hg
      obtain ⟨a, b, c⟩ := k4 y hy
      have a' : (toG y).row.length = w := a
      have b' : ((toG y).row.all fun v => decide (v ≤ 9)) = true := List.all_eq_true.mpr fun v hv => decide_eq_true (b v hv)
      have c' : 1 ≤ (toG y).count ∧ (toG y).count ≤ 1000000 := c
      simp [a', b', c'.1, c'.2]
    unfold VaidxBase.okTable VaidxBase.COLS VaidxBase.GROUPS VaidxBase.COUNT VaidxBase.VALUE
    simp only [g, f2, k1.1, k1.2, List.length_map, k3, k2.2, decide_true, Bool.true_and]
  have em : (us.map fun y => (⟨y.1, y.2⟩ : Group)) = us.map toG := rfl
  rw [em, ok]
  by_cases n : fresh [] (us.map toG) = true
  · simp only [n, if_true]
    cases x3 with
    | nil => rfl
    | cons z r => rfl
  · simp [n]
theorem table_apart {l : List Int} {t : Table} (h : (rTable l 0).1 = some t) : (t.groups.map fun g => g.row).Nodup := by
  rw [table_read] at h
  unfold VaidxBase.whole at h
  split at h
  · rename_i u e
    cases h
    unfold VaidxBase.readTable at e
    obtain ⟨n, _, e⟩ := Option.bind_eq_some_iff.mp e
    obtain ⟨g, _, e⟩ := Option.bind_eq_some_iff.mp e
    simp only [] at e
    split at e
    · rename_i ok
      have e := (Prod.mk.inj (Option.some.inj e)).1
      subst e
      unfold VaidxBase.okTable at ok
      simp only [Bool.and_eq_true] at ok
      have ok := ok.2.2.2.2
      revert ok
      generalize (g.1.map fun y => (⟨y.1, y.2⟩ : Group)) = gs
      intro ok
      induction gs with
      | nil => exact List.nodup_nil
      | cons x gs ih =>
        rw [VaidxBase.rowsApart, Bool.and_eq_true] at ok
        rw [List.map_cons, List.nodup_cons]
        refine ⟨fun z => ?_, ih ok.2⟩
        obtain ⟨y, hy, e⟩ := List.mem_map.mp z
        have := ok.1
        rw [Bool.not_eq_true', List.any_eq_false] at this
        exact this y hy (beq_iff_eq.mpr e)
    · cases e
  · cases h
end One
namespace One
open VaidxBase (Group Table Filter Index)
/-! ### what stops a call, what doesn't -/
theorem on_question (s : Bst) (f : Table → VaidxBase.Question → List Int) : (∃ z, errQ s = some z ∧ Vaidxb.onQuestion s f = (s, [z])) ∨ ∃ t q, errQ s = none ∧ s.table = some t ∧ s.question = some q ∧ Vaidxb.onQuestion s f = (s, f t q) := by
  obtain ⟨t, q, i⟩ := s
  cases t with
  | none => exact .inl ⟨_, rfl, rfl⟩
  | some t =>
    cases q with
    | none => exact .inl ⟨_, rfl, rfl⟩
    | some q => exact .inr ⟨t, q, rfl, rfl, rfl, rfl⟩
theorem on_index (s : Bst) (f : Table → VaidxBase.Question → Index → List Int) : (∃ z, errI s = some z ∧ Vaidxb.onIndex s f = (s, [z])) ∨ ∃ t q i, errI s = none ∧ s.table = some t ∧ s.question = some q ∧ s.index = some i ∧ Vaidxb.onIndex s f = (s, f t q i) := by
  obtain ⟨t, q, i⟩ := s
  cases t with
  | none => exact .inl ⟨_, rfl, rfl⟩
  | some t =>
    cases q with
    | none => exact .inl ⟨_, rfl, rfl⟩
    | some q =>
      cases i with
      | none => exact .inl ⟨_, rfl, rfl⟩
      | some i => exact .inr ⟨t, q, i, rfl, rfl, rfl, rfl, rfl⟩
theorem on_serving (s : Bst) (f : Table → VaidxBase.Question → Index → List Int) : (∃ z, errS s = some z ∧ Vaidxb.onServing s f = (s, [z])) ∨ ∃ t q i, errS s = none ∧ s.table = some t ∧ s.question = some q ∧ s.index = some i ∧ VaidxBase.serves i q = true ∧ Vaidxb.onServing s f = (s, f t q i) := by
  rcases on_index s (fun t q i => if VaidxBase.serves i q = true then f t q i else [-6]) with ⟨z, e, h⟩ | ⟨t, q, i, e, et, eq, ei, h⟩
  · exact .inl ⟨z, by unfold errS; rw [e], h⟩
  · have sv : svB s = VaidxBase.serves i q := by unfold svB; rw [ei, eq]
    have h : Vaidxb.onServing s f = (s, if VaidxBase.serves i q = true then f t q i else [-6]) := h
    by_cases c : VaidxBase.serves i q = true
    · rw [if_pos c] at h
      refine .inr ⟨t, q, i, ?_, et, eq, ei, c, h⟩
      unfold errS
      rw [e, sv, c]
      rfl
    · rw [if_neg c] at h
      refine .inl ⟨-6, ?_, h⟩
      unfold errS
      rw [e, sv]
      simp only [c]
      rfl
/-- what a bench holds is whole, its rows are apart -/
structure Gd (s : Bst) : Prop where
  w : Sw s
  a : ∀ t, s.table = some t → Apart t
theorem trace_whole {t : Table} (q : VaidxBase.Question) (h : Apart t) : ((wayT t q).steps (wayT t q).gs (wayT t q).stop).map doneOf = Vaidxb.wholeTrace t q := by
  have e := steps_traced (wayT t q) t (fun _ => true) true (fun _ _ => rfl) (fun g hg => place_at h hg) (wayT t q).gs (wayT t q).stop 0 (fun _ hg => hg) (stop_start _)
  rw [e]
  have e1 : (wayT t q).gs.map (·.1) = t.groups := zip_fst _
  rw [e1]
  rfl
theorem trace_index {t : Table} {q : VaidxBase.Question} {i : Index} (h : Apart t) (nd : (q.filters.map fun f => f.col).Nodup) : ((wayI t i q).steps (wayI t i q).gs (wayI t i q).stop).map doneOf = Vaidxb.indexTrace t i q := by
  have e := steps_traced (wayI t i q) t (fun r => (VaidxBase.ownFilters i q).all (VaidxBase.passes r)) (VaidxBase.covers i q) (fun g _ => looks_own nd g.1.row) (fun g hg => place_at h (range_mem (touched_mem.mp hg))) (wayI t i q).gs (wayI t i q).stop 0 (fun _ hg => hg) (stop_start _)
  rw [e]
  have e1 : (wayI t i q).gs.map (·.1) = VaidxBase.entries t i q := touched_fst t i q
  rw [e1]
  rfl
theorem on_way {s : Bst} (g : Gd s) (k : Int) (f : Table → VaidxBase.Question → Bool → List Vaidxb.Done → List Int) : (∃ z, told s k = .error z ∧ Vaidxb.onWay s k f = (s, [z])) ∨ ∃ t y, told s k = .ok y ∧ (∀ x ∈ y.gs, x ∈ t.groups.zipIdx) ∧ Vaidxb.onWay s k f = (s, f t y.q y.free ((y.steps y.gs y.stop).map doneOf)) := by
  by_cases k0 : k = 0
  · subst k0
    have e : Vaidxb.onWay s 0 f = Vaidxb.onQuestion s fun t q => f t q (VaidxBase.orderLeft q).isEmpty (Vaidxb.wholeTrace t q) := rfl
    rw [e]
    rcases on_question s (fun t q => f t q (VaidxBase.orderLeft q).isEmpty (Vaidxb.wholeTrace t q)) with ⟨z, e, h⟩ | ⟨t, q, e, et, eq, h⟩
    · refine .inl ⟨z, ?_, h⟩
      obtain ⟨t, q, i⟩ := s
      cases t with
      | none => cases e; rfl
      | some t =>
        cases q with
        | none => cases e; rfl
        | some q => cases e
    · refine .inr ⟨t, wayT t q, ?_, fun _ hx => hx, ?_⟩
      · obtain ⟨st, sq, si⟩ := s
        obtain rfl : st = some t := et
        obtain rfl : sq = some q := eq
        rfl
      · rw [trace_whole q (g.a t et)]
        exact h
  · by_cases k1 : k = 1
    · subst k1
      have e : Vaidxb.onWay s 1 f = Vaidxb.onServing s fun t q i => f t q (VaidxBase.isFree i q) (Vaidxb.indexTrace t i q) := rfl
      rw [e]
      rcases on_serving s (fun t q i => f t q (VaidxBase.isFree i q) (Vaidxb.indexTrace t i q)) with ⟨z, e, h⟩ | ⟨t, q, i, e, et, eq, ei, sv, h⟩
      · refine .inl ⟨z, ?_, h⟩
        obtain ⟨t, q, i⟩ := s
        cases t with
        | none => cases e; rfl
        | some t =>
          cases q with
          | none => cases e; rfl
          | some q =>
            cases i with
            | none => cases e; rfl
            | some i =>
              have e : (if VaidxBase.serves i q = true then none else some (-6 : Int)) = some z := e
              show (if VaidxBase.serves i q = true then Except.ok (wayI t i q) else Except.error (-6)) = Except.error z
              by_cases c : VaidxBase.serves i q = true
              · rw [if_pos c] at e; cases e
              · rw [if_neg c] at e; cases e; rw [if_neg c]
      · refine .inr ⟨t, wayI t i q, ?_, fun x hx => range_mem (touched_mem.mp hx), ?_⟩
        · obtain ⟨st, sq, si⟩ := s
          obtain rfl : st = some t := et
          obtain rfl : sq = some q := eq
          obtain rfl : si = some i := ei
          show (if VaidxBase.serves i q = true then Except.ok (wayI t i q) else Except.error (-6)) = _
          rw [if_pos sv]
        · rw [trace_index (g.a t et) (g.w.q t q et eq).nd]
          exact h
    · have e : Vaidxb.onWay s k f = Vaidxb.onTable s fun _ => (s, [-5]) := by
        unfold Vaidxb.onWay
        rw [if_neg k0, if_neg k1]
      rw [e]
      obtain ⟨t, q, i⟩ := s
      cases t with
      | none => exact .inl ⟨-8, rfl, rfl⟩
      | some t =>
        refine .inl ⟨-5, ?_, rfl⟩
        show (if k = 0 ∨ k = 1 then _ else Except.error (-5)) = _
        rw [if_neg (by omega)]
/-! ### the answers -/
theorem found_rows (t : Table) (q : VaidxBase.Question) : VaidxBase.rowsOf ((foundG t q).map (·.1)) = VaidxBase.foundRows t q := by
  unfold foundG VaidxBase.foundRows
  rw [filter_fst (fun g => q.filters.all (VaidxBase.passes g.row)), zip_fst]
  rfl
theorem held_rows (t : Table) (i : Index) : VaidxBase.rowsOf ((heldG t i).map (·.1)) = VaidxBase.entriesIn t i := by
  unfold heldG VaidxBase.entriesIn
  rw [filter_fst (fun g => VaidxBase.isIn i g.row), zip_fst]
theorem room_rows (a b : Nat) : (a : Int) * (1 + (b : Int)) = Vaidxb.int (a * (b + 1)) := by
  unfold Vaidxb.int
  rw [Int.natCast_mul, Int.natCast_add, Int.add_comm]
  rfl
theorem plan_eq (t : Table) (q : VaidxBase.Question) (i : Index) : ansPlan t q i = (let p := Vaidxb.planOf t i q; [Vaidxb.int p.equals, Vaidxb.bool p.ranged, Vaidxb.bool p.covers, Vaidxb.bool p.free, Vaidxb.int p.inRange]) := by
  have e : ((((i.keys.drop (VaidxBase.equalKeys q i.keys)).take 1).filterMap (VaidxBase.filterOn q)).length : Int) = Vaidxb.bool ((i.keys[VaidxBase.equalKeys q i.keys]?).bind (VaidxBase.filterOn q)).isSome := by
    cases h : i.keys[VaidxBase.equalKeys q i.keys]? with
    | none =>
      rw [List.drop_of_length_le (List.getElem?_eq_none_iff.mp h)]
      rfl
    | some c =>
      rw [drop_some h]
      show (([c].filterMap (VaidxBase.filterOn q)).length : Int) = Vaidxb.bool (VaidxBase.filterOn q c).isSome
      rw [List.filterMap_cons]
      cases VaidxBase.filterOn q c <;> rfl
  unfold ansPlan Vaidxb.planOf
  simp only []
  rw [e, rows_entries]
  rfl
theorem rows_eq2 {t : Table} {q : VaidxBase.Question} {i : Index} (h : Apart t) (nd : (q.filters.map fun f => f.col).Nodup) : ansRows (wayI t i q) = (let m := Vaidxb.indexMachine t i q; [Vaidxb.int m.work.touched, Vaidxb.int m.work.looked, Vaidxb.int m.work.sorted, Vaidxb.int m.hits.length] ++ m.hits.map Vaidxb.int) := by
  have sp : Vaidxb.spread t (VaidxBase.entries t i q) = (each (wayI t i q).gs).map (·.2) := by
    rw [← touched_fst]
    exact spread_each fun g hg => place_at h (range_mem (touched_mem.mp hg))
  obtain ⟨left, e⟩ := run_rows (wayI t i q) t (fun r => (VaidxBase.ownFilters i q).all (VaidxBase.passes r)) (VaidxBase.covers i q) (looks_own nd) (each (wayI t i q).gs) ⟨0, 0, []⟩ ((each (wayI t i q).gs).map (·.2)).length (fun g hg => range_mem (touched_mem.mp (each_mem hg))) (by rw [List.length_map]; exact Nat.le_refl _) (fun z => by show 0 < _; omega)
  have e3 : (wayI t i q).stop = if VaidxBase.isFree i q = true then q.limit else 0 := rfl
  have e2 : (wayI t i q).q = q := rfl
  rw [e2, e3] at e
  have e : Vaidxb.runRows t (fun r => (VaidxBase.ownFilters i q).all (VaidxBase.passes r)) (VaidxBase.found q) (VaidxBase.covers i q) (if VaidxBase.isFree i q = true then q.limit else 0) ((each (wayI t i q).gs).map (·.2)).length ⟨(each (wayI t i q).gs).map (·.2), ⟨0, 0, 0⟩, []⟩ = ⟨left, ⟨(wayI t i q).ran.touched, (wayI t i q).ran.looked, 0⟩, (wayI t i q).ran.hits.map (·.2)⟩ := e
  have m : Vaidxb.indexMachine t i q = ⟨left, ⟨(wayI t i q).ran.touched, (wayI t i q).ran.looked, if VaidxBase.isFree i q = true then 0 else ((wayI t i q).ran.hits.map (·.2)).length⟩, (wayI t i q).ran.hits.map (·.2)⟩ := by
    unfold Vaidxb.indexMachine
    simp only [sp, e]
  rw [m]
  unfold ansRows
  simp only [List.length_map, List.map_map]
  rfl
end One
namespace One
open VaidxBase (Group Table Filter Index)
open Dl
/-! ### one call -/
def rawC (c : Cal) : List (List Int) := if c.1 = 0 ∨ c.1 = 1 ∨ c.1 = 2 then [[c.1], c.2] else [c.1 :: c.2]
variable {K : PySem.W.Frag}
/-- a call's answer, and what it leaves -/
def Sim (K : PySem.W.Frag) (k : Int) (s : Bst) (l : List Int) (o : Bst × List Int) : Prop := ∃ r, oneR K k s l r (bF K o.1) ∧ refD r = insD o.2 ∧ Gd o.1
theorem sim_table {s : Bst} (g : Gd s) (l : List Int) : Sim K 0 s l (Vaidxb.step s (.table l)) := by
  unfold Vaidxb.step
  simp only []
  have e := table_read l
  cases h : VaidxBase.whole VaidxBase.readTable l with
  | none =>
    rw [h] at e
    exact ⟨.error (-1), .inl ⟨rfl, s, l, rfl, rfl, .inl ⟨e, rfl, rfl⟩⟩, rfl, g⟩
  | some t =>
    rw [h] at e
    have ok := rTable_ok (l := l) (p := 0) (r := (rTable l 0).2) (t := t) (by rw [← e])
    exact ⟨_, .inl ⟨rfl, s, l, rfl, rfl, .inr ⟨t, e, rfl, rfl⟩⟩, rfl, sw_table (s := s) ok, fun t' h' => by cases h'; exact table_apart e⟩
theorem sim_question {s : Bst} (g : Gd s) (l : List Int) : Sim K 1 s l (Vaidxb.step s (.question l)) := by
  obtain ⟨st, sq, si⟩ := s
  cases st with
  | none => exact ⟨.error (-8), .inr (.inl ⟨rfl, _, l, g.w, rfl, rfl, .inl ⟨-8, rfl, rfl, rfl⟩⟩), rfl, g⟩
  | some t =>
    have h0 := g.w.t t rfl
    have e := question_read (w := t.cols) h0.1 l
    unfold Vaidxb.step Vaidxb.onTable
    simp only []
    cases h : VaidxBase.whole (VaidxBase.readQuestion t.cols) l with
    | none =>
      rw [h] at e
      exact ⟨.error (-1), .inr (.inl ⟨rfl, _, l, g.w, rfl, rfl, .inr ⟨t, rfl, rfl, .inl ⟨e, rfl, rfl⟩⟩⟩), rfl, g⟩
    | some q =>
      rw [h] at e
      have ok := rQuestion_ok (w := t.cols) h0.1 h0.2.1 (l := l) (p := 0) (r := (rQuestion t.cols l 0).2) (q := q) (by rw [← e])
      refine ⟨_, .inr (.inl ⟨rfl, _, l, g.w, rfl, rfl, .inr ⟨t, rfl, rfl, .inr ⟨q, e, rfl, rfl⟩⟩⟩), ?_, sw_question g.w rfl ok, fun t' h' => g.a t' h'⟩
      rw [found_rows]
      rfl
theorem sim_index {s : Bst} (g : Gd s) (l : List Int) : Sim K 2 s l (Vaidxb.step s (.index l)) := by
  obtain ⟨st, sq, si⟩ := s
  cases st with
  | none => exact ⟨.error (-8), .inr (.inr (.inl ⟨rfl, _, l, g.w, rfl, rfl, .inl ⟨-8, rfl, rfl, rfl⟩⟩)), rfl, g⟩
  | some t =>
    have h0 := g.w.t t rfl
    have e := index_read (w := t.cols) h0.1 l
    unfold Vaidxb.step Vaidxb.onTable
    simp only []
    cases h : VaidxBase.whole (VaidxBase.readIndex t.cols) l with
    | none =>
      rw [h] at e
      exact ⟨.error (-1), .inr (.inr (.inl ⟨rfl, _, l, g.w, rfl, rfl, .inr ⟨t, rfl, rfl, .inl ⟨e, rfl, rfl⟩⟩⟩)), rfl, g⟩
    | some i =>
      rw [h] at e
      have ok := rIndex_ok (w := t.cols) h0.1 h0.2.1 (l := l) (p := 0) (r := (rIndex t.cols l 0).2) (i := i) (by rw [← e])
      refine ⟨_, .inr (.inr (.inl ⟨rfl, _, l, g.w, rfl, rfl, .inr ⟨t, rfl, rfl, .inr ⟨i, e, rfl, rfl⟩⟩⟩)), ?_, sw_index g.w rfl ok, fun t' h' => g.a t' h'⟩
      rw [held_rows, room_rows]
      rfl
theorem sim_plan {s : Bst} (g : Gd s) : Sim K 3 s [] (Vaidxb.step s .plan) := by
  unfold Vaidxb.step
  simp only []
  rcases on_serving s (fun t q i => let p := Vaidxb.planOf t i q; [Vaidxb.int p.equals, Vaidxb.bool p.ranged, Vaidxb.bool p.covers, Vaidxb.bool p.free, Vaidxb.int p.inRange]) with ⟨z, e, h⟩ | ⟨t, q, i, e, et, eq, ei, sv, h⟩
  · rw [h]
    exact ⟨.error z, .inr (.inr (.inr (.inl ⟨rfl, s, g.w, rfl, rfl, rfl, .inl ⟨z, e, rfl⟩⟩))), rfl, g⟩
  · rw [h]
    refine ⟨_, .inr (.inr (.inr (.inl ⟨rfl, s, g.w, rfl, rfl, rfl, .inr ⟨t, q, i, e, et, eq, ei, rfl⟩⟩))), ?_, g⟩
    rw [plan_eq]
    rfl
theorem sim_why {s : Bst} (g : Gd s) : Sim K 4 s [] (Vaidxb.step s .why) := by
  unfold Vaidxb.step
  simp only []
  rcases on_index s (fun _ q i => [Vaidxb.orNone (Vaidxb.unserved i q), Vaidxb.orNone (Vaidxb.lacking i q), Vaidxb.orNone (Vaidxb.unfree i q)]) with ⟨z, e, h⟩ | ⟨t, q, i, e, et, eq, ei, h⟩
  · rw [h]
    exact ⟨.error z, .inr (.inr (.inr (.inr (.inl ⟨rfl, s, g.w, rfl, rfl, rfl, .inl ⟨z, e, rfl⟩⟩)))), rfl, g⟩
  · rw [h]
    exact ⟨_, .inr (.inr (.inr (.inr (.inl ⟨rfl, s, g.w, rfl, rfl, rfl, .inr ⟨t, q, i, e, et, eq, ei, rfl⟩⟩)))), rfl, g⟩
theorem sim_work {s : Bst} (g : Gd s) : Sim K 5 s [] (Vaidxb.step s .work) := by
  unfold Vaidxb.step
  simp only []
  rcases on_serving s (fun t q i => [Vaidxb.int (VaidxBase.indexWork t i q).touched, Vaidxb.int (VaidxBase.indexWork t i q).looked, Vaidxb.int (VaidxBase.indexWork t i q).sorted, Vaidxb.int (VaidxBase.indexCost t i q)]) with ⟨z, e, h⟩ | ⟨t, q, i, e, et, eq, ei, sv, h⟩
  · rw [h]
    exact ⟨.error z, .inr (.inr (.inr (.inr (.inr (.inl ⟨rfl, s, g.w, rfl, rfl, rfl, .inl ⟨z, e, rfl⟩⟩))))), rfl, g⟩
  · rw [h]
    refine ⟨_, .inr (.inr (.inr (.inr (.inr (.inl ⟨rfl, s, g.w, rfl, rfl, rfl, .inr ⟨t, q, i, e, et, eq, ei, rfl⟩⟩))))), ?_, g⟩
    unfold ansWork
    rw [work_index (g.w.q t q et eq).nd]
    rfl
theorem sim_whole {s : Bst} (g : Gd s) : Sim K 6 s [] (Vaidxb.step s .whole) := by
  unfold Vaidxb.step
  simp only []
  rcases on_question s (fun t q => [Vaidxb.int (VaidxBase.wholeWork t q).touched, Vaidxb.int (VaidxBase.wholeWork t q).sorted, Vaidxb.int (VaidxBase.wholeCost t q)]) with ⟨z, e, h⟩ | ⟨t, q, e, et, eq, h⟩
  · rw [h]
    exact ⟨.error z, .inr (.inr (.inr (.inr (.inr (.inr (.inl ⟨rfl, s, g.w, rfl, rfl, rfl, .inl ⟨z, e, rfl⟩⟩)))))), rfl, g⟩
  · rw [h]
    refine ⟨_, .inr (.inr (.inr (.inr (.inr (.inr (.inl ⟨rfl, s, g.w, rfl, rfl, rfl, .inr ⟨t, q, e, et, eq, rfl⟩⟩)))))), ?_, g⟩
    unfold ansWhole
    rw [work_whole]
    rfl
theorem sim_best {s : Bst} (g : Gd s) : Sim K 7 s [] (Vaidxb.step s .best) := by
  unfold Vaidxb.step
  simp only []
  rcases on_index s (fun t q i => if (VaidxBase.serves i q && decide (VaidxBase.indexCost t i q < VaidxBase.wholeCost t q)) = true then [1, Vaidxb.int (VaidxBase.indexCost t i q), Vaidxb.int (VaidxBase.wholeCost t q)] else [0, Vaidxb.int (VaidxBase.wholeCost t q), if VaidxBase.serves i q = true then Vaidxb.int (VaidxBase.indexCost t i q) else -1]) with ⟨z, e, h⟩ | ⟨t, q, i, e, et, eq, ei, h⟩
  · rw [h]
    exact ⟨.error z, .inr (.inr (.inr (.inr (.inr (.inr (.inr (.inl ⟨rfl, s, g.w, rfl, rfl, rfl, .inl ⟨z, e, rfl⟩⟩))))))), rfl, g⟩
  · rw [h]
    refine ⟨_, .inr (.inr (.inr (.inr (.inr (.inr (.inr (.inl ⟨rfl, s, g.w, rfl, rfl, rfl, .inr ⟨t, q, i, e, et, eq, ei, rfl⟩⟩))))))), ?_, g⟩
    unfold ansBest
    rw [work_index (g.w.q t q et eq).nd, work_whole]
    simp only []
    by_cases sv : VaidxBase.serves i q = true
    · by_cases lt : VaidxBase.indexCost t i q < VaidxBase.wholeCost t q
      · rw [if_pos sv, if_pos lt, if_pos (by rw [sv, decide_eq_true lt]; rfl)]
        rfl
      · rw [if_pos sv, if_neg lt, if_neg (by rw [decide_eq_false lt, Bool.and_false]; exact fun z => nomatch z), if_pos sv]
        rfl
    · rw [if_neg sv, if_neg (by rw [Bool.and_eq_true]; exact fun z => sv z.1), if_neg sv]
      rfl
theorem sim_trace {s : Bst} (g : Gd s) (k : Int) : Sim K 8 s [k] (Vaidxb.step s (.trace k)) := by
  unfold Vaidxb.step
  simp only []
  rcases on_way g k (fun _ _ _ l => Vaidxb.int l.length :: l.flatMap Vaidxb.doneTold) with ⟨z, e, h⟩ | ⟨t, y, e, hg, h⟩
  · rw [h]
    exact ⟨.error z, .inr (.inr (.inr (.inr (.inr (.inr (.inr (.inr (.inl ⟨rfl, k, [], rfl, s, k, g.w, rfl, rfl, rfl, by rw [e]⟩)))))))), rfl, g⟩
  · rw [h]
    refine ⟨.ok (insD (ansTrace y)), .inr (.inr (.inr (.inr (.inr (.inr (.inr (.inr (.inl ⟨rfl, k, [], rfl, s, k, g.w, rfl, rfl, rfl, by rw [e]⟩)))))))), ?_, g⟩
    unfold ansTrace
    simp only [List.length_map, List.flatMap_map]
    rfl
theorem sim_answer {s : Bst} (g : Gd s) (k : Int) : Sim K 9 s [k] (Vaidxb.step s (.answer k)) := by
  unfold Vaidxb.step
  simp only []
  rcases on_way g k (fun t q free l => Vaidxb.int (Vaidxb.answerOf t q free l).length :: (Vaidxb.answerOf t q free l).flatMap fun x => [Vaidxb.int x.1, Vaidxb.int x.2]) with ⟨z, e, h⟩ | ⟨t, y, e, hg, h⟩
  · rw [h]
    exact ⟨.error z, .inr (.inr (.inr (.inr (.inr (.inr (.inr (.inr (.inr (.inl ⟨rfl, k, [], rfl, s, k, g.w, rfl, rfl, rfl, by rw [e]⟩))))))))), rfl, g⟩
  · rw [h]
    refine ⟨.ok (insD (ansAnswer y)), .inr (.inr (.inr (.inr (.inr (.inr (.inr (.inr (.inr (.inl ⟨rfl, k, [], rfl, s, k, g.w, rfl, rfl, rfl, by rw [e]⟩))))))))), ?_, g⟩
    unfold ansAnswer
    rw [← shares_answer hg]
    simp only [List.length_map, List.flatMap_map]
    rfl
theorem sim_rows {s : Bst} (g : Gd s) : Sim K 10 s [] (Vaidxb.step s .rows) := by
  unfold Vaidxb.step
  simp only []
  rcases on_serving s (fun t q i => if Vaidxb.ROWS < VaidxBase.rowsOf (VaidxBase.entries t i q) then [-4] else (let m := Vaidxb.indexMachine t i q; [Vaidxb.int m.work.touched, Vaidxb.int m.work.looked, Vaidxb.int m.work.sorted, Vaidxb.int m.hits.length] ++ m.hits.map Vaidxb.int)) with ⟨z, e, h⟩ | ⟨t, q, i, e, et, eq, ei, sv, h⟩
  · rw [h]
    exact ⟨.error z, .inr (.inr (.inr (.inr (.inr (.inr (.inr (.inr (.inr (.inr (.inl ⟨rfl, s, g.w, rfl, rfl, rfl, .inl ⟨z, e, rfl⟩⟩)))))))))), rfl, g⟩
  · rw [h]
    refine ⟨_, .inr (.inr (.inr (.inr (.inr (.inr (.inr (.inr (.inr (.inr (.inl ⟨rfl, s, g.w, rfl, rfl, rfl, .inr ⟨t, q, i, e, et, eq, ei, rfl⟩⟩)))))))))), ?_, g⟩
    rw [rows_entries]
    by_cases c : 300 < VaidxBase.rowsOf (VaidxBase.entries t i q)
    · have c2 : Vaidxb.ROWS < VaidxBase.rowsOf (VaidxBase.entries t i q) := c
      simp only [if_pos c, if_pos c2]
      rfl
    · have c2 : ¬ Vaidxb.ROWS < VaidxBase.rowsOf (VaidxBase.entries t i q) := c
      simp only [if_neg c, if_neg c2]
      rw [rows_eq2 (g.a t et) (g.w.q t q et eq).nd]
      rfl
theorem sim_prefixes {s : Bst} (g : Gd s) : Sim K 11 s [] (Vaidxb.step s .prefixes) := by
  unfold Vaidxb.step
  simp only []
  rcases on_serving s (fun t q i => let l := Vaidxb.prefixCosts t i q; Vaidxb.int l.length :: l.map Vaidxb.int) with ⟨z, e, h⟩ | ⟨t, q, i, e, et, eq, ei, sv, h⟩
  · rw [h]
    exact ⟨.error z, .inr (.inr (.inr (.inr (.inr (.inr (.inr (.inr (.inr (.inr (.inr ⟨rfl, s, g.w, rfl, rfl, rfl, .inl ⟨z, e, rfl⟩⟩)))))))))), rfl, g⟩
  · rw [h]
    refine ⟨_, .inr (.inr (.inr (.inr (.inr (.inr (.inr (.inr (.inr (.inr (.inr ⟨rfl, s, g.w, rfl, rfl, rfl, .inr ⟨t, q, i, e, et, eq, ei, rfl⟩⟩)))))))))), ?_, g⟩
    have nd := (g.w.q t q et eq).nd
    have e1 : ansPrefixes t q i = Vaidxb.int (Vaidxb.prefixCosts t i q).length :: (Vaidxb.prefixCosts t i q).map Vaidxb.int := by
      unfold ansPrefixes Vaidxb.prefixCosts
      rw [List.length_map, List.length_range, List.map_map]
      congr 1
      refine List.map_congr_left fun k _ => ?_
      show (((wayI t (Vaidxb.shorter i (k + 1)) q).work.cost : Nat) : Int) = _
      rw [work_index nd]
      rfl
    rw [e1]
    rfl
theorem sim {s : Bst} (g : Gd s) {c : Cal} (h : okC c) : Sim K c.1 s c.2 (VaidxbNeutral.step s (rawC c)) := by
  obtain ⟨k, l⟩ := c
  rcases h with h | ⟨h, h2⟩ | ⟨h, h2⟩
  · have h : k = 0 ∨ k = 1 ∨ k = 2 := h
    rcases h with rfl | rfl | rfl
    · exact sim_table g l
    · exact sim_question g l
    · exact sim_index g l
  · have h : k = 8 ∨ k = 9 := h
    have h2 : l.length = 1 := h2
    obtain ⟨x, rfl⟩ := List.length_eq_one_iff.mp h2
    rcases h with rfl | rfl
    · exact sim_trace g x
    · exact sim_answer g x
  · have h2 : l = [] := h2
    subst h2
    have h : 3 ≤ k ∧ k ≤ 7 ∨ k = 10 ∨ k = 11 := h
    have : k = 3 ∨ k = 4 ∨ k = 5 ∨ k = 6 ∨ k = 7 ∨ k = 10 ∨ k = 11 := by omega
    rcases this with rfl | rfl | rfl | rfl | rfl | rfl | rfl
    · exact sim_plan g
    · exact sim_why g
    · exact sim_work g
    · exact sim_whole g
    · exact sim_best g
    · exact sim_rows g
    · exact sim_prefixes g
/-! ### all calls -/
theorem runs_of : ∀ {cs : List Cal} {s : Bst}, Gd s → (∀ c ∈ cs, okC c) → Runs K s cs (PyFlat.played VaidxbNeutral.step s (cs.map rawC))
  | [], s, _, _ => .nil s
  | c :: cs, s, g, h => by
    obtain ⟨r, h1, h2, h3⟩ := sim (K := K) g (h c (List.mem_cons_self ..))
    exact .cons g.w h1 h2 (runs_of h3 fun x hx => h x (List.mem_cons_of_mem _ hx))
theorem gd_start : Gd Vaidxb.start := ⟨⟨(fun _ h => nomatch h), (fun _ _ h => nomatch h), (fun _ _ h => nomatch h)⟩, fun _ h => nomatch h⟩
theorem whole_raw {c : Cal} (h : okC c) : PyVaidxb.whole (rawC c) = rawC c := by
  obtain ⟨k, l⟩ := c
  rcases h with h | ⟨h, h2⟩ | ⟨h, h2⟩
  · have h : k = 0 ∨ k = 1 ∨ k = 2 := h
    rcases h with rfl | rfl | rfl <;> rfl
  · have h : k = 8 ∨ k = 9 := h
    have h2 : l.length = 1 := h2
    obtain ⟨x, rfl⟩ := List.length_eq_one_iff.mp h2
    rcases h with rfl | rfl <;> rfl
  · have h2 : l = [] := h2
    subst h2
    have h : 3 ≤ k ∧ k ≤ 7 ∨ k = 10 ∨ k = 11 := h
    have : k = 3 ∨ k = 4 ∨ k = 5 ∨ k = 6 ∨ k = 7 ∨ k = 10 ∨ k = 11 := by omega
    rcases this with rfl | rfl | rfl | rfl | rfl | rfl | rfl <;> rfl
theorem shape_cases (p : Int) : (PyVaidxb.shape p = some (0, 1) ∧ (p = 0 ∨ p = 1 ∨ p = 2)) ∨ (PyVaidxb.shape p = some (1, 0) ∧ (p = 8 ∨ p = 9)) ∨ (PyVaidxb.shape p = some (0, 0) ∧ (3 ≤ p ∧ p ≤ 7 ∨ p = 10 ∨ p = 11)) ∨ PyVaidxb.shape p = none := by
  by_cases h : 0 ≤ p ∧ p ≤ 11
  · have : p = 0 ∨ p = 1 ∨ p = 2 ∨ p = 3 ∨ p = 4 ∨ p = 5 ∨ p = 6 ∨ p = 7 ∨ p = 8 ∨ p = 9 ∨ p = 10 ∨ p = 11 := by omega
    rcases this with rfl | rfl | rfl | rfl | rfl | rfl | rfl | rfl | rfl | rfl | rfl | rfl <;> decide
  · refine .inr (.inr (.inr ?_))
    unfold PyVaidxb.shape
    repeat rw [if_neg (by omega)]
theorem call_flat {p : Int} {r : List Int} {c : List (List Int)} {t : List Int} (h : PyFlat.call PyVaidxb.shape (p :: r) = some (c, t)) : ∃ d : Cal, okC d ∧ c = rawC d ∧ p :: r = flat1 d ++ t := by
  rcases shape_cases p with ⟨e, hp⟩ | ⟨e, hp⟩ | ⟨e, hp⟩ | e
  · simp only [PyFlat.call, e] at h
    rw [if_neg (by omega)] at h
    cases r with
    | nil => cases h
    | cons n r =>
      simp only [List.drop_zero, List.take_zero, PyFlat.rows, PyFlat.row] at h
      by_cases c : 0 ≤ n ∧ n.toNat ≤ r.length
      · simp only [if_pos c] at h
        cases h
        refine ⟨(p, r.take n.toNat), .inl hp, ?_, ?_⟩
        · unfold rawC
          rw [if_pos hp]
        · unfold flat1
          rw [if_pos hp, List.length_take, Nat.min_eq_left c.2, Int.toNat_of_nonneg c.1]
          simp
      · simp only [if_neg c] at h
        cases h
  · simp only [PyFlat.call, e] at h
    cases r with
    | nil => simp at h
    | cons n r =>
      rw [if_neg (by simp)] at h
      simp only [PyFlat.rows] at h
      cases h
      refine ⟨(p, [n]), .inr (.inl ⟨hp, rfl⟩), ?_, ?_⟩
      · unfold rawC
        rw [if_neg (by simp only []; omega)]
        rfl
      · unfold flat1
        rw [if_neg (by simp only []; omega)]
        rfl
  · simp only [PyFlat.call, e, PyFlat.rows] at h
    rw [if_neg (by omega)] at h
    cases h
    refine ⟨(p, []), .inr (.inr ⟨hp, rfl⟩), ?_, ?_⟩
    · unfold rawC
      rw [if_neg (by simp only []; omega)]
      rfl
    · unfold flat1
      rw [if_neg (by simp only []; omega)]
      rfl
  · simp only [PyFlat.call, e] at h
    cases h
theorem calls_flat : ∀ (f : Nat) (l : List Int) (raw : List (List (List Int))), PyFlat.calls PyVaidxb.shape f l = some raw → ∃ cs : List Cal, (∀ c ∈ cs, okC c) ∧ raw = cs.map rawC ∧ l = cs.flatMap flat1
  | f, [], raw, h => by
    have h : some [] = some raw := by cases f <;> exact h
    cases h
    exact ⟨[], (fun _ h => nomatch h), rfl, rfl⟩
  | 0, p :: r, raw, h => by cases h
  | f + 1, p :: r, raw, h => by
    rw [PyFlat.calls] at h
    split at h
    · cases h
    · rename_i c t e
      split at h
      · cases h
      · rename_i cs e2
        cases h
        obtain ⟨d, h1, rfl, h3⟩ := call_flat e
        obtain ⟨ds, g1, rfl, g3⟩ := calls_flat f t cs e2
        refine ⟨d :: ds, fun x hx => ?_, rfl, ?_⟩
        · rcases List.mem_cons.mp hx with rfl | hx
          · exact h1
          · exact g1 x hx
        · rw [h3, g3, List.flatMap_cons]
/-- what is asked is played -/
theorem asked_runs {l : List Int} (h : PyVaidxb.answers_asked l = true) : ∃ (cs : List Cal) (rs : List (List Int)), (∀ c ∈ cs, okC c) ∧ cs.length ≤ 1000 ∧ l = cs.flatMap flat1 ∧ Runs K Vaidxb.start cs rs ∧ (PyFlat.told rs).length ≤ 10000000 ∧ PyFlat.told rs = PyVaidxb.answers l := by
  unfold PyVaidxb.answers_asked at h
  cases e : PyFlat.calls PyVaidxb.shape l.length l with
  | none => rw [e] at h; cases h
  | some raw =>
    rw [e] at h
    simp only [Bool.and_eq_true] at h
    obtain ⟨⟨⟨⟨_, h2⟩, _⟩, _⟩, h5⟩ := h
    obtain ⟨cs, g1, g2, g3⟩ := calls_flat _ _ _ e
    have h2 : raw.length ≤ 80 := of_decide_eq_true h2
    have h5 : (PyVaidxb.answers l).length ≤ 10000000 := of_decide_eq_true h5
    have ew : raw.map PyVaidxb.whole = cs.map rawC := by
      rw [g2, List.map_map]
      exact List.map_congr_left fun c hc => whole_raw (g1 c hc)
    have ea : PyFlat.told (PyFlat.played VaidxbNeutral.step Vaidxb.start (cs.map rawC)) = PyVaidxb.answers l := by
      unfold PyVaidxb.answers PyVaidxb.calls
      rw [e]
      simp only [ew]
      rfl
    refine ⟨cs, _, g1, ?_, g3, runs_of gd_start g1, by rw [ea]; exact h5, ea⟩
    rw [g2, List.length_map] at h2
    omega
end One
set_option maxHeartbeats 0
namespace One
open PySem PySem.Spec PyProof.Rows L2
/-! ### what is looked at behind the top -/
/-- what the names reach, and where the statics lie -/
def reach : List Addr := [3, 6, 4, 31, 52, 63, 68, 85, 96, 103, 108, 113, 130, 141, 148, 165, 174, 191, 233, 242, 279, 321, 330, 337, 344, 351, 358, 365, 372, 379, 384, 389, 406, 426, 445, 464, 483, 502, 521, 540, 573, 582, 589, 596, 603, 608, 615, 622, 660, 671, 678, 685, 831, 845, 855, 862, 869, 876, 0, 30, 51, 62, 67, 84, 95, 102, 107, 112, 129, 140, 147, 164, 173, 190, 232, 241, 278, 320, 329, 336, 343, 350, 357, 364, 371, 378, 383, 388, 405, 425, 444, 463, 482, 501, 520, 539, 572, 581, 588, 595, 602, 607, 614, 621, 659, 670, 677, 684, 830, 844, 854, 861, 868, 875, 28, 29, 32, 33, 49, 50, 53, 54, 57, 58, 59, 60, 61, 64, 65, 66, 82, 83, 86, 87, 90, 91, 92, 93, 94, 97, 98, 99, 100, 101, 104, 105, 106, 109, 110, 111, 127, 128, 131, 132, 135, 136, 137, 138, 139, 142, 143, 144, 145, 146, 162, 163, 166, 167, 170, 171, 172, 188, 189, 192, 193, 209, 216, 223, 230, 231, 234, 235, 238, 239, 240, 256, 261, 266, 271, 276, 277, 280, 281, 297, 304, 311, 318, 319, 322, 323, 326, 327, 328, 331, 332, 333, 334, 335, 338, 339, 340, 341, 342, 345, 346, 347, 348, 349, 352, 353, 354, 355, 356, 359, 360, 361, 362, 363, 366, 367, 368, 369, 370, 373, 374, 375, 376, 377, 380, 381, 382, 385, 386, 387, 403, 404, 407, 423, 424, 442, 443, 461, 462, 480, 481, 499, 500, 518, 519, 537, 538, 556, 563, 570, 571, 574, 575, 578, 579, 580, 583, 584, 585, 586, 587, 590, 591, 592, 593, 594, 597, 598, 599, 600, 601, 604, 605, 606, 609, 610, 611, 612, 613, 616, 617, 618, 619, 620, 636, 643, 650, 657, 658, 661, 662, 665, 666, 667, 668, 669, 672, 673, 674, 675, 676, 679, 680, 681, 682, 683, 699, 706, 711, 718, 725, 732, 739, 746, 753, 760, 767, 772, 779, 786, 793, 800, 807, 814, 821, 828, 829, 832, 833, 843, 846, 849, 850, 851, 852, 853, 856, 857, 858, 859, 860, 863, 864, 865, 866, 867, 870, 871, 872, 873, 874, 27, 48, 81, 126, 161, 187, 208, 215, 222, 229, 255, 260, 265, 270, 275, 296, 303, 310, 317, 402, 422, 441, 460, 479, 498, 517, 536, 555, 562, 569, 635, 642, 649, 656, 698, 705, 710, 717, 724, 731, 738, 745, 752, 759, 766, 771, 778, 785, 792, 799, 806, 813, 820, 827, 22, 23, 24, 25, 26, 43, 44, 45, 46, 47, 76, 77, 78, 79, 80, 121, 122, 123, 124, 125, 156, 157, 158, 159, 160, 182, 183, 184, 185, 186, 203, 204, 205, 206, 207, 210, 211, 212, 213, 214, 217, 218, 219, 220, 221, 224, 225, 226, 227, 228, 250, 251, 252, 253, 254, 257, 258, 259, 262, 263, 264, 267, 268, 269, 272, 273, 274, 291, 292, 293, 294, 295, 298, 299, 300, 301, 302, 305, 306, 307, 308, 309, 312, 313, 314, 315, 316, 397, 398, 399, 400, 401, 417, 418, 419, 420, 421, 436, 437, 438, 439, 440, 455, 456, 457, 458, 459, 474, 475, 476, 477, 478, 493, 494, 495, 496, 497, 512, 513, 514, 515, 516, 531, 532, 533, 534, 535, 550, 551, 552, 553, 554, 557, 558, 559, 560, 561, 564, 565, 566, 567, 568, 630, 631, 632, 633, 634, 637, 638, 639, 640, 641, 644, 645, 646, 647, 648, 651, 652, 653, 654, 655, 693, 694, 695, 696, 697, 700, 701, 702, 703, 704, 707, 708, 709, 712, 713, 714, 715, 716, 719, 720, 721, 722, 723, 726, 727, 728, 729, 730, 733, 734, 735, 736, 737, 740, 741, 742, 743, 744, 747, 748, 749, 750, 751, 754, 755, 756, 757, 758, 761, 762, 763, 764, 765, 768, 769, 770, 773, 774, 775, 776, 777, 780, 781, 782, 783, 784, 787, 788, 789, 790, 791, 794, 795, 796, 797, 798, 801, 802, 803, 804, 805, 808, 809, 810, 811, 812, 815, 816, 817, 818, 819, 822, 823, 824, 825, 826, 2]
def partY (g : Addr → Option Obj) : PySem.W.Frag := He.frT g reach
abbrev AlY : Type := (Bool × Bool) × (List He.FnW × (Bool × Bool))
def obsY (g : Addr → Option Obj) : AlY := ((fa.all fun f => f.ok (partY g), fn.all fun d => d.ok (partY g)), (fn.map fun d => He.fnW (partY g) d.at_, (more (partY g), He.tabsB g tf (partY g))))
def valY : AlY := ((true, true), (fn.map He.DefD.val, (true, true)))
structure SaysY (h : Heap) (K : PySem.W.Frag) : Prop where
  d : He.SaysD fa fn K
  more : more K = true
  hd : ∀ p ∈ tf, PySem.W.codeHdIn K (He.cT K p).1 (He.cT K p).2 = true
  out : ∀ p ∈ tf, K.lookup (He.cT K p).2 = none
  empty : ∀ p ∈ tf, h.get? (He.cT K p).2 = some { cls := .none, data := .fields #[] }
theorem tab_of {g : Addr → Option Obj} {K : PySem.W.Frag} (h : He.tabsB g tf K = true) {p : He.Defn} (hp : p ∈ tf) : PySem.W.codeHdIn K (He.cT K p).1 (He.cT K p).2 = true ∧ ∃ o, g (He.cT K p).2 = some o ∧ He.emptyTab o = true := by
  have h1 := (Bool.and_eq_true _ _).mp (List.all_eq_true.mp h p hp)
  refine ⟨h1.1, ?_⟩
  have h2 := h1.2
  split at h2
  · exact ⟨_, by assumption, h2⟩
  · cases h2
theorem saysY_of {h : Heap} (e : obsY h.get? = valY) : SaysY h (partY h.get?) := by
  have e1 : fa.all (fun f => f.ok (partY h.get?)) = true := congrArg (fun z : AlY => z.1.1) e
  have e2 : fn.all (fun d => d.ok (partY h.get?)) = true := congrArg (fun z : AlY => z.1.2) e
  have e3 : fn.map (fun d => He.fnW (partY h.get?) d.at_) = fn.map He.DefD.val := congrArg (fun z : AlY => z.2.1) e
  have e4 : One.more (partY h.get?) = true := congrArg (fun z : AlY => z.2.2.1) e
  have e5 : He.tabsB h.get? tf (partY h.get?) = true := congrArg (fun z : AlY => z.2.2.2) e
  refine ⟨?_, e4, fun p hp => (tab_of e5 hp).1, fun p hp => ?_, fun p hp => ?_⟩
  · unfold He.SaysD He.obsD He.valD
    rw [e1, e2, e3]
    rfl
  · obtain ⟨_, o, ho, z⟩ := tab_of e5 hp
    exact He.frT_none ho z
  · obtain ⟨_, o, ho, z⟩ := tab_of e5 hp
    rw [ho, He.emptyTab_eq z]
def hkY : PySem.W.Hook where
  α := AlY
  obs := fun s => obsY s.heap.get?
  val := fun _ => valY
  says := fun _ h => ∃ K : PySem.W.Frag, K.In h ∧ SaysY h K
  of := fun _ _ e => ⟨_, He.frT_in, saysY_of e⟩
  keeps := fun _ _ _ ⟨K, hK, c⟩ k => ⟨K, PySem.W.Frag.In.keeps hK k, c.d, c.more, c.hd, c.out, fun p hp => k _ _ (c.empty p hp)⟩
def obY (s : PySem.W.SharedT) : AlY := obsY (HeadRun.getT s)
theorem obY_eq (s : PySem.W.SharedT) : obY s = hkY.obs s.abs := by
  have e : HeadRun.getT s = s.abs.heap.get? := funext (HeadRun.getT_eq s)
  unfold obY
  rw [e]
  rfl
/-- the end of the top -/
noncomputable def endAt (w : World) (os : OsState) : Option PySem.W.SharedT := HeadRun.endF (HeadRun.stepQ (HeadRun.denQ HeadRun.tabQ) R.prog w) 8000 R.prog w os
end One
set_option maxHeartbeats 4000000
namespace One
open PySem PySem.Spec PyProof.Rows L2 NdefX Dl
/-! ### the call, at a heap with empty tables -/
section
variable {w : World} {K : PySem.W.Frag} {mg mb : Str → Option Value} {s₁ : Shared} {A tb : List Addr}
/-- at the call: the arguments frozen, the tables empty -/
def entryH (K : PySem.W.Frag) (h : Heap) (A tb : List Addr) : Hp := fun b => if b ∈ tb then some (.tbl #[]) else argH K h A b
theorem entry_tab {h : Heap} {b : Addr} (hb : b ∈ tb) : entryH K h A tb b = some (.tbl #[]) := if_pos hb
theorem entry_none {h : Heap} {b : Addr} (ar : ∀ a ∈ A, ArgOb h A a) (hT : ∀ b ∈ tb, h.get? b = some { cls := .none, data := .fields #[] }) {o : Obj} (e : h.get? b = some o) (n1 : ∀ xs n, o.data ≠ .seq xs n) (n2 : o.data ≠ .fields #[]) : entryH K h A tb b = none := by
  cases q : entryH K h A tb b with
  | none => rfl
  | some u =>
    unfold entryH at q
    split at q
    · rename_i hb
      rw [hT b hb] at e
      cases e
      exact absurd rfl n2
    · obtain ⟨_, xs, _, _, ⟨e2, _⟩ | ⟨e2, _⟩⟩ := argH_is ar q
      · rw [e2] at e
        cases e
        exact absurd rfl (n1 _ _)
      · rw [e2] at e
        cases e
        exact absurd rfl (n1 _ _)
theorem entry_arg {h : Heap} {b : Addr} {u : HO} (ar : ∀ a ∈ A, ArgOb h A a) (hT : ∀ b ∈ tb, h.get? b = some { cls := .none, data := .fields #[] }) (q : argH K h A b = some u) : entryH K h A tb b = some u := by
  unfold entryH
  rw [if_neg]
  · exact q
  · intro hb
    have e := hT b hb
    obtain ⟨_, xs, _, _, ⟨e2, _⟩ | ⟨e2, _⟩⟩ := argH_is ar q
    · rw [e2] at e; cases e
    · rw [e2] at e; cases e
theorem entry_ok {P : Program} {h : Heap} (ar : ∀ a ∈ A, ArgOb h A a) (hT : ∀ b ∈ tb, h.get? b = some { cls := .none, data := .fields #[] }) : HOk P w (entryH K h A tb) h := by
  intro b u q
  by_cases hb : b ∈ tb
  · rw [entry_tab hb] at q
    cases q
    exact hT b hb
  · have q2 : argH K h A b = some u := (if_neg hb).symm.trans q
    exact (argH_ok ar b u q2).stay (fun _ _ _ e => e) (fun c z => entry_arg ar hT z) (fun c xs z => entry_arg ar hT z)
theorem call_end {k : Nat} {f : Addr} {x : Str} {sp : Sp} {vals : List Value} {ns : List Int} {Rc : PySem.W.WRecords} {cl : Str → Option Addr} {d0 : PySem.W.WData}
    (KX : K.In s₁.heap) (hns : s₁.heap.Ns mainGlobals mg) (hb : s₁.heap.Ns builtinsNs mb) (hbb : ∀ x : Str, x ≠ "__name__" → mb x = bootBuiltins x) (hlim : s₁.heap.NoLimit) (hg : s₁.gens = #[])
    (Y : SaysY s₁.heap K) (hbm : ∃ (bm : Addr) (ob : Obj), mg "__builtins__" = some (.ref bm) ∧ bm ≠ builtinsNs ∧ s₁.heap.get? bm = some ob ∧ ob.cls = .type "module" ∧ ob.dict = some builtinsNs ∧ ob.data = .plain)
    (hwl : PySem.W.WellAll w.params s₁.heap vals [.list (ns.map PySem.W.WData.int)]) (hwt : (PySem.W.WData.list (ns.map PySem.W.WData.int)).weight ≤ 1048576) (hpl : plWs [.list (ns.map PySem.W.WData.int)] = true) (hr : Room k callerA)
    (F : ∀ base : Heap, K.In base → base.Ns mainGlobals mg → Tabs2 K base mg → ∃ fd, FnOk R.prog w K mg base CX0 k f fd [x] sp ∧ Binds K fd [x] [])
    (hsp : ∀ (H : Hp) (a : Addr), (∀ p ∈ tf, H (He.cT K p).2 = some (.tbl #[])) → SqL K H a (ns.map V.int) → sp [.ref a] H (fun v H' => Dw K H' v d0) fun _ _ _ => False) :
    codeAny (model R.prog w) callerA (.call (.ref f) ⟨vals, []⟩) (fun r s' => ∃ u as, r = .ok (.ret u) ∧ PySem.W.ReadsW Rc cl s'.heap u d0 as ∧ OldK s₁.heap s'.heap ∧ s'.os = s₁.os ∧ AllBare s'.gens) s₁ := by
  obtain ⟨A, ho, ar⟩ := area_all _ vals hwl hpl (fun d hd => by rw [List.mem_singleton.mp hd]; exact hwt)
  have hS := dw_all KX ar _ vals hwl hpl ho
  have hV := vals_toV ho
  let tb : List Addr := tf.map fun p => (He.cT K p).2
  have hT : ∀ b ∈ tb, s₁.heap.get? b = some { cls := .none, data := .fields #[] } := fun b hb => by
    obtain ⟨p, hp, rfl⟩ := List.mem_map.mp hb
    exact Y.empty p hp
  have nT : ∀ b ∈ tb, K.lookup b = none := fun b hb => by
    obtain ⟨p, hp, rfl⟩ := List.mem_map.mp hb
    exact Y.out p hp
  have inT : ∀ p ∈ tf, (He.cT K p).2 ∈ tb := fun p hp => List.mem_map.mpr ⟨p, hp, rfl⟩
  have hok : HOk R.prog w (entryH K s₁.heap A tb) s₁.heap := entry_ok ar hT
  have out : ∀ {b : Addr} {o : Obj}, s₁.heap.get? b = some o → (∀ xs n, o.data ≠ .seq xs n) → o.data ≠ .fields #[] → entryH K s₁.heap A tb b = none := fun e n1 n2 => entry_none ar hT e n1 n2
  -- the script
  obtain ⟨a, ea, sq⟩ : ∃ a, vals.map toV = [V.ref a] ∧ SqL K (entryH K s₁.heap A tb) a (ns.map V.int) := by
    generalize vals.map toV = xs at hS
    cases hS with
    | cons h1 h2 =>
      cases h2
      cases h1 with
      | @lst a ys _ sq all =>
        obtain rfl := ints_dw ns ys all
        exact ⟨a, rfl, (show Same (argH K s₁.heap A) (entryH K s₁.heap A tb) from fun b u z => entry_arg ar hT z).seq sq⟩
  -- the module as it stands behind what is tracked
  generalize eH : entryH K s₁.heap A tb = H at hok out sq
  have isH : ∀ {b : Addr} {u : HO}, H b = some u → (b ∈ tb ∧ u = .tbl #[]) ∨ ∃ o v, u = .frz o v := fun {b u} z => by
    rw [← eH] at z
    unfold entryH at z
    split at z
    · exact .inl ⟨by assumption, (Option.some.inj z).symm⟩
    · obtain ⟨_, _, _, _, ⟨_, e⟩ | ⟨_, e⟩⟩ := argH_is ar z
      · exact .inr ⟨_, _, e⟩
      · exact .inr ⟨_, _, e⟩
  have tabH : ∀ b ∈ tb, H b = some (.tbl #[]) := fun b hb => by rw [← eH]; exact entry_tab hb
  have nsH : ∀ {b : Addr} {m : Str → Option Value}, s₁.heap.Ns b m → (hidT s₁.heap H).Ns b m := fun {b m} ⟨o, es, n, e, d, r⟩ => ⟨o, es, n, hidT_get e (out e (fun xs k z => by rw [d] at z; cases z) fun z => by rw [d] at z; cases z), d, r⟩
  have KB : K.In (hidT s₁.heap H) := fun b o e => hidT_get (KX b o e) (by
    cases z : H b with
    | none => rfl
    | some u =>
      rw [← eH] at z
      unfold entryH at z
      split at z
      · rename_i hb
        rw [nT b hb] at e
        cases e
      · rw [(argH_is ar z).1] at e
        cases e)
  have TB : Tabs2 K (hidT s₁.heap H) mg := fun p hp => by
    have t0 := hT _ (inT p hp)
    refine ⟨PySem.W.codeHd_of_K KB (Y.hd p hp), ?_, fun z => ?_⟩
    · obtain ⟨bm, ob, b1, b2, b3, b4, b5, b6⟩ := hbm
      refine ⟨bm, ob, b1, b2, fun z => ?_, fun z => ?_, hidT_get b3 (out b3 (fun xs k z => by rw [b6] at z; cases z) fun z => by rw [b6] at z; cases z), b4, b5, b6⟩
      · obtain ⟨o, es, n, e, d, _⟩ := hns
        rw [← z, b3] at e
        cases e
        rw [b6] at d
        cases d
      · rw [z, t0] at b3
        cases b3
        cases b6
    · obtain ⟨o, es, n, e, d, _⟩ := hns
      rw [z, t0] at e
      cases e
      cases d
  have E0 : Env0 R.prog w K mg (hidT s₁.heap H) callerA [] s₁ H := {
    frames := rfl
    mod := ⟨KB, nsH hns, ⟨mb, nsH hb, hbb⟩, hlim.elim fun mc h => ⟨mc, nsH h.1, h.2⟩⟩
    bs := fun b o e => of_hidT e
    bsz := Nat.le_of_eq (hidT_size _ _)
    funs := trivial
    frf := fun b hb => nomatch hb
    hok := hok
    bare := .of_eq hg }
  have one : vals.length = 1 := by rw [wellAll_len hwl]; rfl
  rw [ea] at hV
  obtain ⟨fd, hF, hB⟩ := F _ KB (nsH hns) TB
  have bind := hB s₁ vals KX (by rw [List.append_nil]; exact one)
  rw [List.append_nil] at bind
  refine codeAny_mono (hF.run callerA [] s₁ H ⟨vals, []⟩ vals [V.ref a] _ _ hr E0 bind hV (hsp H a (fun p hp => tabH _ (inT p hp)) sq)) fun r s' z => ?_
  rcases r with e | fl
  · exact z.elim
  cases fl with
  | next => exact z.elim
  | brk => exact z.elim
  | cont => exact z.elim
  | ret u =>
    obtain ⟨v, H', os, bare, un, hok', rv, q⟩ := z
    have kept : ∀ b o, b ∉ tb → s₁.heap.get? b = some o → s'.heap.get? b = some o := fun b o nb e => by
      cases z : H b with
      | none => exact un.keep b o e z (fun y => nomatch y) (fun y => nomatch y)
      | some u2 =>
        rcases isH z with ⟨hb, _⟩ | ⟨ob, v2, rfl⟩
        · exact absurd hb nb
        · have e1 := (hok b _ z).1
          have e2 := (hok' b _ (un.frzs b ob _ z)).1
          rw [e1] at e
          rw [← e]
          exact e2
    have grown : ∀ b ∈ tb, ∃ more : Array Value, s'.heap.get? b = some { cls := .none, data := .fields more } := fun b hb => (un.tbls b #[] (tabH b hb)).elim fun more z => ⟨_, hok' b _ z⟩
    have KX' : K.In s'.heap := fun b o e => kept b o (fun hb => by rw [nT b hb] at e; cases e) (KX b o e)
    obtain ⟨as, rd⟩ := Dw.reads (R := Rc) (cl := cl) hok' KX' d0 v u q rv
    refine ⟨u, as, rfl, rd, ⟨fun b o e => ?_, fun b o e => ?_⟩, os, bare⟩
    · by_cases hb : b ∈ tb
      · obtain ⟨more, hm⟩ := grown b hb
        have e2 := hT b hb
        rw [e] at e2
        obtain rfl := Option.some.inj e2
        obtain ⟨p, hp, rfl⟩ := List.mem_map.mp hb
        refine .inr (.inl ⟨((PySem.W.codeHd_of_K KX (Y.hd p hp)).tab (hT _ hb)).isCodeTable, rfl, #[], more, rfl, ?_⟩)
        rw [Array.empty_append]
        exact hm
      · exact .inl (kept b o hb e)
    · by_cases hb : b ∈ tb
      · exact (grown b hb).elim fun more hm => ⟨_, hm⟩
      · exact ⟨o, kept b o hb e⟩
end
end One
set_option maxHeartbeats 0
namespace One
open PySem PySem.W PySem.Spec PySem.Calls PyProof.Rows L2
/-! ### the run, looked at in parts -/
theorem seen_top (w : World) (os : OsState) : (endAt w os).map (fun s => (HeadRun.looksF R.prog (boot_heap w.params) s.abs, HeadRun.seenQ qv names (importedModules R.prog.main.body) (fun s => xlAt qv [] s && recOk [] s) s.abs)) = some (true, openGood qv names) := by
  kernel_rfl
theorem seen_facts (w : World) (os : OsState) : (endAt w os).map (fun s => ((fa.all fun f => f.ok (partY (HeadRun.getT s))), (more (partY (HeadRun.getT s)), He.tabsB (HeadRun.getT s) tf (partY (HeadRun.getT s))))) = some (true, (true, true)) := by
  kernel_rfl
theorem seen_defs (w : World) (os : OsState) : (endAt w os).map (fun s => ((fn.all fun d => d.ok (partY (HeadRun.getT s))), fn.map fun d => He.fnW (partY (HeadRun.getT s)) d.at_)) = some (true, fn.map He.DefD.val) := by
  kernel_rfl
theorem runs_all (w : World) : HeadRun.RunEqS R qv hkY obY 8000 names w := by
  intro os
  have h1 := seen_top w os
  have h2 := seen_facts w os
  have h3 := seen_defs w os
  show (endAt w os).map _ = _
  cases e : endAt w os with
  | none => rw [e] at h1; cases h1
  | some s =>
    rw [e] at h1 h2 h3
    have h1 := Option.some.inj h1
    have h2 := Option.some.inj h2
    have h3 := Option.some.inj h3
    have a1 := congrArg (fun z : Bool × _ => z.1) h1
    have a2 := congrArg (fun z : Bool × _ => z.2) h1
    have b1 := congrArg (fun z : Bool × (Bool × Bool) => z.1) h2
    have b2 := congrArg (fun z : Bool × (Bool × Bool) => z.2.1) h2
    have b3 := congrArg (fun z : Bool × (Bool × Bool) => z.2.2) h2
    have c1 := congrArg (fun z : Bool × List He.FnW => z.1) h3
    have c2 := congrArg (fun z : Bool × List He.FnW => z.2) h3
    have o : obY s = valY := by
      show ((fa.all fun f => f.ok (partY (HeadRun.getT s)), fn.all fun d => d.ok (partY (HeadRun.getT s))), (fn.map fun d => He.fnW (partY (HeadRun.getT s)) d.at_, (more (partY (HeadRun.getT s)), He.tabsB (HeadRun.getT s) tf (partY (HeadRun.getT s))))) = valY
      have b1 : (fa.all fun f => f.ok (partY (HeadRun.getT s))) = true := b1
      have b2 : more (partY (HeadRun.getT s)) = true := b2
      have b3 : He.tabsB (HeadRun.getT s) tf (partY (HeadRun.getT s)) = true := b3
      have c1 : (fn.all fun d => d.ok (partY (HeadRun.getT s))) = true := c1
      have c2 : (fn.map fun d => He.fnW (partY (HeadRun.getT s)) d.at_) = fn.map He.DefD.val := c2
      rw [b1, b2, b3, c1, c2]
      rfl
    have a1 : HeadRun.looksF R.prog (boot_heap w.params) s.abs = true := a1
    have a2 : HeadRun.seenQ qv names (importedModules R.prog.main.body) (fun s => xlAt qv [] s && recOk [] s) s.abs = openGood qv names := a2
    show some (_, (_, obY s)) = some _
    rw [a1, a2, o]
    rfl
end One
set_option maxHeartbeats 4000000
namespace One
open PySem PySem.Spec PyProof.Rows L2 NdefX Dl
/-! ### the row -/
theorem answers_sp {K : PySem.W.Frag} {H : Hp} {a : Addr} {l : List Int} (hT : ∀ p ∈ tf, H (He.cT K p).2 = some (.tbl #[])) (hs : SqL K H a (l.map V.int)) (ask : PyVaidxb.answers_asked l = true) :
    sp_answers K (TTT K) [.ref a] H (fun v H' => Dw K H' v (.list ((PyVaidxb.answers l).map PySem.W.WData.int))) fun _ _ _ => False := by
  obtain ⟨cs, rs, h1, h2, h3, h4, h5, h6⟩ := asked_runs (K := K) ask
  let G : Hp := fun b => match H b with
    | some (.tbl _) => none
    | u => u
  have up : ∀ {b : Addr} {u : HO}, H b = some u → (∀ ps, u ≠ .tbl ps) → G b = some u := fun {b u} e n => by
    show (match H b with
      | some (.tbl _) => none
      | u => u) = some u
    rw [e]
    cases u <;> first | rfl | exact absurd rfl (n _)
  have dn : ∀ {b : Addr} {u : HO}, G b = some u → H b = some u ∧ ∀ ps, u ≠ .tbl ps := fun {b u} e => by
    have e : (match H b with
      | some (.tbl _) => none
      | u => u) = some u := e
    split at e
    · cases e
    · rename_i u2 n
      exact ⟨e, fun ps z => by subst z; exact n ps e⟩
  have sg : SqL K G a (l.map V.int) := by
    rcases hs with (z | ⟨o, z⟩) | z
    · exact .inl (.inl (up z fun _ y => nomatch y))
    · exact .inl (.inr ⟨o, up z fun _ y => nomatch y⟩)
    · exact .inr z
  refine ⟨G, [sqI l], insD (PyFlat.told rs), ⟨cs, l, rs, rfl, h1, h2, h3, h4, h5, rfl⟩, ⟨fun b u z => (dn z).1, fun b ps z => (dn z).2 ps rfl, fun p hp => ?_⟩, .cons (.sq sg (.of_ints l)) .nil, fun v G' H' ev rv => ?_⟩
  · obtain ⟨q, hq, rfl⟩ := List.mem_map.mp hp
    refine TabN.nil ?_
    rcases List.mem_cons.mp hq with rfl | hq
    · exact hT pS (List.mem_cons_self ..)
    · rcases List.mem_cons.mp hq with rfl | hq
      · exact hT pG (List.mem_cons_of_mem _ (List.mem_cons_self ..))
      · cases hq
  · rw [h6] at rv
    cases rv with
    | lst g r =>
      obtain rfl := Rps.ints _ r
      exact .lst (.inl (.inl (ev.gh _ _ g))) (dw_ints _)
theorem row_call {d : DefRec} (hd : d.name = "answers") : PySem.W.WalkOS qv names (PySem.W.XL qv []) hkY.says R d [] fun f vs => PySem.call f vs := by
  intro w s0 s1 mg mb gr Y f o pm cd doc dv kv _ _ _ _ hmg hg args vals as hpre hlay _ hwl _
  obtain ⟨x, dec, ask⟩ := PySem.W.os_pre_some hpre
  obtain ⟨rfl, hin⟩ := PySem.W.Codec.encAll_of_decAll R.args args x dec
  obtain ⟨K, KX, SY⟩ := Y
  have T : Txt K mg := ⟨⟨w, s1.heap, KX, gr.T.g, SY.d⟩, SY.more⟩
  have ef : f = He.ga K "answers" := by
    have e := T.glo_answers
    rw [hd] at hmg
    rw [hmg] at e
    exact Value.ref.inj (Option.some.inj e)
  subst ef
  have lw := layable_weight hlay
  have wt : (PySem.W.WData.list (x.1.map PySem.W.WData.int)).weight ≤ 1048576 := lw _ (List.mem_singleton.mpr rfl)
  refine PySem.W.enter_call (codeAny_mono (call_end (k := 14) (x := "calls") (ns := x.1) (Rc := []) (cl := classAt s0.heap) (sp := sp_answers K (TTT K)) (d0 := .list ((PyVaidxb.answers x.1).map PySem.W.WData.int)) KX gr.T.g gr.T.b gr.T.builtins gr.T.nolimit hg SY gr.T.bmain hwl wt (pl_encAll R.args x) ⟨rfl, by decide, by decide⟩
    (fun base hK hN hTb => (ok_answers (P := R.prog) (w := w) (base := base) (TT := TTT K) T hTb rfl).ex) (fun H a hT hs => answers_sp hT hs ask)) fun r s2 hq => ?_)
  obtain ⟨u, bs, rfl, q1, q2, q3, q4⟩ := hq
  have well : R.wellSaid = true := by decide +kernel
  exact ⟨.inl ⟨u, _, bs, rfl, fun _ => rfl, q1, (PySem.W.OpenSpec.post_iff well hin _ _).mpr rfl, fun z => nomatch z⟩, q2, q3, q4⟩
end One
set_option maxHeartbeats 0
open PySem PySem.W PySem.Calls PyProof.Rows
theorem PySem.Challenge.cw_oneindex_s01_answers_holds : PySem.Challenge.rw_oneindex_s01_answers.Holds := by
  w_on
  refine HeadRun.head_spec (r := PySem.Challenge.rw_oneindex_s01_answers) (q := One.qv) (H := One.hkY) (ob := One.obY) (M := 8000) (loose := One.names) (d := HeadRun.topDef PySem.Challenge.rw_oneindex_s01_answers.prog 86) (kwd := []) One.obY_eq
    (by kernel_rfl) (fun s => by kernel_rfl) One.runs_all (by kernel_rfl) (by kernel_rfl) (by rfl) os_shapes (by decide +kernel) (by decide +kernel) ⟨rfl, rfl, rfl, rfl, rfl, by decide +kernel⟩ ?hw ?hc
  case hw => exact ⟨[.list [.int 3]], by decide +kernel, by decide +kernel⟩
  case hc => exact One.row_call (by kernel_rfl)
#print axioms PySem.Challenge.cw_oneindex_s01_answers_holds
