import PyProof.Rows.All
import Wide.All
import OpenK.AllK
import Wide.FinOn
import Open.SpecLaws
import KE.OsGo
import HandS.ForSpec
import HandS.ForMost
import HandS.TryMany
import HandS.FStr
import HandS.CallLocal
import HandS.CallSlots
import HandS.Codes
import HandS.Flow
import HandS.Head4
import HandS.HeadHook3
import Hr01Spec
import PyHr01
import KE.IntTextLaws
import HandS.Small
import HandS.More
import KE.GoesComp
import KE.GoesRaise
import HandS.WordsDict
import HandS.Walk
import KE.KDictDisplayH
import PySem.Challenge.RW_houserulesbook_s01_answers
/-! ## part H0 -/
section
set_option Elab.async false
set_option linter.all false
set_option maxRecDepth 100000
set_option maxHeartbeats 0
namespace Hw
open PySem PySem.Spec PyProof.Rows L2
def topS (i : Nat) : Stmt := PySem.Challenge.pw_houserulesbook_s01_answers.main.body.getD i (.Pass ⟨0, 0, 0, 0⟩)

abbrev s_Reader_init : Stmt := inClass (topS 6) 0
def d_Reader_init : He.DefD := ⟨("Reader", some "__init__"), "__init__", "Reader.__init__", defArgs s_Reader_init, defBody s_Reader_init, defScope s_Reader_init, [], []⟩
abbrev s_Reader_peek : Stmt := inClass (topS 6) 1
def d_Reader_peek : He.DefD := ⟨("Reader", some "peek"), "peek", "Reader.peek", defArgs s_Reader_peek, defBody s_Reader_peek, defScope s_Reader_peek, [], []⟩
abbrev s_Reader_take : Stmt := inClass (topS 6) 2
def d_Reader_take : He.DefD := ⟨("Reader", some "take"), "take", "Reader.take", defArgs s_Reader_take, defBody s_Reader_take, defScope s_Reader_take, [], []⟩
abbrev s_Reader_expect : Stmt := inClass (topS 6) 3
def d_Reader_expect : He.DefD := ⟨("Reader", some "expect"), "expect", "Reader.expect", defArgs s_Reader_expect, defBody s_Reader_expect, defScope s_Reader_expect, [], []⟩
abbrev s_Reader_finish : Stmt := inClass (topS 6) 4
def d_Reader_finish : He.DefD := ⟨("Reader", some "finish"), "finish", "Reader.finish", defArgs s_Reader_finish, defBody s_Reader_finish, defScope s_Reader_finish, [], []⟩
abbrev s_words_of : Stmt := topS 7
def d_words_of : He.DefD := ⟨("words_of", none), "words_of", "words_of", defArgs s_words_of, defBody s_words_of, defScope s_words_of, [], []⟩
abbrev s_is_name : Stmt := topS 8
def d_is_name : He.DefD := ⟨("is_name", none), "is_name", "is_name", defArgs s_is_name, defBody s_is_name, defScope s_is_name, [], []⟩
abbrev s_is_number : Stmt := topS 9
def d_is_number : He.DefD := ⟨("is_number", none), "is_number", "is_number", defArgs s_is_number, defBody s_is_number, defScope s_is_number, [], []⟩
abbrev s_take_name : Stmt := topS 10
def d_take_name : He.DefD := ⟨("take_name", none), "take_name", "take_name", defArgs s_take_name, defBody s_take_name, defScope s_take_name, [], []⟩
abbrev s_take_number : Stmt := topS 11
def d_take_number : He.DefD := ⟨("take_number", none), "take_number", "take_number", defArgs s_take_number, defBody s_take_number, defScope s_take_number, [], []⟩
abbrev s_read_term : Stmt := topS 16
def d_read_term : He.DefD := ⟨("read_term", none), "read_term", "read_term", defArgs s_read_term, defBody s_read_term, defScope s_read_term, [], []⟩
abbrev s_read_sum : Stmt := topS 17
def d_read_sum : He.DefD := ⟨("read_sum", none), "read_sum", "read_sum", defArgs s_read_sum, defBody s_read_sum, defScope s_read_sum, [], []⟩
abbrev s_read_comparison : Stmt := topS 18
def d_read_comparison : He.DefD := ⟨("read_comparison", none), "read_comparison", "read_comparison", defArgs s_read_comparison, defBody s_read_comparison, defScope s_read_comparison, [], []⟩
abbrev s_read_single : Stmt := topS 19
def d_read_single : He.DefD := ⟨("read_single", none), "read_single", "read_single", defArgs s_read_single, defBody s_read_single, defScope s_read_single, [], []⟩
abbrev s_read_conjunction : Stmt := topS 20
def d_read_conjunction : He.DefD := ⟨("read_conjunction", none), "read_conjunction", "read_conjunction", defArgs s_read_conjunction, defBody s_read_conjunction, defScope s_read_conjunction, [], []⟩
abbrev s_read_condition : Stmt := topS 21
def d_read_condition : He.DefD := ⟨("read_condition", none), "read_condition", "read_condition", defArgs s_read_condition, defBody s_read_condition, defScope s_read_condition, [], []⟩
abbrev s_show_sum : Stmt := topS 22
def d_show_sum : He.DefD := ⟨("show_sum", none), "show_sum", "show_sum", defArgs s_show_sum, defBody s_show_sum, defScope s_show_sum, [], []⟩
abbrev s_show_comparison : Stmt := topS 23
def d_show_comparison : He.DefD := ⟨("show_comparison", none), "show_comparison", "show_comparison", defArgs s_show_comparison, defBody s_show_comparison, defScope s_show_comparison, [], []⟩
abbrev s_show_part : Stmt := topS 24
def d_show_part : He.DefD := ⟨("show_part", none), "show_part", "show_part", defArgs s_show_part, defBody s_show_part, defScope s_show_part, [], []⟩
abbrev s_show_chain : Stmt := topS 25
def d_show_chain : He.DefD := ⟨("show_chain", none), "show_chain", "show_chain", defArgs s_show_chain, defBody s_show_chain, defScope s_show_chain, [], []⟩
abbrev s_show_condition : Stmt := topS 26
def d_show_condition : He.DefD := ⟨("show_condition", none), "show_condition", "show_condition", defArgs s_show_condition, defBody s_show_condition, defScope s_show_condition, [], []⟩
abbrev s_comparisons : Stmt := topS 27
def d_comparisons : He.DefD := ⟨("comparisons", none), "comparisons", "comparisons", defArgs s_comparisons, defBody s_comparisons, defScope s_comparisons, [], []⟩
abbrev s_names_in_sum : Stmt := topS 28
def d_names_in_sum : He.DefD := ⟨("names_in_sum", none), "names_in_sum", "names_in_sum", defArgs s_names_in_sum, defBody s_names_in_sum, defScope s_names_in_sum, [], []⟩
abbrev s_names_in_condition : Stmt := topS 29
def d_names_in_condition : He.DefD := ⟨("names_in_condition", none), "names_in_condition", "names_in_condition", defArgs s_names_in_condition, defBody s_names_in_condition, defScope s_names_in_condition, [], []⟩
abbrev s_total : Stmt := topS 30
def d_total : He.DefD := ⟨("total", none), "total", "total", defArgs s_total, defBody s_total, defScope s_total, [], []⟩
abbrev s_compares : Stmt := topS 31
def d_compares : He.DefD := ⟨("compares", none), "compares", "compares", defArgs s_compares, defBody s_compares, defScope s_compares, [], []⟩
abbrev s_holds : Stmt := topS 32
def d_holds : He.DefD := ⟨("holds", none), "holds", "holds", defArgs s_holds, defBody s_holds, defScope s_holds, [], []⟩
abbrev s_speaks : Stmt := topS 36
def d_speaks : He.DefD := ⟨("speaks", none), "speaks", "speaks", defArgs s_speaks, defBody s_speaks, defScope s_speaks, [], []⟩
abbrev s_hold_lasts : Stmt := topS 37
def d_hold_lasts : He.DefD := ⟨("hold_lasts", none), "hold_lasts", "hold_lasts", defArgs s_hold_lasts, defBody s_hold_lasts, defScope s_hold_lasts, [], []⟩
abbrev s_readings_of : Stmt := topS 38
def d_readings_of : He.DefD := ⟨("readings_of", none), "readings_of", "readings_of", defArgs s_readings_of, defBody s_readings_of, defScope s_readings_of, [], []⟩
abbrev s_count_minute : Stmt := topS 39
def d_count_minute : He.DefD := ⟨("count_minute", none), "count_minute", "count_minute", defArgs s_count_minute, defBody s_count_minute, defScope s_count_minute, [], []⟩
abbrev s_find_target : Stmt := topS 40
def d_find_target : He.DefD := ⟨("find_target", none), "find_target", "find_target", defArgs s_find_target, defBody s_find_target, defScope s_find_target, [], []⟩
abbrev s_settle : Stmt := topS 41
def d_settle : He.DefD := ⟨("settle", none), "settle", "settle", defArgs s_settle, defBody s_settle, defScope s_settle, [], []⟩
abbrev s_pass_minute : Stmt := topS 42
def d_pass_minute : He.DefD := ⟨("pass_minute", none), "pass_minute", "pass_minute", defArgs s_pass_minute, defBody s_pass_minute, defScope s_pass_minute, [], []⟩
abbrev s_record_minute : Stmt := topS 43
def d_record_minute : He.DefD := ⟨("record_minute", none), "record_minute", "record_minute", defArgs s_record_minute, defBody s_record_minute, defScope s_record_minute, [], []⟩
abbrev s_Hold_init : Stmt := inClass (topS 45) 0
def d_Hold_init : He.DefD := ⟨("Hold", some "__init__"), "__init__", "Hold.__init__", defArgs s_Hold_init, defBody s_Hold_init, defScope s_Hold_init, [], []⟩
abbrev s_Thing_init : Stmt := inClass (topS 46) 0
def d_Thing_init : He.DefD := ⟨("Thing", some "__init__"), "__init__", "Thing.__init__", defArgs s_Thing_init, defBody s_Thing_init, defScope s_Thing_init, [], []⟩
abbrev s_Rule_init : Stmt := inClass (topS 47) 0
def d_Rule_init : He.DefD := ⟨("Rule", some "__init__"), "__init__", "Rule.__init__", defArgs s_Rule_init, defBody s_Rule_init, defScope s_Rule_init, [], []⟩
abbrev s_House_init : Stmt := inClass (topS 48) 0
def d_House_init : He.DefD := ⟨("House", some "__init__"), "__init__", "House.__init__", defArgs s_House_init, defBody s_House_init, defScope s_House_init, [], []⟩
abbrev s_twin_of_thing : Stmt := topS 49
def d_twin_of_thing : He.DefD := ⟨("twin_of_thing", none), "twin_of_thing", "twin_of_thing", defArgs s_twin_of_thing, defBody s_twin_of_thing, defScope s_twin_of_thing, [], []⟩
abbrev s_twin_of_rule : Stmt := topS 50
def d_twin_of_rule : He.DefD := ⟨("twin_of_rule", none), "twin_of_rule", "twin_of_rule", defArgs s_twin_of_rule, defBody s_twin_of_rule, defScope s_twin_of_rule, [], []⟩
abbrev s_twin_of_house : Stmt := topS 51
def d_twin_of_house : He.DefD := ⟨("twin_of_house", none), "twin_of_house", "twin_of_house", defArgs s_twin_of_house, defBody s_twin_of_house, defScope s_twin_of_house, [], []⟩
abbrev s_is_taken : Stmt := topS 56
def d_is_taken : He.DefD := ⟨("is_taken", none), "is_taken", "is_taken", defArgs s_is_taken, defBody s_is_taken, defScope s_is_taken, [], []⟩
abbrev s_add_sensor : Stmt := topS 57
def d_add_sensor : He.DefD := ⟨("add_sensor", none), "add_sensor", "add_sensor", defArgs s_add_sensor, defBody s_add_sensor, defScope s_add_sensor, [], []⟩
abbrev s_add_thing : Stmt := topS 58
def d_add_thing : He.DefD := ⟨("add_thing", none), "add_thing", "add_thing", defArgs s_add_thing, defBody s_add_thing, defScope s_add_thing, [], []⟩
abbrev s_set_sensor : Stmt := topS 59
def d_set_sensor : He.DefD := ⟨("set_sensor", none), "set_sensor", "set_sensor", defArgs s_set_sensor, defBody s_set_sensor, defScope s_set_sensor, [], []⟩
abbrev s_set_deaf : Stmt := topS 60
def d_set_deaf : He.DefD := ⟨("set_deaf", none), "set_deaf", "set_deaf", defArgs s_set_deaf, defBody s_set_deaf, defScope s_set_deaf, [], []⟩
abbrev s_make_deaf : Stmt := topS 61
def d_make_deaf : He.DefD := ⟨("make_deaf", none), "make_deaf", "make_deaf", defArgs s_make_deaf, defBody s_make_deaf, defScope s_make_deaf, [], []⟩
abbrev s_make_hear : Stmt := topS 62
def d_make_hear : He.DefD := ⟨("make_hear", none), "make_hear", "make_hear", defArgs s_make_hear, defBody s_make_hear, defScope s_make_hear, [], []⟩
abbrev s_move_by_hand : Stmt := topS 63
def d_move_by_hand : He.DefD := ⟨("move_by_hand", none), "move_by_hand", "move_by_hand", defArgs s_move_by_hand, defBody s_move_by_hand, defScope s_move_by_hand, [], []⟩
abbrev s_hold_thing : Stmt := topS 64
def d_hold_thing : He.DefD := ⟨("hold_thing", none), "hold_thing", "hold_thing", defArgs s_hold_thing, defBody s_hold_thing, defScope s_hold_thing, [], []⟩
abbrev s_free_thing : Stmt := topS 65
def d_free_thing : He.DefD := ⟨("free_thing", none), "free_thing", "free_thing", defArgs s_free_thing, defBody s_free_thing, defScope s_free_thing, [], []⟩
abbrev s_has_value : Stmt := topS 66
def d_has_value : He.DefD := ⟨("has_value", none), "has_value", "has_value", defArgs s_has_value, defBody s_has_value, defScope s_has_value, [], []⟩
abbrev s_add_rule : Stmt := topS 67
def d_add_rule : He.DefD := ⟨("add_rule", none), "add_rule", "add_rule", defArgs s_add_rule, defBody s_add_rule, defScope s_add_rule, [], []⟩
abbrev s_drop_rule : Stmt := topS 68
def d_drop_rule : He.DefD := ⟨("drop_rule", none), "drop_rule", "drop_rule", defArgs s_drop_rule, defBody s_drop_rule, defScope s_drop_rule, [], []⟩
abbrev s_pass_minutes : Stmt := topS 69
def d_pass_minutes : He.DefD := ⟨("pass_minutes", none), "pass_minutes", "pass_minutes", defArgs s_pass_minutes, defBody s_pass_minutes, defScope s_pass_minutes, [], []⟩
abbrev s_change : Stmt := topS 71
def d_change : He.DefD := ⟨("change", none), "change", "change", defArgs s_change, defBody s_change, defScope s_change, [], []⟩
abbrev s_take_argument : Stmt := topS 75
def d_take_argument : He.DefD := ⟨("take_argument", none), "take_argument", "take_argument", defArgs s_take_argument, defBody s_take_argument, defScope s_take_argument, [], []⟩
abbrev s_take_rule : Stmt := topS 76
def d_take_rule : He.DefD := ⟨("take_rule", none), "take_rule", "take_rule", defArgs s_take_rule, defBody s_take_rule, defScope s_take_rule, [], []⟩
abbrev s_take_arguments : Stmt := topS 77
def d_take_arguments : He.DefD := ⟨("take_arguments", none), "take_arguments", "take_arguments", defArgs s_take_arguments, defBody s_take_arguments, defScope s_take_arguments, [], []⟩
abbrev s_read_arguments : Stmt := topS 78
def d_read_arguments : He.DefD := ⟨("read_arguments", none), "read_arguments", "read_arguments", defArgs s_read_arguments, defBody s_read_arguments, defScope s_read_arguments, [], []⟩
abbrev s_snapshot : Stmt := topS 81
def d_snapshot : He.DefD := ⟨("snapshot", none), "snapshot", "snapshot", defArgs s_snapshot, defBody s_snapshot, defScope s_snapshot, [], []⟩
abbrev s_find_rest : Stmt := topS 82
def d_find_rest : He.DefD := ⟨("find_rest", none), "find_rest", "find_rest", defArgs s_find_rest, defBody s_find_rest, defScope s_find_rest, [], []⟩
abbrev s_house_ahead : Stmt := topS 83
def d_house_ahead : He.DefD := ⟨("house_ahead", none), "house_ahead", "house_ahead", defArgs s_house_ahead, defBody s_house_ahead, defScope s_house_ahead, [], []⟩
abbrev s_direct_needs : Stmt := topS 84
def d_direct_needs : He.DefD := ⟨("direct_needs", none), "direct_needs", "direct_needs", defArgs s_direct_needs, defBody s_direct_needs, defScope s_direct_needs, [], []⟩
abbrev s_is_circular : Stmt := topS 85
def d_is_circular : He.DefD := ⟨("is_circular", none), "is_circular", "is_circular", defArgs s_is_circular, defBody s_is_circular, defScope s_is_circular, [], []⟩
abbrev s_show_list : Stmt := topS 87
def d_show_list : He.DefD := ⟨("show_list", none), "show_list", "show_list", defArgs s_show_list, defBody s_show_list, defScope s_show_list, [], []⟩
abbrev s_show_named_value : Stmt := topS 88
def d_show_named_value : He.DefD := ⟨("show_named_value", none), "show_named_value", "show_named_value", defArgs s_show_named_value, defBody s_show_named_value, defScope s_show_named_value, [], []⟩
abbrev s_show_thing : Stmt := topS 89
def d_show_thing : He.DefD := ⟨("show_thing", none), "show_thing", "show_thing", defArgs s_show_thing, defBody s_show_thing, defScope s_show_thing, [], []⟩
abbrev s_tell_state : Stmt := topS 90
def d_tell_state : He.DefD := ⟨("tell_state", none), "tell_state", "tell_state", defArgs s_tell_state, defBody s_tell_state, defScope s_tell_state, [], []⟩
abbrev s_tell_past : Stmt := topS 91
def d_tell_past : He.DefD := ⟨("tell_past", none), "tell_past", "tell_past", defArgs s_tell_past, defBody s_tell_past, defScope s_tell_past, [], []⟩
abbrev s_show_rule : Stmt := topS 92
def d_show_rule : He.DefD := ⟨("show_rule", none), "show_rule", "show_rule", defArgs s_show_rule, defBody s_show_rule, defScope s_show_rule, [], []⟩
abbrev s_tell_rules : Stmt := topS 93
def d_tell_rules : He.DefD := ⟨("tell_rules", none), "tell_rules", "tell_rules", defArgs s_tell_rules, defBody s_tell_rules, defScope s_tell_rules, [], []⟩
abbrev s_show_comparisons : Stmt := topS 94
def d_show_comparisons : He.DefD := ⟨("show_comparisons", none), "show_comparisons", "show_comparisons", defArgs s_show_comparisons, defBody s_show_comparisons, defScope s_show_comparisons, [], []⟩
abbrev s_explain_hold : Stmt := topS 95
def d_explain_hold : He.DefD := ⟨("explain_hold", none), "explain_hold", "explain_hold", defArgs s_explain_hold, defBody s_explain_hold, defScope s_explain_hold, [], []⟩
abbrev s_explain_rule : Stmt := topS 96
def d_explain_rule : He.DefD := ⟨("explain_rule", none), "explain_rule", "explain_rule", defArgs s_explain_rule, defBody s_explain_rule, defScope s_explain_rule, [], []⟩
abbrev s_tell_why : Stmt := topS 97
def d_tell_why : He.DefD := ⟨("tell_why", none), "tell_why", "tell_why", defArgs s_tell_why, defBody s_tell_why, defScope s_tell_why, [], []⟩
abbrev s_explain_silence : Stmt := topS 98
def d_explain_silence : He.DefD := ⟨("explain_silence", none), "explain_silence", "explain_silence", defArgs s_explain_silence, defBody s_explain_silence, defScope s_explain_silence, [], []⟩
abbrev s_explain_speech : Stmt := topS 99
def d_explain_speech : He.DefD := ⟨("explain_speech", none), "explain_speech", "explain_speech", defArgs s_explain_speech, defBody s_explain_speech, defScope s_explain_speech, [], []⟩
abbrev s_tell_why_not : Stmt := topS 100
def d_tell_why_not : He.DefD := ⟨("tell_why_not", none), "tell_why_not", "tell_why_not", defArgs s_tell_why_not, defBody s_tell_why_not, defScope s_tell_why_not, [], []⟩
abbrev s_tell_rings : Stmt := topS 101
def d_tell_rings : He.DefD := ⟨("tell_rings", none), "tell_rings", "tell_rings", defArgs s_tell_rings, defBody s_tell_rings, defScope s_tell_rings, [], []⟩
abbrev s_tell_rest : Stmt := topS 102
def d_tell_rest : He.DefD := ⟨("tell_rest", none), "tell_rest", "tell_rest", defArgs s_tell_rest, defBody s_tell_rest, defScope s_tell_rest, [], []⟩
abbrev s_tell_trial : Stmt := topS 103
def d_tell_trial : He.DefD := ⟨("tell_trial", none), "tell_trial", "tell_trial", defArgs s_tell_trial, defBody s_tell_trial, defScope s_tell_trial, [], []⟩
abbrev s_is_query : Stmt := topS 105
def d_is_query : He.DefD := ⟨("is_query", none), "is_query", "is_query", defArgs s_is_query, defBody s_is_query, defScope s_is_query, [], []⟩
abbrev s_answer_query : Stmt := topS 106
def d_answer_query : He.DefD := ⟨("answer_query", none), "answer_query", "answer_query", defArgs s_answer_query, defBody s_answer_query, defScope s_answer_query, [], []⟩
abbrev s_is_text : Stmt := topS 111
def d_is_text : He.DefD := ⟨("is_text", none), "is_text", "is_text", defArgs s_is_text, defBody s_is_text, defScope s_is_text, [], []⟩
abbrev s_reply : Stmt := topS 112
def d_reply : He.DefD := ⟨("reply", none), "reply", "reply", defArgs s_reply, defBody s_reply, defScope s_reply, [], []⟩
abbrev s_say : Stmt := topS 113
def d_say : He.DefD := ⟨("say", none), "say", "say", defArgs s_say, defBody s_say, defScope s_say, [], []⟩
abbrev s_answers : Stmt := topS 114
def d_answers : He.DefD := ⟨("answers", none), "answers", "answers", defArgs s_answers, defBody s_answers, defScope s_answers, [], []⟩
def fn0 : List He.DefD := [d_Reader_init, d_Reader_peek, d_Reader_take, d_Reader_expect, d_Reader_finish, d_words_of, d_is_name, d_is_number, d_take_name, d_take_number, d_read_term, d_read_sum, d_read_comparison, d_read_single, d_read_conjunction, d_read_condition, d_show_sum, d_show_comparison, d_show_part, d_show_chain]
def fn1 : List He.DefD := [d_show_condition, d_comparisons, d_names_in_sum, d_names_in_condition, d_total, d_compares, d_holds, d_speaks, d_hold_lasts, d_readings_of, d_count_minute, d_find_target, d_settle, d_pass_minute, d_record_minute, d_Hold_init, d_Thing_init, d_Rule_init, d_House_init, d_twin_of_thing]
def fn2 : List He.DefD := [d_twin_of_rule, d_twin_of_house, d_is_taken, d_add_sensor, d_add_thing, d_set_sensor, d_set_deaf, d_make_deaf, d_make_hear, d_move_by_hand, d_hold_thing, d_free_thing, d_has_value, d_add_rule, d_drop_rule, d_pass_minutes, d_change, d_take_argument, d_take_rule, d_take_arguments]
def fn3 : List He.DefD := [d_read_arguments, d_snapshot, d_find_rest, d_house_ahead, d_direct_needs, d_is_circular, d_show_list, d_show_named_value, d_show_thing, d_tell_state, d_tell_past, d_show_rule, d_tell_rules, d_show_comparisons, d_explain_hold, d_explain_rule, d_tell_why, d_explain_silence, d_explain_speech, d_tell_why_not]
def fn4 : List He.DefD := [d_tell_rings, d_tell_rest, d_tell_trial, d_is_query, d_answer_query, d_is_text, d_reply, d_say, d_answers]
def fn : List He.DefD := fn0 ++ fn1 ++ fn2 ++ fn3 ++ fn4
def fa0 : List He.Fa := [.str "SIGNS" " ?????&?()?+?-??0123456789??<=???????????????????????????????????abcdefghijklmnopqrstuvwxyz?|?~", .glo "NO_NAMES", .int "LONGEST_NAME" 8, .int "LONGEST_NUMBER" 5, .glo "NoForm", .exm "NoForm" "NoForm" true, .keep "NoForm", .glo "Reader", .cls "Reader", .mkr "Reader", .noat "Reader" "words", .noat "Reader" "place", .meth "Reader" "peek", .meth "Reader" "take", .meth "Reader" "expect", .meth "Reader" "finish", .glo "words_of", .glo "is_name", .glo "is_number", .glo "take_name"]
def fa1 : List He.Fa := [.glo "take_number", .int "MOST_TERMS" 4, .int "MOST_NESTED" 8, .glo "TIGHTNESS", .glo "read_term", .glo "read_sum", .glo "read_comparison", .glo "read_single", .glo "read_conjunction", .glo "read_condition", .glo "show_sum", .glo "show_comparison", .glo "show_part", .glo "show_chain", .glo "show_condition", .glo "comparisons", .glo "names_in_sum", .glo "names_in_condition", .glo "total", .glo "compares"]
def fa2 : List He.Fa := [.glo "holds", .int "MINUTES_OF_A_DAY" 1440, .int "MOST_VALUE" 999, .glo "speaks", .glo "hold_lasts", .glo "readings_of", .glo "count_minute", .glo "find_target", .glo "settle", .glo "pass_minute", .glo "record_minute", .glo "Hold", .cls "Hold", .mkr "Hold", .noat "Hold" "value", .noat "Hold" "rank", .noat "Hold" "end", .glo "Thing", .cls "Thing", .mkr "Thing"]
def fa3 : List He.Fa := [.noat "Thing" "value", .noat "Thing" "target", .noat "Thing" "origin", .noat "Thing" "deaf", .noat "Thing" "hold", .noat "Thing" "born", .noat "Thing" "past", .glo "Rule", .cls "Rule", .mkr "Rule", .noat "Rule" "rank", .noat "Rule" "delay", .noat "Rule" "condition", .noat "Rule" "thing", .noat "Rule" "amount", .noat "Rule" "count", .glo "House", .cls "House", .mkr "House", .noat "House" "clock"]
def fa4 : List He.Fa := [.noat "House" "sensors", .noat "House" "things", .noat "House" "rules", .glo "twin_of_thing", .glo "twin_of_rule", .glo "twin_of_house", .int "MOST_SENSORS" 4, .int "MOST_THINGS" 4, .int "MOST_RULES" 6, .glo "is_taken", .glo "add_sensor", .glo "add_thing", .glo "set_sensor", .glo "set_deaf", .glo "make_deaf", .glo "make_hear", .glo "move_by_hand", .glo "hold_thing", .glo "free_thing", .glo "has_value"]
def fa5 : List He.Fa := [.glo "add_rule", .glo "drop_rule", .glo "pass_minutes", .glo "CHANGES", .glo "change", .glo "RANGES", .glo "FORMS", .glo "take_argument", .glo "take_rule", .glo "take_arguments", .glo "read_arguments", .int "LAST_SNAPSHOT" 100, .glo "snapshot", .glo "find_rest", .glo "house_ahead", .glo "direct_needs", .glo "is_circular", .glo "show_list", .glo "show_named_value", .glo "show_thing"]
def fa6 : List He.Fa := [.glo "tell_state", .glo "tell_past", .glo "show_rule", .glo "tell_rules", .glo "show_comparisons", .glo "explain_hold", .glo "explain_rule", .glo "tell_why", .glo "explain_silence", .glo "explain_speech", .glo "tell_why_not", .glo "tell_rings", .glo "tell_rest", .glo "tell_trial", .glo "QUERIES", .glo "is_query", .glo "answer_query", .int "LONGEST_COMMAND" 160, .int "LEAST_BYTE" 32, .int "MOST_BYTE" 126]
def fa7 : List He.Fa := [.glo "is_text", .glo "reply", .glo "say", .glo "answers", .free "len", .free "int", .free "str", .free "tuple", .free "list", .free "dict", .free "all", .free "min", .free "max", .free "ord", .free "range"]
def fa : List He.Fa := fa0 ++ fa1 ++ fa2 ++ fa3 ++ fa4 ++ fa5 ++ fa6 ++ fa7
def ts : List He.Tab := [(fun K => He.ga K "TIGHTNESS", ["|", "&", "~", "<", "="]), (fun K => He.ga K "CHANGES", ["sensor", "thing", "set", "deaf", "hears", "hand", "hold", "free", "rule", "drop", "tick"]), (fun K => He.ga K "RANGES", ["value", "rank", "delay", "length", "minutes", "minute", "ahead"]), (fun K => He.ga K "FORMS", ["sensor", "thing", "set", "deaf", "hears", "hand", "hold", "free", "drop", "tick", "state", "was", "list", "why", "whynot", "rings", "rest", "try"]), (fun K => He.ga K "QUERIES", ["state", "was", "list", "why", "whynot", "rings", "rest", "try"])]
/-- the object that the dict x of the top holds at k -/
def dAt (x k : Str) (K : PySem.W.Frag) : Addr := match PySem.W.nsIn K (He.ga K x) k with
  | some (some (.ref b)) => b
  | _ => 0
/-- .. is a tuple of these -/
def dtB (K : PySem.W.Frag) (x k : Str) (us : List He.Dv) : Bool := He.eqO (PySem.W.nsIn K (He.ga K x) k) (some (some (.ref (dAt x k K)))) && (match K.lookup (dAt x k K) with
  | some ⟨.type cn, _, .seq ys _, _⟩ => decide (cn = "tuple") && (decide (ys.size ≤ sizeLine) && He.relAll (us.map fun u => u.v K) ys.toList)
  | _ => false)
def exB : List Value := [.type "Exception", .type "BaseException", .type "object"]

def t_TIGHTNESS : List (Str × He.Dv) := [("|", .int 1), ("&", .int 2), ("~", .int 3), ("<", .int 3), ("=", .int 3)]
def t_CHANGES : List (Str × He.Dv) := [("sensor", .glo "add_sensor"), ("thing", .glo "add_thing"), ("set", .glo "set_sensor"), ("deaf", .glo "make_deaf"), ("hears", .glo "make_hear"), ("hand", .glo "move_by_hand"), ("hold", .glo "hold_thing"), ("free", .glo "free_thing"), ("rule", .glo "add_rule"), ("drop", .glo "drop_rule"), ("tick", .glo "pass_minutes")]
def t_QUERIES : List (Str × He.Dv) := [("state", .glo "tell_state"), ("was", .glo "tell_past"), ("list", .glo "tell_rules"), ("why", .glo "tell_why"), ("whynot", .glo "tell_why_not"), ("rings", .glo "tell_rings"), ("rest", .glo "tell_rest"), ("try", .glo "tell_trial")]
def xs (K : PySem.W.Frag) : List Bool := [He.tupB K "NO_NAMES" [.str "time", .str "if", .str "then", .str "is", .str "after"],
  He.valsB K (He.ga K "TIGHTNESS") t_TIGHTNESS,
  He.valsB K (He.ga K "CHANGES") t_CHANGES,
  dtB K "RANGES" "value" [.int 0, .int 999],
  dtB K "RANGES" "rank" [.int 0, .int 9],
  dtB K "RANGES" "delay" [.int 0, .int 20],
  dtB K "RANGES" "length" [.int 1, .int 999],
  dtB K "RANGES" "minutes" [.int 1, .int 500],
  dtB K "RANGES" "minute" [.int 0, .int 99999],
  dtB K "RANGES" "ahead" [.int 1, .int 100],
  dtB K "FORMS" "sensor" [.str "name", .str "value"],
  dtB K "FORMS" "thing" [.str "name", .str "value"],
  dtB K "FORMS" "set" [.str "name", .str "value"],
  dtB K "FORMS" "deaf" [.str "name"],
  dtB K "FORMS" "hears" [.str "name"],
  dtB K "FORMS" "hand" [.str "name", .str "value"],
  dtB K "FORMS" "hold" [.str "name", .str "value", .str "rank", .str "length"],
  dtB K "FORMS" "free" [.str "name"],
  dtB K "FORMS" "drop" [.str "name"],
  dtB K "FORMS" "tick" [.str "minutes"],
  dtB K "FORMS" "state" [],
  dtB K "FORMS" "was" [.str "name", .str "minute"],
  dtB K "FORMS" "list" [],
  dtB K "FORMS" "why" [.str "name"],
  dtB K "FORMS" "whynot" [.str "name"],
  dtB K "FORMS" "rings" [],
  dtB K "FORMS" "rest" [],
  dtB K "FORMS" "try" [.str "name", .str "value", .str "ahead"],
  He.valsB K (He.ga K "QUERIES") t_QUERIES,
  PySem.W.excIn K (He.ga K "NoForm") exB "Exception.__new__",
  decide (PySem.W.subIn K (.ref (He.ga K "NoForm")) (.type "BaseException") = some true),
  decide (PySem.W.typeIn K (.ref (He.ga K "NoForm")) = some (.type "type"))]
def ad0 : List Addr := [3, 15, 25, 73, 82, 89, 96, 103, 110, 111, 118, 125, 132, 139, 146, 153, 160, 167, 174, 181, 188, 195, 200, 207, 214, 221, 228, 235, 242, 249, 256, 263, 270, 277, 284, 301, 322, 343, 364, 375]
def ad1 : List Addr := [382, 389, 396, 403, 410, 417, 424, 431, 438, 445, 452, 459, 466, 471, 478, 485, 486, 493, 494, 502, 528, 535, 540, 547, 552, 559, 566, 571, 578, 585, 592, 599, 604, 611, 618, 623, 630, 637, 644, 651]
def ad2 : List Addr := [658, 665, 672, 677, 684, 689, 690, 697, 704, 709, 716, 721, 728, 24, 72, 81, 88, 95, 102, 109, 117, 124, 131, 138, 145, 152, 159, 166, 173, 180, 187, 194, 199, 206, 213, 220, 227, 234, 241, 248]
def ad3 : List Addr := [255, 262, 269, 276, 283, 300, 321, 342, 363, 374, 381, 388, 395, 402, 409, 416, 423, 430, 437, 444, 451, 458, 465, 470, 477, 484, 492, 495, 496, 497, 498, 499, 500, 501, 503, 504, 505, 506, 507, 508]
def ad4 : List Addr := [509, 510, 511, 512, 513, 514, 515, 516, 517, 518, 519, 521, 527, 534, 539, 546, 551, 558, 565, 570, 577, 584, 591, 598, 603, 610, 617, 622, 629, 636, 643, 650, 657, 664, 671, 676, 683, 688, 696, 703]
def ad5 : List Addr := [708, 715, 720, 727, 42, 49, 56, 63, 70, 298, 319, 340, 361, 41, 48, 55, 62, 69, 297, 318, 339, 360]
def ads : List Addr := ad0 ++ ad1 ++ ad2 ++ ad3 ++ ad4 ++ ad5
abbrev AlX : Type := He.AlT × Bool
def obsX (K : PySem.W.Frag) : AlX := (He.obsT fa fn ts K, (xs K).all id)
def obX (g : Addr → Option Obj) : AlX := obsX (He.frG g ads)
def valX (w : World) : AlX := (He.valT fn ts w, true)
def hkX : PySem.W.Hook where
  α := AlX
  obs := fun s => obX s.heap.get?
  val := fun w => valX w
  says := fun w h => ∃ K : PySem.W.Frag, K.In h ∧ obsX K = valX w
  of := fun _ _ e => ⟨_, He.frG_in, e⟩
  keeps := fun _ _ _ ⟨K, hK, c⟩ k => ⟨K, PySem.W.Frag.In.keeps hK k, c⟩
end Hw
end

/-! ## part H1 -/
section
set_option Elab.async false
set_option linter.all false
set_option maxRecDepth 100000
set_option maxHeartbeats 0
namespace Hw
open PySem PySem.Spec PyProof.Rows L2
def nm0 : List PySem.Str := ["SIGNS", "NO_NAMES", "LONGEST_NAME", "LONGEST_NUMBER", "NoForm", "Reader", "words_of", "is_name", "is_number", "take_name", "take_number", "MOST_TERMS", "MOST_NESTED", "TIGHTNESS", "read_term", "read_sum", "read_comparison", "read_single", "read_conjunction", "read_condition", "show_sum", "show_comparison", "show_part", "show_chain", "show_condition", "comparisons", "names_in_sum", "names_in_condition", "total", "compares"]
def nm1 : List PySem.Str := ["holds", "MINUTES_OF_A_DAY", "MOST_VALUE", "speaks", "hold_lasts", "readings_of", "count_minute", "find_target", "settle", "pass_minute", "record_minute", "Hold", "Thing", "Rule", "House", "twin_of_thing", "twin_of_rule", "twin_of_house", "MOST_SENSORS", "MOST_THINGS", "MOST_RULES", "is_taken", "add_sensor", "add_thing", "set_sensor", "set_deaf", "make_deaf", "make_hear", "move_by_hand", "hold_thing"]
def nm2 : List PySem.Str := ["free_thing", "has_value", "add_rule", "drop_rule", "pass_minutes", "CHANGES", "change", "RANGES", "FORMS", "take_argument", "take_rule", "take_arguments", "read_arguments", "LAST_SNAPSHOT", "snapshot", "find_rest", "house_ahead", "direct_needs", "is_circular", "show_list", "show_named_value", "show_thing", "tell_state", "tell_past", "show_rule", "tell_rules", "show_comparisons", "explain_hold", "explain_rule", "tell_why"]
def nm3 : List PySem.Str := ["explain_silence", "explain_speech", "tell_why_not", "tell_rings", "tell_rest", "tell_trial", "QUERIES", "is_query", "answer_query", "LONGEST_COMMAND", "LEAST_BYTE", "MOST_BYTE", "is_text", "reply", "say"]
def nms : List PySem.Str := nm0 ++ nm1 ++ nm2 ++ nm3
abbrev R : PySem.W.OpenSpec := PySem.Challenge.rw_houserulesbook_s01_answers
def obT (s : PySem.W.SharedT) : AlX := obX (HandSHeadRun.getT s)
theorem obT_eq (s : PySem.W.SharedT) : obT s = hkX.obs s.abs := by
  show obX (HandSHeadRun.getT s) = obX s.abs.heap.get?
  rw [show HandSHeadRun.getT s = s.abs.heap.get? from funext (HandSHeadRun.getT_eq s)]
theorem run_f (w : World) : HandSHeadRun.RunEqS R (PySem.W.view R.prog [114]) hkX obT 6000 nms (w.withFollow "special-get-raises" false) := by
  intro os
  kernel_rfl
theorem run_t (w : World) : HandSHeadRun.RunEqS R (PySem.W.view R.prog [114]) hkX obT 6000 nms (w.withFollow "special-get-raises" true) := by
  intro os
  kernel_rfl
theorem run (w : World) : HandSHeadRun.RunEqS R (PySem.W.view R.prog [114]) hkX obT 6000 nms w :=
  PySem.W.byRow2 "special-get-raises" (P := HandSHeadRun.RunEqS R (PySem.W.view R.prog [114]) hkX obT 6000 nms) run_f run_t w
end Hw
end

/-! ## part H2 -/
section
set_option Elab.async false
set_option linter.all false
set_option maxRecDepth 100000
set_option maxHeartbeats 0
namespace Hw
open PySem PySem.W PySem.Calls PyProof.Rows
theorem said : R.wellSaid = true := by decide +kernel
theorem head (call : WalkOS (view R.prog [114]) nms (XL (view R.prog [114]) []) hkX.says R (HandSHeadRun.topDef R.prog 114) [] fun f vs => PySem.call f vs) : R.Holds := by
  w_on
  refine HandSHeadRun.head_spec (r := R) (q := view R.prog [114]) (H := hkX) (ob := obT) (M := 6000) (loose := nms) (d := HandSHeadRun.topDef R.prog 114) (kwd := []) obT_eq
    (by kernel_rfl) (fun s => by kernel_rfl) run (by kernel_rfl) (by kernel_rfl) (by kernel_rfl) os_shapes said (by decide +kernel) ⟨rfl, rfl, rfl, rfl, rfl, by decide +kernel⟩ ?hw call
  case hw => exact ⟨[.list [.int 1, .int 0, .int 0]], by decide +kernel, by decide +kernel⟩
end Hw
end

/-! ## part G0 -/
section
set_option Elab.async false
set_option linter.all false
set_option maxRecDepth 100000
namespace Hw
open PySem PySem.Spec PyProof.Rows L2
/-- the function data at an address of the written part -/
def fdA (K : PySem.W.Frag) (a : Addr) : FuncData := match K.lookup a with
  | some ⟨_, _, .func fd, _⟩ => fd
  | _ => PySem.W.fnOf "" "" (defArgs (.Pass ⟨0, 0, 0, 0⟩)) [] (defScope (.Pass ⟨0, 0, 0, 0⟩)) .none .none .none .none none .none .none
/-- a number's or a text's token -/
def tokA (mg : Str → Option Value) (x : Str) : Tok := match mg x with
  | some (.int _ t) => t
  | some (.str _ t) => t
  | _ => 0
/-- all that the top has written -/
structure Good (w : World) (K : PySem.W.Frag) (mg : Str → Option Value) : Prop where
  says : obsX K = valX w
  some_ : ∀ (x : Str) (u : Value), PySem.W.nsIn K mainGlobals x = some (some u) → mg x = some u
  none_ : ∀ x : Str, PySem.W.nsIn K mainGlobals x = some none → mg x = none
section
variable {w : World} {K : PySem.W.Frag} {mg : Str → Option Value}
theorem Good.t (g : Good w K mg) : He.SaysT fa fn ts w K := congrArg (fun z : AlX => z.1) g.says
theorem Good.x (g : Good w K mg) (i : Nat) {b : Bool} (h : (xs K)[i]? = some b) : b = true := by
  have e : (xs K).all id = true := congrArg (fun z : AlX => z.2) g.says
  exact List.all_eq_true.mp e b (List.mem_of_getElem? h)
theorem Good.glo (g : Good w K mg) {x : Str} (c : (He.Fa.glo x).ok K = true) : mg x = some (.ref (He.ga K x)) := g.some_ _ _ (He.eqO_ok c)
theorem Good.free (g : Good w K mg) {x : Str} (c : (He.Fa.free x).ok K = true) : mg x = none := g.none_ _ (He.eqO_ok c)
theorem Good.int (g : Good w K mg) {x : Str} {i : Int} (c : (He.Fa.int x i).ok K = true) : mg x = some (.int i (tokA mg x)) := by
  have c2 : (match PySem.W.nsIn K mainGlobals x with
    | some (some (.int j _)) => decide (j = i)
    | _ => false) = true := c
  cases e : PySem.W.nsIn K mainGlobals x with
  | none => rw [e] at c2; cases c2
  | some o =>
    rw [e] at c2
    cases o with
    | none => cases c2
    | some v =>
      cases v with
      | int j t =>
        have ej : j = i := of_decide_eq_true c2
        have h := g.some_ _ _ e
        have ht : tokA mg x = t := by unfold tokA; rw [h]
        rw [ht, ← ej]; exact h
      | _ => cases c2
theorem Good.str (g : Good w K mg) {x z : Str} (c : (He.Fa.str x z).ok K = true) : mg x = some (.str z (tokA mg x)) := by
  have c2 : (match PySem.W.nsIn K mainGlobals x with
    | some (some (.str j _)) => decide (j = z)
    | _ => false) = true := c
  cases e : PySem.W.nsIn K mainGlobals x with
  | none => rw [e] at c2; cases c2
  | some o =>
    rw [e] at c2
    cases o with
    | none => cases c2
    | some v =>
      cases v with
      | str j t =>
        have ej : j = z := of_decide_eq_true c2
        have h := g.some_ _ _ e
        have ht : tokA mg x = t := by unfold tokA; rw [h]
        rw [ht, ← ej]; exact h
      | _ => cases c2
theorem Good.fd (g : Good w K mg) (i : Nat) {d : He.DefD} (h : fn[i]? = some d) (h1 : d.dfl = []) (h2 : d.kwd = []) :
    FunD K d.name d.qual d.params d.body d.scope [] [] (He.fAd K d.at_) (fdA K (He.fAd K d.at_)) := by
  obtain ⟨fd, F⟩ := g.t.d.def_ i h
  have e1 : d.dvs K = [] := by unfold He.DefD.dvs; rw [h1]; rfl
  have e2 : d.kws K = [] := by unfold He.DefD.kws; rw [h2]; rfl
  rw [e1, e2] at F
  obtain ⟨oc, od, dV, kV, doc, pm, an, cdv, ct, osl, q1, q2, q3⟩ := F.ex
  have e3 : fdA K (He.fAd K d.at_) = fd := by unfold fdA; rw [q2]
  rw [e3]
  exact F
/-- how a def without defaults is called -/
theorem bindsOf {x qual : Str} {params : Arguments} {body : List Stmt} {scope : Scope} {f : Addr} {fd : FuncData} {ps : List Str} (F : FunD K x qual params body scope [] [] f fd)
    (h : ∀ (kV doc pm : Value) (an : Option Addr) (cdv ct : Value) (us : List Value), us.length = ps.length → bindArgs (PySem.W.fnOf x qual params body scope .none kV doc pm an cdv ct) ⟨us, []⟩ = pure (ps.zip us)) : Binds K fd ps [] := F.bindsN h

theorem F_Reader_init (g : Good w K mg) : FunD K "__init__" "Reader.__init__" (defArgs s_Reader_init) (defBody s_Reader_init) (defScope s_Reader_init) [] [] (He.ma K (He.ga K "Reader") "__init__") (fdA K (He.ma K (He.ga K "Reader") "__init__")) := g.fd 0 (d := d_Reader_init) rfl rfl rfl
theorem b_Reader_init (g : Good w K mg) : Binds K (fdA K (He.ma K (He.ga K "Reader") "__init__")) ["self", "words"] [] := bindsOf (F_Reader_init g) fun _ _ _ _ _ _ us hl => match us, hl with | [_, _], _ => rfl
theorem F_Reader_peek (g : Good w K mg) : FunD K "peek" "Reader.peek" (defArgs s_Reader_peek) (defBody s_Reader_peek) (defScope s_Reader_peek) [] [] (He.ma K (He.ga K "Reader") "peek") (fdA K (He.ma K (He.ga K "Reader") "peek")) := g.fd 1 (d := d_Reader_peek) rfl rfl rfl
theorem b_Reader_peek (g : Good w K mg) : Binds K (fdA K (He.ma K (He.ga K "Reader") "peek")) ["self"] [] := bindsOf (F_Reader_peek g) fun _ _ _ _ _ _ us hl => match us, hl with | [_], _ => rfl
theorem F_Reader_take (g : Good w K mg) : FunD K "take" "Reader.take" (defArgs s_Reader_take) (defBody s_Reader_take) (defScope s_Reader_take) [] [] (He.ma K (He.ga K "Reader") "take") (fdA K (He.ma K (He.ga K "Reader") "take")) := g.fd 2 (d := d_Reader_take) rfl rfl rfl
theorem b_Reader_take (g : Good w K mg) : Binds K (fdA K (He.ma K (He.ga K "Reader") "take")) ["self"] [] := bindsOf (F_Reader_take g) fun _ _ _ _ _ _ us hl => match us, hl with | [_], _ => rfl
theorem F_Reader_expect (g : Good w K mg) : FunD K "expect" "Reader.expect" (defArgs s_Reader_expect) (defBody s_Reader_expect) (defScope s_Reader_expect) [] [] (He.ma K (He.ga K "Reader") "expect") (fdA K (He.ma K (He.ga K "Reader") "expect")) := g.fd 3 (d := d_Reader_expect) rfl rfl rfl
theorem b_Reader_expect (g : Good w K mg) : Binds K (fdA K (He.ma K (He.ga K "Reader") "expect")) ["self", "word"] [] := bindsOf (F_Reader_expect g) fun _ _ _ _ _ _ us hl => match us, hl with | [_, _], _ => rfl
theorem F_Reader_finish (g : Good w K mg) : FunD K "finish" "Reader.finish" (defArgs s_Reader_finish) (defBody s_Reader_finish) (defScope s_Reader_finish) [] [] (He.ma K (He.ga K "Reader") "finish") (fdA K (He.ma K (He.ga K "Reader") "finish")) := g.fd 4 (d := d_Reader_finish) rfl rfl rfl
theorem b_Reader_finish (g : Good w K mg) : Binds K (fdA K (He.ma K (He.ga K "Reader") "finish")) ["self"] [] := bindsOf (F_Reader_finish g) fun _ _ _ _ _ _ us hl => match us, hl with | [_], _ => rfl
theorem F_words_of (g : Good w K mg) : FunD K "words_of" "words_of" (defArgs s_words_of) (defBody s_words_of) (defScope s_words_of) [] [] (He.ga K "words_of") (fdA K (He.ga K "words_of")) := g.fd 5 (d := d_words_of) rfl rfl rfl
theorem b_words_of (g : Good w K mg) : Binds K (fdA K (He.ga K "words_of")) ["command"] [] := bindsOf (F_words_of g) fun _ _ _ _ _ _ us hl => match us, hl with | [_], _ => rfl
theorem m_words_of (g : Good w K mg) : mg "words_of" = some (.ref (He.ga K "words_of")) := g.glo (g.t.d.fact 16 (f := .glo "words_of") rfl)
theorem F_is_name (g : Good w K mg) : FunD K "is_name" "is_name" (defArgs s_is_name) (defBody s_is_name) (defScope s_is_name) [] [] (He.ga K "is_name") (fdA K (He.ga K "is_name")) := g.fd 6 (d := d_is_name) rfl rfl rfl
theorem b_is_name (g : Good w K mg) : Binds K (fdA K (He.ga K "is_name")) ["word"] [] := bindsOf (F_is_name g) fun _ _ _ _ _ _ us hl => match us, hl with | [_], _ => rfl
theorem m_is_name (g : Good w K mg) : mg "is_name" = some (.ref (He.ga K "is_name")) := g.glo (g.t.d.fact 17 (f := .glo "is_name") rfl)
theorem F_is_number (g : Good w K mg) : FunD K "is_number" "is_number" (defArgs s_is_number) (defBody s_is_number) (defScope s_is_number) [] [] (He.ga K "is_number") (fdA K (He.ga K "is_number")) := g.fd 7 (d := d_is_number) rfl rfl rfl
theorem b_is_number (g : Good w K mg) : Binds K (fdA K (He.ga K "is_number")) ["word"] [] := bindsOf (F_is_number g) fun _ _ _ _ _ _ us hl => match us, hl with | [_], _ => rfl
theorem m_is_number (g : Good w K mg) : mg "is_number" = some (.ref (He.ga K "is_number")) := g.glo (g.t.d.fact 18 (f := .glo "is_number") rfl)
theorem F_take_name (g : Good w K mg) : FunD K "take_name" "take_name" (defArgs s_take_name) (defBody s_take_name) (defScope s_take_name) [] [] (He.ga K "take_name") (fdA K (He.ga K "take_name")) := g.fd 8 (d := d_take_name) rfl rfl rfl
theorem b_take_name (g : Good w K mg) : Binds K (fdA K (He.ga K "take_name")) ["reader"] [] := bindsOf (F_take_name g) fun _ _ _ _ _ _ us hl => match us, hl with | [_], _ => rfl
theorem m_take_name (g : Good w K mg) : mg "take_name" = some (.ref (He.ga K "take_name")) := g.glo (g.t.d.fact 19 (f := .glo "take_name") rfl)
theorem F_take_number (g : Good w K mg) : FunD K "take_number" "take_number" (defArgs s_take_number) (defBody s_take_number) (defScope s_take_number) [] [] (He.ga K "take_number") (fdA K (He.ga K "take_number")) := g.fd 9 (d := d_take_number) rfl rfl rfl
theorem b_take_number (g : Good w K mg) : Binds K (fdA K (He.ga K "take_number")) ["reader", "least", "most"] [] := bindsOf (F_take_number g) fun _ _ _ _ _ _ us hl => match us, hl with | [_, _, _], _ => rfl
theorem m_take_number (g : Good w K mg) : mg "take_number" = some (.ref (He.ga K "take_number")) := g.glo (g.t.d.fact 20 (f := .glo "take_number") rfl)
theorem F_read_term (g : Good w K mg) : FunD K "read_term" "read_term" (defArgs s_read_term) (defBody s_read_term) (defScope s_read_term) [] [] (He.ga K "read_term") (fdA K (He.ga K "read_term")) := g.fd 10 (d := d_read_term) rfl rfl rfl
theorem b_read_term (g : Good w K mg) : Binds K (fdA K (He.ga K "read_term")) ["reader", "factor"] [] := bindsOf (F_read_term g) fun _ _ _ _ _ _ us hl => match us, hl with | [_, _], _ => rfl
theorem m_read_term (g : Good w K mg) : mg "read_term" = some (.ref (He.ga K "read_term")) := g.glo (g.t.d.fact 24 (f := .glo "read_term") rfl)
theorem F_read_sum (g : Good w K mg) : FunD K "read_sum" "read_sum" (defArgs s_read_sum) (defBody s_read_sum) (defScope s_read_sum) [] [] (He.ga K "read_sum") (fdA K (He.ga K "read_sum")) := g.fd 11 (d := d_read_sum) rfl rfl rfl
theorem b_read_sum (g : Good w K mg) : Binds K (fdA K (He.ga K "read_sum")) ["reader"] [] := bindsOf (F_read_sum g) fun _ _ _ _ _ _ us hl => match us, hl with | [_], _ => rfl
theorem m_read_sum (g : Good w K mg) : mg "read_sum" = some (.ref (He.ga K "read_sum")) := g.glo (g.t.d.fact 25 (f := .glo "read_sum") rfl)
theorem F_read_comparison (g : Good w K mg) : FunD K "read_comparison" "read_comparison" (defArgs s_read_comparison) (defBody s_read_comparison) (defScope s_read_comparison) [] [] (He.ga K "read_comparison") (fdA K (He.ga K "read_comparison")) := g.fd 12 (d := d_read_comparison) rfl rfl rfl
theorem b_read_comparison (g : Good w K mg) : Binds K (fdA K (He.ga K "read_comparison")) ["reader"] [] := bindsOf (F_read_comparison g) fun _ _ _ _ _ _ us hl => match us, hl with | [_], _ => rfl
theorem m_read_comparison (g : Good w K mg) : mg "read_comparison" = some (.ref (He.ga K "read_comparison")) := g.glo (g.t.d.fact 26 (f := .glo "read_comparison") rfl)
theorem F_read_single (g : Good w K mg) : FunD K "read_single" "read_single" (defArgs s_read_single) (defBody s_read_single) (defScope s_read_single) [] [] (He.ga K "read_single") (fdA K (He.ga K "read_single")) := g.fd 13 (d := d_read_single) rfl rfl rfl
theorem b_read_single (g : Good w K mg) : Binds K (fdA K (He.ga K "read_single")) ["reader", "depth"] [] := bindsOf (F_read_single g) fun _ _ _ _ _ _ us hl => match us, hl with | [_, _], _ => rfl
theorem m_read_single (g : Good w K mg) : mg "read_single" = some (.ref (He.ga K "read_single")) := g.glo (g.t.d.fact 27 (f := .glo "read_single") rfl)
theorem F_read_conjunction (g : Good w K mg) : FunD K "read_conjunction" "read_conjunction" (defArgs s_read_conjunction) (defBody s_read_conjunction) (defScope s_read_conjunction) [] [] (He.ga K "read_conjunction") (fdA K (He.ga K "read_conjunction")) := g.fd 14 (d := d_read_conjunction) rfl rfl rfl
theorem b_read_conjunction (g : Good w K mg) : Binds K (fdA K (He.ga K "read_conjunction")) ["reader", "depth"] [] := bindsOf (F_read_conjunction g) fun _ _ _ _ _ _ us hl => match us, hl with | [_, _], _ => rfl
theorem m_read_conjunction (g : Good w K mg) : mg "read_conjunction" = some (.ref (He.ga K "read_conjunction")) := g.glo (g.t.d.fact 28 (f := .glo "read_conjunction") rfl)
theorem F_read_condition (g : Good w K mg) : FunD K "read_condition" "read_condition" (defArgs s_read_condition) (defBody s_read_condition) (defScope s_read_condition) [] [] (He.ga K "read_condition") (fdA K (He.ga K "read_condition")) := g.fd 15 (d := d_read_condition) rfl rfl rfl
theorem b_read_condition (g : Good w K mg) : Binds K (fdA K (He.ga K "read_condition")) ["reader", "depth"] [] := bindsOf (F_read_condition g) fun _ _ _ _ _ _ us hl => match us, hl with | [_, _], _ => rfl
theorem m_read_condition (g : Good w K mg) : mg "read_condition" = some (.ref (He.ga K "read_condition")) := g.glo (g.t.d.fact 29 (f := .glo "read_condition") rfl)
theorem F_show_sum (g : Good w K mg) : FunD K "show_sum" "show_sum" (defArgs s_show_sum) (defBody s_show_sum) (defScope s_show_sum) [] [] (He.ga K "show_sum") (fdA K (He.ga K "show_sum")) := g.fd 16 (d := d_show_sum) rfl rfl rfl
theorem b_show_sum (g : Good w K mg) : Binds K (fdA K (He.ga K "show_sum")) ["terms"] [] := bindsOf (F_show_sum g) fun _ _ _ _ _ _ us hl => match us, hl with | [_], _ => rfl
theorem m_show_sum (g : Good w K mg) : mg "show_sum" = some (.ref (He.ga K "show_sum")) := g.glo (g.t.d.fact 30 (f := .glo "show_sum") rfl)
theorem F_show_comparison (g : Good w K mg) : FunD K "show_comparison" "show_comparison" (defArgs s_show_comparison) (defBody s_show_comparison) (defScope s_show_comparison) [] [] (He.ga K "show_comparison") (fdA K (He.ga K "show_comparison")) := g.fd 17 (d := d_show_comparison) rfl rfl rfl
theorem b_show_comparison (g : Good w K mg) : Binds K (fdA K (He.ga K "show_comparison")) ["comparison"] [] := bindsOf (F_show_comparison g) fun _ _ _ _ _ _ us hl => match us, hl with | [_], _ => rfl
theorem m_show_comparison (g : Good w K mg) : mg "show_comparison" = some (.ref (He.ga K "show_comparison")) := g.glo (g.t.d.fact 31 (f := .glo "show_comparison") rfl)
theorem F_show_part (g : Good w K mg) : FunD K "show_part" "show_part" (defArgs s_show_part) (defBody s_show_part) (defScope s_show_part) [] [] (He.ga K "show_part") (fdA K (He.ga K "show_part")) := g.fd 18 (d := d_show_part) rfl rfl rfl
theorem b_show_part (g : Good w K mg) : Binds K (fdA K (He.ga K "show_part")) ["part", "tightness"] [] := bindsOf (F_show_part g) fun _ _ _ _ _ _ us hl => match us, hl with | [_, _], _ => rfl
theorem m_show_part (g : Good w K mg) : mg "show_part" = some (.ref (He.ga K "show_part")) := g.glo (g.t.d.fact 32 (f := .glo "show_part") rfl)
theorem F_show_chain (g : Good w K mg) : FunD K "show_chain" "show_chain" (defArgs s_show_chain) (defBody s_show_chain) (defScope s_show_chain) [] [] (He.ga K "show_chain") (fdA K (He.ga K "show_chain")) := g.fd 19 (d := d_show_chain) rfl rfl rfl
theorem b_show_chain (g : Good w K mg) : Binds K (fdA K (He.ga K "show_chain")) ["sign", "parts"] [] := bindsOf (F_show_chain g) fun _ _ _ _ _ _ us hl => match us, hl with | [_, _], _ => rfl
theorem m_show_chain (g : Good w K mg) : mg "show_chain" = some (.ref (He.ga K "show_chain")) := g.glo (g.t.d.fact 33 (f := .glo "show_chain") rfl)
theorem F_show_condition (g : Good w K mg) : FunD K "show_condition" "show_condition" (defArgs s_show_condition) (defBody s_show_condition) (defScope s_show_condition) [] [] (He.ga K "show_condition") (fdA K (He.ga K "show_condition")) := g.fd 20 (d := d_show_condition) rfl rfl rfl
theorem b_show_condition (g : Good w K mg) : Binds K (fdA K (He.ga K "show_condition")) ["condition"] [] := bindsOf (F_show_condition g) fun _ _ _ _ _ _ us hl => match us, hl with | [_], _ => rfl
theorem m_show_condition (g : Good w K mg) : mg "show_condition" = some (.ref (He.ga K "show_condition")) := g.glo (g.t.d.fact 34 (f := .glo "show_condition") rfl)
theorem F_comparisons (g : Good w K mg) : FunD K "comparisons" "comparisons" (defArgs s_comparisons) (defBody s_comparisons) (defScope s_comparisons) [] [] (He.ga K "comparisons") (fdA K (He.ga K "comparisons")) := g.fd 21 (d := d_comparisons) rfl rfl rfl
theorem b_comparisons (g : Good w K mg) : Binds K (fdA K (He.ga K "comparisons")) ["condition"] [] := bindsOf (F_comparisons g) fun _ _ _ _ _ _ us hl => match us, hl with | [_], _ => rfl
theorem m_comparisons (g : Good w K mg) : mg "comparisons" = some (.ref (He.ga K "comparisons")) := g.glo (g.t.d.fact 35 (f := .glo "comparisons") rfl)
theorem F_names_in_sum (g : Good w K mg) : FunD K "names_in_sum" "names_in_sum" (defArgs s_names_in_sum) (defBody s_names_in_sum) (defScope s_names_in_sum) [] [] (He.ga K "names_in_sum") (fdA K (He.ga K "names_in_sum")) := g.fd 22 (d := d_names_in_sum) rfl rfl rfl
theorem b_names_in_sum (g : Good w K mg) : Binds K (fdA K (He.ga K "names_in_sum")) ["terms"] [] := bindsOf (F_names_in_sum g) fun _ _ _ _ _ _ us hl => match us, hl with | [_], _ => rfl
theorem m_names_in_sum (g : Good w K mg) : mg "names_in_sum" = some (.ref (He.ga K "names_in_sum")) := g.glo (g.t.d.fact 36 (f := .glo "names_in_sum") rfl)
theorem F_names_in_condition (g : Good w K mg) : FunD K "names_in_condition" "names_in_condition" (defArgs s_names_in_condition) (defBody s_names_in_condition) (defScope s_names_in_condition) [] [] (He.ga K "names_in_condition") (fdA K (He.ga K "names_in_condition")) := g.fd 23 (d := d_names_in_condition) rfl rfl rfl
theorem b_names_in_condition (g : Good w K mg) : Binds K (fdA K (He.ga K "names_in_condition")) ["condition"] [] := bindsOf (F_names_in_condition g) fun _ _ _ _ _ _ us hl => match us, hl with | [_], _ => rfl
theorem m_names_in_condition (g : Good w K mg) : mg "names_in_condition" = some (.ref (He.ga K "names_in_condition")) := g.glo (g.t.d.fact 37 (f := .glo "names_in_condition") rfl)
theorem F_total (g : Good w K mg) : FunD K "total" "total" (defArgs s_total) (defBody s_total) (defScope s_total) [] [] (He.ga K "total") (fdA K (He.ga K "total")) := g.fd 24 (d := d_total) rfl rfl rfl
theorem b_total (g : Good w K mg) : Binds K (fdA K (He.ga K "total")) ["terms", "readings"] [] := bindsOf (F_total g) fun _ _ _ _ _ _ us hl => match us, hl with | [_, _], _ => rfl
theorem m_total (g : Good w K mg) : mg "total" = some (.ref (He.ga K "total")) := g.glo (g.t.d.fact 38 (f := .glo "total") rfl)
theorem F_compares (g : Good w K mg) : FunD K "compares" "compares" (defArgs s_compares) (defBody s_compares) (defScope s_compares) [] [] (He.ga K "compares") (fdA K (He.ga K "compares")) := g.fd 25 (d := d_compares) rfl rfl rfl
theorem b_compares (g : Good w K mg) : Binds K (fdA K (He.ga K "compares")) ["comparison", "readings"] [] := bindsOf (F_compares g) fun _ _ _ _ _ _ us hl => match us, hl with | [_, _], _ => rfl
theorem m_compares (g : Good w K mg) : mg "compares" = some (.ref (He.ga K "compares")) := g.glo (g.t.d.fact 39 (f := .glo "compares") rfl)
theorem F_holds (g : Good w K mg) : FunD K "holds" "holds" (defArgs s_holds) (defBody s_holds) (defScope s_holds) [] [] (He.ga K "holds") (fdA K (He.ga K "holds")) := g.fd 26 (d := d_holds) rfl rfl rfl
theorem b_holds (g : Good w K mg) : Binds K (fdA K (He.ga K "holds")) ["condition", "readings"] [] := bindsOf (F_holds g) fun _ _ _ _ _ _ us hl => match us, hl with | [_, _], _ => rfl
theorem m_holds (g : Good w K mg) : mg "holds" = some (.ref (He.ga K "holds")) := g.glo (g.t.d.fact 40 (f := .glo "holds") rfl)
theorem F_speaks (g : Good w K mg) : FunD K "speaks" "speaks" (defArgs s_speaks) (defBody s_speaks) (defScope s_speaks) [] [] (He.ga K "speaks") (fdA K (He.ga K "speaks")) := g.fd 27 (d := d_speaks) rfl rfl rfl
theorem b_speaks (g : Good w K mg) : Binds K (fdA K (He.ga K "speaks")) ["rule"] [] := bindsOf (F_speaks g) fun _ _ _ _ _ _ us hl => match us, hl with | [_], _ => rfl
theorem m_speaks (g : Good w K mg) : mg "speaks" = some (.ref (He.ga K "speaks")) := g.glo (g.t.d.fact 43 (f := .glo "speaks") rfl)
theorem F_hold_lasts (g : Good w K mg) : FunD K "hold_lasts" "hold_lasts" (defArgs s_hold_lasts) (defBody s_hold_lasts) (defScope s_hold_lasts) [] [] (He.ga K "hold_lasts") (fdA K (He.ga K "hold_lasts")) := g.fd 28 (d := d_hold_lasts) rfl rfl rfl
theorem b_hold_lasts (g : Good w K mg) : Binds K (fdA K (He.ga K "hold_lasts")) ["thing", "clock"] [] := bindsOf (F_hold_lasts g) fun _ _ _ _ _ _ us hl => match us, hl with | [_, _], _ => rfl
theorem m_hold_lasts (g : Good w K mg) : mg "hold_lasts" = some (.ref (He.ga K "hold_lasts")) := g.glo (g.t.d.fact 44 (f := .glo "hold_lasts") rfl)
theorem F_readings_of (g : Good w K mg) : FunD K "readings_of" "readings_of" (defArgs s_readings_of) (defBody s_readings_of) (defScope s_readings_of) [] [] (He.ga K "readings_of") (fdA K (He.ga K "readings_of")) := g.fd 29 (d := d_readings_of) rfl rfl rfl
theorem b_readings_of (g : Good w K mg) : Binds K (fdA K (He.ga K "readings_of")) ["house"] [] := bindsOf (F_readings_of g) fun _ _ _ _ _ _ us hl => match us, hl with | [_], _ => rfl
theorem m_readings_of (g : Good w K mg) : mg "readings_of" = some (.ref (He.ga K "readings_of")) := g.glo (g.t.d.fact 45 (f := .glo "readings_of") rfl)
theorem F_count_minute (g : Good w K mg) : FunD K "count_minute" "count_minute" (defArgs s_count_minute) (defBody s_count_minute) (defScope s_count_minute) [] [] (He.ga K "count_minute") (fdA K (He.ga K "count_minute")) := g.fd 30 (d := d_count_minute) rfl rfl rfl
theorem b_count_minute (g : Good w K mg) : Binds K (fdA K (He.ga K "count_minute")) ["rule", "readings"] [] := bindsOf (F_count_minute g) fun _ _ _ _ _ _ us hl => match us, hl with | [_, _], _ => rfl
theorem m_count_minute (g : Good w K mg) : mg "count_minute" = some (.ref (He.ga K "count_minute")) := g.glo (g.t.d.fact 46 (f := .glo "count_minute") rfl)
theorem F_find_target (g : Good w K mg) : FunD K "find_target" "find_target" (defArgs s_find_target) (defBody s_find_target) (defScope s_find_target) [] [] (He.ga K "find_target") (fdA K (He.ga K "find_target")) := g.fd 31 (d := d_find_target) rfl rfl rfl
theorem b_find_target (g : Good w K mg) : Binds K (fdA K (He.ga K "find_target")) ["house", "name", "readings"] [] := bindsOf (F_find_target g) fun _ _ _ _ _ _ us hl => match us, hl with | [_, _, _], _ => rfl
theorem m_find_target (g : Good w K mg) : mg "find_target" = some (.ref (He.ga K "find_target")) := g.glo (g.t.d.fact 47 (f := .glo "find_target") rfl)
theorem F_settle (g : Good w K mg) : FunD K "settle" "settle" (defArgs s_settle) (defBody s_settle) (defScope s_settle) [] [] (He.ga K "settle") (fdA K (He.ga K "settle")) := g.fd 32 (d := d_settle) rfl rfl rfl
theorem b_settle (g : Good w K mg) : Binds K (fdA K (He.ga K "settle")) ["house"] [] := bindsOf (F_settle g) fun _ _ _ _ _ _ us hl => match us, hl with | [_], _ => rfl
theorem m_settle (g : Good w K mg) : mg "settle" = some (.ref (He.ga K "settle")) := g.glo (g.t.d.fact 48 (f := .glo "settle") rfl)
theorem F_pass_minute (g : Good w K mg) : FunD K "pass_minute" "pass_minute" (defArgs s_pass_minute) (defBody s_pass_minute) (defScope s_pass_minute) [] [] (He.ga K "pass_minute") (fdA K (He.ga K "pass_minute")) := g.fd 33 (d := d_pass_minute) rfl rfl rfl
theorem b_pass_minute (g : Good w K mg) : Binds K (fdA K (He.ga K "pass_minute")) ["house"] [] := bindsOf (F_pass_minute g) fun _ _ _ _ _ _ us hl => match us, hl with | [_], _ => rfl
theorem m_pass_minute (g : Good w K mg) : mg "pass_minute" = some (.ref (He.ga K "pass_minute")) := g.glo (g.t.d.fact 49 (f := .glo "pass_minute") rfl)
theorem F_record_minute (g : Good w K mg) : FunD K "record_minute" "record_minute" (defArgs s_record_minute) (defBody s_record_minute) (defScope s_record_minute) [] [] (He.ga K "record_minute") (fdA K (He.ga K "record_minute")) := g.fd 34 (d := d_record_minute) rfl rfl rfl
theorem b_record_minute (g : Good w K mg) : Binds K (fdA K (He.ga K "record_minute")) ["house"] [] := bindsOf (F_record_minute g) fun _ _ _ _ _ _ us hl => match us, hl with | [_], _ => rfl
theorem m_record_minute (g : Good w K mg) : mg "record_minute" = some (.ref (He.ga K "record_minute")) := g.glo (g.t.d.fact 50 (f := .glo "record_minute") rfl)
theorem F_Hold_init (g : Good w K mg) : FunD K "__init__" "Hold.__init__" (defArgs s_Hold_init) (defBody s_Hold_init) (defScope s_Hold_init) [] [] (He.ma K (He.ga K "Hold") "__init__") (fdA K (He.ma K (He.ga K "Hold") "__init__")) := g.fd 35 (d := d_Hold_init) rfl rfl rfl
theorem b_Hold_init (g : Good w K mg) : Binds K (fdA K (He.ma K (He.ga K "Hold") "__init__")) ["self", "value", "rank", "end"] [] := bindsOf (F_Hold_init g) fun _ _ _ _ _ _ us hl => match us, hl with | [_, _, _, _], _ => rfl
theorem F_Thing_init (g : Good w K mg) : FunD K "__init__" "Thing.__init__" (defArgs s_Thing_init) (defBody s_Thing_init) (defScope s_Thing_init) [] [] (He.ma K (He.ga K "Thing") "__init__") (fdA K (He.ma K (He.ga K "Thing") "__init__")) := g.fd 36 (d := d_Thing_init) rfl rfl rfl
theorem b_Thing_init (g : Good w K mg) : Binds K (fdA K (He.ma K (He.ga K "Thing") "__init__")) ["self", "value", "born"] [] := bindsOf (F_Thing_init g) fun _ _ _ _ _ _ us hl => match us, hl with | [_, _, _], _ => rfl
theorem F_Rule_init (g : Good w K mg) : FunD K "__init__" "Rule.__init__" (defArgs s_Rule_init) (defBody s_Rule_init) (defScope s_Rule_init) [] [] (He.ma K (He.ga K "Rule") "__init__") (fdA K (He.ma K (He.ga K "Rule") "__init__")) := g.fd 37 (d := d_Rule_init) rfl rfl rfl
theorem b_Rule_init (g : Good w K mg) : Binds K (fdA K (He.ma K (He.ga K "Rule") "__init__")) ["self", "rank", "delay", "condition", "thing", "amount"] [] := bindsOf (F_Rule_init g) fun _ _ _ _ _ _ us hl => match us, hl with | [_, _, _, _, _, _], _ => rfl
theorem F_House_init (g : Good w K mg) : FunD K "__init__" "House.__init__" (defArgs s_House_init) (defBody s_House_init) (defScope s_House_init) [] [] (He.ma K (He.ga K "House") "__init__") (fdA K (He.ma K (He.ga K "House") "__init__")) := g.fd 38 (d := d_House_init) rfl rfl rfl
theorem b_House_init (g : Good w K mg) : Binds K (fdA K (He.ma K (He.ga K "House") "__init__")) ["self"] [] := bindsOf (F_House_init g) fun _ _ _ _ _ _ us hl => match us, hl with | [_], _ => rfl
theorem F_twin_of_thing (g : Good w K mg) : FunD K "twin_of_thing" "twin_of_thing" (defArgs s_twin_of_thing) (defBody s_twin_of_thing) (defScope s_twin_of_thing) [] [] (He.ga K "twin_of_thing") (fdA K (He.ga K "twin_of_thing")) := g.fd 39 (d := d_twin_of_thing) rfl rfl rfl
theorem b_twin_of_thing (g : Good w K mg) : Binds K (fdA K (He.ga K "twin_of_thing")) ["thing"] [] := bindsOf (F_twin_of_thing g) fun _ _ _ _ _ _ us hl => match us, hl with | [_], _ => rfl
theorem m_twin_of_thing (g : Good w K mg) : mg "twin_of_thing" = some (.ref (He.ga K "twin_of_thing")) := g.glo (g.t.d.fact 83 (f := .glo "twin_of_thing") rfl)
theorem F_twin_of_rule (g : Good w K mg) : FunD K "twin_of_rule" "twin_of_rule" (defArgs s_twin_of_rule) (defBody s_twin_of_rule) (defScope s_twin_of_rule) [] [] (He.ga K "twin_of_rule") (fdA K (He.ga K "twin_of_rule")) := g.fd 40 (d := d_twin_of_rule) rfl rfl rfl
theorem b_twin_of_rule (g : Good w K mg) : Binds K (fdA K (He.ga K "twin_of_rule")) ["rule"] [] := bindsOf (F_twin_of_rule g) fun _ _ _ _ _ _ us hl => match us, hl with | [_], _ => rfl
theorem m_twin_of_rule (g : Good w K mg) : mg "twin_of_rule" = some (.ref (He.ga K "twin_of_rule")) := g.glo (g.t.d.fact 84 (f := .glo "twin_of_rule") rfl)
theorem F_twin_of_house (g : Good w K mg) : FunD K "twin_of_house" "twin_of_house" (defArgs s_twin_of_house) (defBody s_twin_of_house) (defScope s_twin_of_house) [] [] (He.ga K "twin_of_house") (fdA K (He.ga K "twin_of_house")) := g.fd 41 (d := d_twin_of_house) rfl rfl rfl
theorem b_twin_of_house (g : Good w K mg) : Binds K (fdA K (He.ga K "twin_of_house")) ["house"] [] := bindsOf (F_twin_of_house g) fun _ _ _ _ _ _ us hl => match us, hl with | [_], _ => rfl
theorem m_twin_of_house (g : Good w K mg) : mg "twin_of_house" = some (.ref (He.ga K "twin_of_house")) := g.glo (g.t.d.fact 85 (f := .glo "twin_of_house") rfl)
theorem F_is_taken (g : Good w K mg) : FunD K "is_taken" "is_taken" (defArgs s_is_taken) (defBody s_is_taken) (defScope s_is_taken) [] [] (He.ga K "is_taken") (fdA K (He.ga K "is_taken")) := g.fd 42 (d := d_is_taken) rfl rfl rfl
theorem b_is_taken (g : Good w K mg) : Binds K (fdA K (He.ga K "is_taken")) ["house", "name"] [] := bindsOf (F_is_taken g) fun _ _ _ _ _ _ us hl => match us, hl with | [_, _], _ => rfl
theorem m_is_taken (g : Good w K mg) : mg "is_taken" = some (.ref (He.ga K "is_taken")) := g.glo (g.t.d.fact 89 (f := .glo "is_taken") rfl)
theorem F_add_sensor (g : Good w K mg) : FunD K "add_sensor" "add_sensor" (defArgs s_add_sensor) (defBody s_add_sensor) (defScope s_add_sensor) [] [] (He.ga K "add_sensor") (fdA K (He.ga K "add_sensor")) := g.fd 43 (d := d_add_sensor) rfl rfl rfl
theorem b_add_sensor (g : Good w K mg) : Binds K (fdA K (He.ga K "add_sensor")) ["house", "arguments"] [] := bindsOf (F_add_sensor g) fun _ _ _ _ _ _ us hl => match us, hl with | [_, _], _ => rfl
theorem m_add_sensor (g : Good w K mg) : mg "add_sensor" = some (.ref (He.ga K "add_sensor")) := g.glo (g.t.d.fact 90 (f := .glo "add_sensor") rfl)
theorem F_add_thing (g : Good w K mg) : FunD K "add_thing" "add_thing" (defArgs s_add_thing) (defBody s_add_thing) (defScope s_add_thing) [] [] (He.ga K "add_thing") (fdA K (He.ga K "add_thing")) := g.fd 44 (d := d_add_thing) rfl rfl rfl
theorem b_add_thing (g : Good w K mg) : Binds K (fdA K (He.ga K "add_thing")) ["house", "arguments"] [] := bindsOf (F_add_thing g) fun _ _ _ _ _ _ us hl => match us, hl with | [_, _], _ => rfl
theorem m_add_thing (g : Good w K mg) : mg "add_thing" = some (.ref (He.ga K "add_thing")) := g.glo (g.t.d.fact 91 (f := .glo "add_thing") rfl)
theorem F_set_sensor (g : Good w K mg) : FunD K "set_sensor" "set_sensor" (defArgs s_set_sensor) (defBody s_set_sensor) (defScope s_set_sensor) [] [] (He.ga K "set_sensor") (fdA K (He.ga K "set_sensor")) := g.fd 45 (d := d_set_sensor) rfl rfl rfl
theorem b_set_sensor (g : Good w K mg) : Binds K (fdA K (He.ga K "set_sensor")) ["house", "arguments"] [] := bindsOf (F_set_sensor g) fun _ _ _ _ _ _ us hl => match us, hl with | [_, _], _ => rfl
theorem m_set_sensor (g : Good w K mg) : mg "set_sensor" = some (.ref (He.ga K "set_sensor")) := g.glo (g.t.d.fact 92 (f := .glo "set_sensor") rfl)
theorem F_set_deaf (g : Good w K mg) : FunD K "set_deaf" "set_deaf" (defArgs s_set_deaf) (defBody s_set_deaf) (defScope s_set_deaf) [] [] (He.ga K "set_deaf") (fdA K (He.ga K "set_deaf")) := g.fd 46 (d := d_set_deaf) rfl rfl rfl
theorem b_set_deaf (g : Good w K mg) : Binds K (fdA K (He.ga K "set_deaf")) ["house", "name", "deaf"] [] := bindsOf (F_set_deaf g) fun _ _ _ _ _ _ us hl => match us, hl with | [_, _, _], _ => rfl
theorem m_set_deaf (g : Good w K mg) : mg "set_deaf" = some (.ref (He.ga K "set_deaf")) := g.glo (g.t.d.fact 93 (f := .glo "set_deaf") rfl)
theorem F_make_deaf (g : Good w K mg) : FunD K "make_deaf" "make_deaf" (defArgs s_make_deaf) (defBody s_make_deaf) (defScope s_make_deaf) [] [] (He.ga K "make_deaf") (fdA K (He.ga K "make_deaf")) := g.fd 47 (d := d_make_deaf) rfl rfl rfl
theorem b_make_deaf (g : Good w K mg) : Binds K (fdA K (He.ga K "make_deaf")) ["house", "arguments"] [] := bindsOf (F_make_deaf g) fun _ _ _ _ _ _ us hl => match us, hl with | [_, _], _ => rfl
theorem m_make_deaf (g : Good w K mg) : mg "make_deaf" = some (.ref (He.ga K "make_deaf")) := g.glo (g.t.d.fact 94 (f := .glo "make_deaf") rfl)
theorem F_make_hear (g : Good w K mg) : FunD K "make_hear" "make_hear" (defArgs s_make_hear) (defBody s_make_hear) (defScope s_make_hear) [] [] (He.ga K "make_hear") (fdA K (He.ga K "make_hear")) := g.fd 48 (d := d_make_hear) rfl rfl rfl
theorem b_make_hear (g : Good w K mg) : Binds K (fdA K (He.ga K "make_hear")) ["house", "arguments"] [] := bindsOf (F_make_hear g) fun _ _ _ _ _ _ us hl => match us, hl with | [_, _], _ => rfl
theorem m_make_hear (g : Good w K mg) : mg "make_hear" = some (.ref (He.ga K "make_hear")) := g.glo (g.t.d.fact 95 (f := .glo "make_hear") rfl)
theorem F_move_by_hand (g : Good w K mg) : FunD K "move_by_hand" "move_by_hand" (defArgs s_move_by_hand) (defBody s_move_by_hand) (defScope s_move_by_hand) [] [] (He.ga K "move_by_hand") (fdA K (He.ga K "move_by_hand")) := g.fd 49 (d := d_move_by_hand) rfl rfl rfl
theorem b_move_by_hand (g : Good w K mg) : Binds K (fdA K (He.ga K "move_by_hand")) ["house", "arguments"] [] := bindsOf (F_move_by_hand g) fun _ _ _ _ _ _ us hl => match us, hl with | [_, _], _ => rfl
theorem m_move_by_hand (g : Good w K mg) : mg "move_by_hand" = some (.ref (He.ga K "move_by_hand")) := g.glo (g.t.d.fact 96 (f := .glo "move_by_hand") rfl)
theorem F_hold_thing (g : Good w K mg) : FunD K "hold_thing" "hold_thing" (defArgs s_hold_thing) (defBody s_hold_thing) (defScope s_hold_thing) [] [] (He.ga K "hold_thing") (fdA K (He.ga K "hold_thing")) := g.fd 50 (d := d_hold_thing) rfl rfl rfl
theorem b_hold_thing (g : Good w K mg) : Binds K (fdA K (He.ga K "hold_thing")) ["house", "arguments"] [] := bindsOf (F_hold_thing g) fun _ _ _ _ _ _ us hl => match us, hl with | [_, _], _ => rfl
theorem m_hold_thing (g : Good w K mg) : mg "hold_thing" = some (.ref (He.ga K "hold_thing")) := g.glo (g.t.d.fact 97 (f := .glo "hold_thing") rfl)
theorem F_free_thing (g : Good w K mg) : FunD K "free_thing" "free_thing" (defArgs s_free_thing) (defBody s_free_thing) (defScope s_free_thing) [] [] (He.ga K "free_thing") (fdA K (He.ga K "free_thing")) := g.fd 51 (d := d_free_thing) rfl rfl rfl
theorem b_free_thing (g : Good w K mg) : Binds K (fdA K (He.ga K "free_thing")) ["house", "arguments"] [] := bindsOf (F_free_thing g) fun _ _ _ _ _ _ us hl => match us, hl with | [_, _], _ => rfl
theorem m_free_thing (g : Good w K mg) : mg "free_thing" = some (.ref (He.ga K "free_thing")) := g.glo (g.t.d.fact 98 (f := .glo "free_thing") rfl)
theorem F_has_value (g : Good w K mg) : FunD K "has_value" "has_value" (defArgs s_has_value) (defBody s_has_value) (defScope s_has_value) [] [] (He.ga K "has_value") (fdA K (He.ga K "has_value")) := g.fd 52 (d := d_has_value) rfl rfl rfl
theorem b_has_value (g : Good w K mg) : Binds K (fdA K (He.ga K "has_value")) ["house", "name"] [] := bindsOf (F_has_value g) fun _ _ _ _ _ _ us hl => match us, hl with | [_, _], _ => rfl
theorem m_has_value (g : Good w K mg) : mg "has_value" = some (.ref (He.ga K "has_value")) := g.glo (g.t.d.fact 99 (f := .glo "has_value") rfl)
theorem F_add_rule (g : Good w K mg) : FunD K "add_rule" "add_rule" (defArgs s_add_rule) (defBody s_add_rule) (defScope s_add_rule) [] [] (He.ga K "add_rule") (fdA K (He.ga K "add_rule")) := g.fd 53 (d := d_add_rule) rfl rfl rfl
theorem b_add_rule (g : Good w K mg) : Binds K (fdA K (He.ga K "add_rule")) ["house", "arguments"] [] := bindsOf (F_add_rule g) fun _ _ _ _ _ _ us hl => match us, hl with | [_, _], _ => rfl
theorem m_add_rule (g : Good w K mg) : mg "add_rule" = some (.ref (He.ga K "add_rule")) := g.glo (g.t.d.fact 100 (f := .glo "add_rule") rfl)
theorem F_drop_rule (g : Good w K mg) : FunD K "drop_rule" "drop_rule" (defArgs s_drop_rule) (defBody s_drop_rule) (defScope s_drop_rule) [] [] (He.ga K "drop_rule") (fdA K (He.ga K "drop_rule")) := g.fd 54 (d := d_drop_rule) rfl rfl rfl
theorem b_drop_rule (g : Good w K mg) : Binds K (fdA K (He.ga K "drop_rule")) ["house", "arguments"] [] := bindsOf (F_drop_rule g) fun _ _ _ _ _ _ us hl => match us, hl with | [_, _], _ => rfl
theorem m_drop_rule (g : Good w K mg) : mg "drop_rule" = some (.ref (He.ga K "drop_rule")) := g.glo (g.t.d.fact 101 (f := .glo "drop_rule") rfl)
theorem F_pass_minutes (g : Good w K mg) : FunD K "pass_minutes" "pass_minutes" (defArgs s_pass_minutes) (defBody s_pass_minutes) (defScope s_pass_minutes) [] [] (He.ga K "pass_minutes") (fdA K (He.ga K "pass_minutes")) := g.fd 55 (d := d_pass_minutes) rfl rfl rfl
theorem b_pass_minutes (g : Good w K mg) : Binds K (fdA K (He.ga K "pass_minutes")) ["house", "arguments"] [] := bindsOf (F_pass_minutes g) fun _ _ _ _ _ _ us hl => match us, hl with | [_, _], _ => rfl
theorem m_pass_minutes (g : Good w K mg) : mg "pass_minutes" = some (.ref (He.ga K "pass_minutes")) := g.glo (g.t.d.fact 102 (f := .glo "pass_minutes") rfl)
theorem F_change (g : Good w K mg) : FunD K "change" "change" (defArgs s_change) (defBody s_change) (defScope s_change) [] [] (He.ga K "change") (fdA K (He.ga K "change")) := g.fd 56 (d := d_change) rfl rfl rfl
theorem b_change (g : Good w K mg) : Binds K (fdA K (He.ga K "change")) ["house", "word", "arguments"] [] := bindsOf (F_change g) fun _ _ _ _ _ _ us hl => match us, hl with | [_, _, _], _ => rfl
theorem m_change (g : Good w K mg) : mg "change" = some (.ref (He.ga K "change")) := g.glo (g.t.d.fact 104 (f := .glo "change") rfl)
theorem F_take_argument (g : Good w K mg) : FunD K "take_argument" "take_argument" (defArgs s_take_argument) (defBody s_take_argument) (defScope s_take_argument) [] [] (He.ga K "take_argument") (fdA K (He.ga K "take_argument")) := g.fd 57 (d := d_take_argument) rfl rfl rfl
theorem b_take_argument (g : Good w K mg) : Binds K (fdA K (He.ga K "take_argument")) ["reader", "kind"] [] := bindsOf (F_take_argument g) fun _ _ _ _ _ _ us hl => match us, hl with | [_, _], _ => rfl
theorem m_take_argument (g : Good w K mg) : mg "take_argument" = some (.ref (He.ga K "take_argument")) := g.glo (g.t.d.fact 107 (f := .glo "take_argument") rfl)
theorem F_take_rule (g : Good w K mg) : FunD K "take_rule" "take_rule" (defArgs s_take_rule) (defBody s_take_rule) (defScope s_take_rule) [] [] (He.ga K "take_rule") (fdA K (He.ga K "take_rule")) := g.fd 58 (d := d_take_rule) rfl rfl rfl
theorem b_take_rule (g : Good w K mg) : Binds K (fdA K (He.ga K "take_rule")) ["reader"] [] := bindsOf (F_take_rule g) fun _ _ _ _ _ _ us hl => match us, hl with | [_], _ => rfl
theorem m_take_rule (g : Good w K mg) : mg "take_rule" = some (.ref (He.ga K "take_rule")) := g.glo (g.t.d.fact 108 (f := .glo "take_rule") rfl)
theorem F_take_arguments (g : Good w K mg) : FunD K "take_arguments" "take_arguments" (defArgs s_take_arguments) (defBody s_take_arguments) (defScope s_take_arguments) [] [] (He.ga K "take_arguments") (fdA K (He.ga K "take_arguments")) := g.fd 59 (d := d_take_arguments) rfl rfl rfl
theorem b_take_arguments (g : Good w K mg) : Binds K (fdA K (He.ga K "take_arguments")) ["reader", "word"] [] := bindsOf (F_take_arguments g) fun _ _ _ _ _ _ us hl => match us, hl with | [_, _], _ => rfl
theorem m_take_arguments (g : Good w K mg) : mg "take_arguments" = some (.ref (He.ga K "take_arguments")) := g.glo (g.t.d.fact 109 (f := .glo "take_arguments") rfl)
theorem F_read_arguments (g : Good w K mg) : FunD K "read_arguments" "read_arguments" (defArgs s_read_arguments) (defBody s_read_arguments) (defScope s_read_arguments) [] [] (He.ga K "read_arguments") (fdA K (He.ga K "read_arguments")) := g.fd 60 (d := d_read_arguments) rfl rfl rfl
theorem b_read_arguments (g : Good w K mg) : Binds K (fdA K (He.ga K "read_arguments")) ["words"] [] := bindsOf (F_read_arguments g) fun _ _ _ _ _ _ us hl => match us, hl with | [_], _ => rfl
theorem m_read_arguments (g : Good w K mg) : mg "read_arguments" = some (.ref (He.ga K "read_arguments")) := g.glo (g.t.d.fact 110 (f := .glo "read_arguments") rfl)
theorem F_snapshot (g : Good w K mg) : FunD K "snapshot" "snapshot" (defArgs s_snapshot) (defBody s_snapshot) (defScope s_snapshot) [] [] (He.ga K "snapshot") (fdA K (He.ga K "snapshot")) := g.fd 61 (d := d_snapshot) rfl rfl rfl
theorem b_snapshot (g : Good w K mg) : Binds K (fdA K (He.ga K "snapshot")) ["house"] [] := bindsOf (F_snapshot g) fun _ _ _ _ _ _ us hl => match us, hl with | [_], _ => rfl
theorem m_snapshot (g : Good w K mg) : mg "snapshot" = some (.ref (He.ga K "snapshot")) := g.glo (g.t.d.fact 112 (f := .glo "snapshot") rfl)
theorem F_find_rest (g : Good w K mg) : FunD K "find_rest" "find_rest" (defArgs s_find_rest) (defBody s_find_rest) (defScope s_find_rest) [] [] (He.ga K "find_rest") (fdA K (He.ga K "find_rest")) := g.fd 62 (d := d_find_rest) rfl rfl rfl
theorem b_find_rest (g : Good w K mg) : Binds K (fdA K (He.ga K "find_rest")) ["house"] [] := bindsOf (F_find_rest g) fun _ _ _ _ _ _ us hl => match us, hl with | [_], _ => rfl
theorem m_find_rest (g : Good w K mg) : mg "find_rest" = some (.ref (He.ga K "find_rest")) := g.glo (g.t.d.fact 113 (f := .glo "find_rest") rfl)
theorem F_house_ahead (g : Good w K mg) : FunD K "house_ahead" "house_ahead" (defArgs s_house_ahead) (defBody s_house_ahead) (defScope s_house_ahead) [] [] (He.ga K "house_ahead") (fdA K (He.ga K "house_ahead")) := g.fd 63 (d := d_house_ahead) rfl rfl rfl
theorem b_house_ahead (g : Good w K mg) : Binds K (fdA K (He.ga K "house_ahead")) ["house", "sensor", "value", "minutes"] [] := bindsOf (F_house_ahead g) fun _ _ _ _ _ _ us hl => match us, hl with | [_, _, _, _], _ => rfl
theorem m_house_ahead (g : Good w K mg) : mg "house_ahead" = some (.ref (He.ga K "house_ahead")) := g.glo (g.t.d.fact 114 (f := .glo "house_ahead") rfl)
theorem F_direct_needs (g : Good w K mg) : FunD K "direct_needs" "direct_needs" (defArgs s_direct_needs) (defBody s_direct_needs) (defScope s_direct_needs) [] [] (He.ga K "direct_needs") (fdA K (He.ga K "direct_needs")) := g.fd 64 (d := d_direct_needs) rfl rfl rfl
theorem b_direct_needs (g : Good w K mg) : Binds K (fdA K (He.ga K "direct_needs")) ["house", "name"] [] := bindsOf (F_direct_needs g) fun _ _ _ _ _ _ us hl => match us, hl with | [_, _], _ => rfl
theorem m_direct_needs (g : Good w K mg) : mg "direct_needs" = some (.ref (He.ga K "direct_needs")) := g.glo (g.t.d.fact 115 (f := .glo "direct_needs") rfl)
theorem F_is_circular (g : Good w K mg) : FunD K "is_circular" "is_circular" (defArgs s_is_circular) (defBody s_is_circular) (defScope s_is_circular) [] [] (He.ga K "is_circular") (fdA K (He.ga K "is_circular")) := g.fd 65 (d := d_is_circular) rfl rfl rfl
theorem b_is_circular (g : Good w K mg) : Binds K (fdA K (He.ga K "is_circular")) ["house", "name"] [] := bindsOf (F_is_circular g) fun _ _ _ _ _ _ us hl => match us, hl with | [_, _], _ => rfl
theorem m_is_circular (g : Good w K mg) : mg "is_circular" = some (.ref (He.ga K "is_circular")) := g.glo (g.t.d.fact 116 (f := .glo "is_circular") rfl)
theorem F_show_list (g : Good w K mg) : FunD K "show_list" "show_list" (defArgs s_show_list) (defBody s_show_list) (defScope s_show_list) [] [] (He.ga K "show_list") (fdA K (He.ga K "show_list")) := g.fd 66 (d := d_show_list) rfl rfl rfl
theorem b_show_list (g : Good w K mg) : Binds K (fdA K (He.ga K "show_list")) ["entries"] [] := bindsOf (F_show_list g) fun _ _ _ _ _ _ us hl => match us, hl with | [_], _ => rfl
theorem m_show_list (g : Good w K mg) : mg "show_list" = some (.ref (He.ga K "show_list")) := g.glo (g.t.d.fact 117 (f := .glo "show_list") rfl)
theorem F_show_named_value (g : Good w K mg) : FunD K "show_named_value" "show_named_value" (defArgs s_show_named_value) (defBody s_show_named_value) (defScope s_show_named_value) [] [] (He.ga K "show_named_value") (fdA K (He.ga K "show_named_value")) := g.fd 67 (d := d_show_named_value) rfl rfl rfl
theorem b_show_named_value (g : Good w K mg) : Binds K (fdA K (He.ga K "show_named_value")) ["name", "value"] [] := bindsOf (F_show_named_value g) fun _ _ _ _ _ _ us hl => match us, hl with | [_, _], _ => rfl
theorem m_show_named_value (g : Good w K mg) : mg "show_named_value" = some (.ref (He.ga K "show_named_value")) := g.glo (g.t.d.fact 118 (f := .glo "show_named_value") rfl)
theorem F_show_thing (g : Good w K mg) : FunD K "show_thing" "show_thing" (defArgs s_show_thing) (defBody s_show_thing) (defScope s_show_thing) [] [] (He.ga K "show_thing") (fdA K (He.ga K "show_thing")) := g.fd 68 (d := d_show_thing) rfl rfl rfl
theorem b_show_thing (g : Good w K mg) : Binds K (fdA K (He.ga K "show_thing")) ["name", "thing"] [] := bindsOf (F_show_thing g) fun _ _ _ _ _ _ us hl => match us, hl with | [_, _], _ => rfl
theorem m_show_thing (g : Good w K mg) : mg "show_thing" = some (.ref (He.ga K "show_thing")) := g.glo (g.t.d.fact 119 (f := .glo "show_thing") rfl)
theorem F_tell_state (g : Good w K mg) : FunD K "tell_state" "tell_state" (defArgs s_tell_state) (defBody s_tell_state) (defScope s_tell_state) [] [] (He.ga K "tell_state") (fdA K (He.ga K "tell_state")) := g.fd 69 (d := d_tell_state) rfl rfl rfl
theorem b_tell_state (g : Good w K mg) : Binds K (fdA K (He.ga K "tell_state")) ["house", "arguments"] [] := bindsOf (F_tell_state g) fun _ _ _ _ _ _ us hl => match us, hl with | [_, _], _ => rfl
theorem m_tell_state (g : Good w K mg) : mg "tell_state" = some (.ref (He.ga K "tell_state")) := g.glo (g.t.d.fact 120 (f := .glo "tell_state") rfl)
theorem F_tell_past (g : Good w K mg) : FunD K "tell_past" "tell_past" (defArgs s_tell_past) (defBody s_tell_past) (defScope s_tell_past) [] [] (He.ga K "tell_past") (fdA K (He.ga K "tell_past")) := g.fd 70 (d := d_tell_past) rfl rfl rfl
theorem b_tell_past (g : Good w K mg) : Binds K (fdA K (He.ga K "tell_past")) ["house", "arguments"] [] := bindsOf (F_tell_past g) fun _ _ _ _ _ _ us hl => match us, hl with | [_, _], _ => rfl
theorem m_tell_past (g : Good w K mg) : mg "tell_past" = some (.ref (He.ga K "tell_past")) := g.glo (g.t.d.fact 121 (f := .glo "tell_past") rfl)
theorem F_show_rule (g : Good w K mg) : FunD K "show_rule" "show_rule" (defArgs s_show_rule) (defBody s_show_rule) (defScope s_show_rule) [] [] (He.ga K "show_rule") (fdA K (He.ga K "show_rule")) := g.fd 71 (d := d_show_rule) rfl rfl rfl
theorem b_show_rule (g : Good w K mg) : Binds K (fdA K (He.ga K "show_rule")) ["name", "rule"] [] := bindsOf (F_show_rule g) fun _ _ _ _ _ _ us hl => match us, hl with | [_, _], _ => rfl
theorem m_show_rule (g : Good w K mg) : mg "show_rule" = some (.ref (He.ga K "show_rule")) := g.glo (g.t.d.fact 122 (f := .glo "show_rule") rfl)
theorem F_tell_rules (g : Good w K mg) : FunD K "tell_rules" "tell_rules" (defArgs s_tell_rules) (defBody s_tell_rules) (defScope s_tell_rules) [] [] (He.ga K "tell_rules") (fdA K (He.ga K "tell_rules")) := g.fd 72 (d := d_tell_rules) rfl rfl rfl
theorem b_tell_rules (g : Good w K mg) : Binds K (fdA K (He.ga K "tell_rules")) ["house", "arguments"] [] := bindsOf (F_tell_rules g) fun _ _ _ _ _ _ us hl => match us, hl with | [_, _], _ => rfl
theorem m_tell_rules (g : Good w K mg) : mg "tell_rules" = some (.ref (He.ga K "tell_rules")) := g.glo (g.t.d.fact 123 (f := .glo "tell_rules") rfl)
theorem F_show_comparisons (g : Good w K mg) : FunD K "show_comparisons" "show_comparisons" (defArgs s_show_comparisons) (defBody s_show_comparisons) (defScope s_show_comparisons) [] [] (He.ga K "show_comparisons") (fdA K (He.ga K "show_comparisons")) := g.fd 73 (d := d_show_comparisons) rfl rfl rfl
theorem b_show_comparisons (g : Good w K mg) : Binds K (fdA K (He.ga K "show_comparisons")) ["house", "condition"] [] := bindsOf (F_show_comparisons g) fun _ _ _ _ _ _ us hl => match us, hl with | [_, _], _ => rfl
theorem m_show_comparisons (g : Good w K mg) : mg "show_comparisons" = some (.ref (He.ga K "show_comparisons")) := g.glo (g.t.d.fact 124 (f := .glo "show_comparisons") rfl)
theorem F_explain_hold (g : Good w K mg) : FunD K "explain_hold" "explain_hold" (defArgs s_explain_hold) (defBody s_explain_hold) (defScope s_explain_hold) [] [] (He.ga K "explain_hold") (fdA K (He.ga K "explain_hold")) := g.fd 74 (d := d_explain_hold) rfl rfl rfl
theorem b_explain_hold (g : Good w K mg) : Binds K (fdA K (He.ga K "explain_hold")) ["thing"] [] := bindsOf (F_explain_hold g) fun _ _ _ _ _ _ us hl => match us, hl with | [_], _ => rfl
theorem m_explain_hold (g : Good w K mg) : mg "explain_hold" = some (.ref (He.ga K "explain_hold")) := g.glo (g.t.d.fact 125 (f := .glo "explain_hold") rfl)
theorem F_explain_rule (g : Good w K mg) : FunD K "explain_rule" "explain_rule" (defArgs s_explain_rule) (defBody s_explain_rule) (defScope s_explain_rule) [] [] (He.ga K "explain_rule") (fdA K (He.ga K "explain_rule")) := g.fd 75 (d := d_explain_rule) rfl rfl rfl
theorem b_explain_rule (g : Good w K mg) : Binds K (fdA K (He.ga K "explain_rule")) ["house", "name"] [] := bindsOf (F_explain_rule g) fun _ _ _ _ _ _ us hl => match us, hl with | [_, _], _ => rfl
theorem m_explain_rule (g : Good w K mg) : mg "explain_rule" = some (.ref (He.ga K "explain_rule")) := g.glo (g.t.d.fact 126 (f := .glo "explain_rule") rfl)
theorem F_tell_why (g : Good w K mg) : FunD K "tell_why" "tell_why" (defArgs s_tell_why) (defBody s_tell_why) (defScope s_tell_why) [] [] (He.ga K "tell_why") (fdA K (He.ga K "tell_why")) := g.fd 76 (d := d_tell_why) rfl rfl rfl
theorem b_tell_why (g : Good w K mg) : Binds K (fdA K (He.ga K "tell_why")) ["house", "arguments"] [] := bindsOf (F_tell_why g) fun _ _ _ _ _ _ us hl => match us, hl with | [_, _], _ => rfl
theorem m_tell_why (g : Good w K mg) : mg "tell_why" = some (.ref (He.ga K "tell_why")) := g.glo (g.t.d.fact 127 (f := .glo "tell_why") rfl)
theorem F_explain_silence (g : Good w K mg) : FunD K "explain_silence" "explain_silence" (defArgs s_explain_silence) (defBody s_explain_silence) (defScope s_explain_silence) [] [] (He.ga K "explain_silence") (fdA K (He.ga K "explain_silence")) := g.fd 77 (d := d_explain_silence) rfl rfl rfl
theorem b_explain_silence (g : Good w K mg) : Binds K (fdA K (He.ga K "explain_silence")) ["house", "rule"] [] := bindsOf (F_explain_silence g) fun _ _ _ _ _ _ us hl => match us, hl with | [_, _], _ => rfl
theorem m_explain_silence (g : Good w K mg) : mg "explain_silence" = some (.ref (He.ga K "explain_silence")) := g.glo (g.t.d.fact 128 (f := .glo "explain_silence") rfl)
theorem F_explain_speech (g : Good w K mg) : FunD K "explain_speech" "explain_speech" (defArgs s_explain_speech) (defBody s_explain_speech) (defScope s_explain_speech) [] [] (He.ga K "explain_speech") (fdA K (He.ga K "explain_speech")) := g.fd 78 (d := d_explain_speech) rfl rfl rfl
theorem b_explain_speech (g : Good w K mg) : Binds K (fdA K (He.ga K "explain_speech")) ["house", "rule"] [] := bindsOf (F_explain_speech g) fun _ _ _ _ _ _ us hl => match us, hl with | [_, _], _ => rfl
theorem m_explain_speech (g : Good w K mg) : mg "explain_speech" = some (.ref (He.ga K "explain_speech")) := g.glo (g.t.d.fact 129 (f := .glo "explain_speech") rfl)
theorem F_tell_why_not (g : Good w K mg) : FunD K "tell_why_not" "tell_why_not" (defArgs s_tell_why_not) (defBody s_tell_why_not) (defScope s_tell_why_not) [] [] (He.ga K "tell_why_not") (fdA K (He.ga K "tell_why_not")) := g.fd 79 (d := d_tell_why_not) rfl rfl rfl
theorem b_tell_why_not (g : Good w K mg) : Binds K (fdA K (He.ga K "tell_why_not")) ["house", "arguments"] [] := bindsOf (F_tell_why_not g) fun _ _ _ _ _ _ us hl => match us, hl with | [_, _], _ => rfl
theorem m_tell_why_not (g : Good w K mg) : mg "tell_why_not" = some (.ref (He.ga K "tell_why_not")) := g.glo (g.t.d.fact 130 (f := .glo "tell_why_not") rfl)
theorem F_tell_rings (g : Good w K mg) : FunD K "tell_rings" "tell_rings" (defArgs s_tell_rings) (defBody s_tell_rings) (defScope s_tell_rings) [] [] (He.ga K "tell_rings") (fdA K (He.ga K "tell_rings")) := g.fd 80 (d := d_tell_rings) rfl rfl rfl
theorem b_tell_rings (g : Good w K mg) : Binds K (fdA K (He.ga K "tell_rings")) ["house", "arguments"] [] := bindsOf (F_tell_rings g) fun _ _ _ _ _ _ us hl => match us, hl with | [_, _], _ => rfl
theorem m_tell_rings (g : Good w K mg) : mg "tell_rings" = some (.ref (He.ga K "tell_rings")) := g.glo (g.t.d.fact 131 (f := .glo "tell_rings") rfl)
theorem F_tell_rest (g : Good w K mg) : FunD K "tell_rest" "tell_rest" (defArgs s_tell_rest) (defBody s_tell_rest) (defScope s_tell_rest) [] [] (He.ga K "tell_rest") (fdA K (He.ga K "tell_rest")) := g.fd 81 (d := d_tell_rest) rfl rfl rfl
theorem b_tell_rest (g : Good w K mg) : Binds K (fdA K (He.ga K "tell_rest")) ["house", "arguments"] [] := bindsOf (F_tell_rest g) fun _ _ _ _ _ _ us hl => match us, hl with | [_, _], _ => rfl
theorem m_tell_rest (g : Good w K mg) : mg "tell_rest" = some (.ref (He.ga K "tell_rest")) := g.glo (g.t.d.fact 132 (f := .glo "tell_rest") rfl)
theorem F_tell_trial (g : Good w K mg) : FunD K "tell_trial" "tell_trial" (defArgs s_tell_trial) (defBody s_tell_trial) (defScope s_tell_trial) [] [] (He.ga K "tell_trial") (fdA K (He.ga K "tell_trial")) := g.fd 82 (d := d_tell_trial) rfl rfl rfl
theorem b_tell_trial (g : Good w K mg) : Binds K (fdA K (He.ga K "tell_trial")) ["house", "arguments"] [] := bindsOf (F_tell_trial g) fun _ _ _ _ _ _ us hl => match us, hl with | [_, _], _ => rfl
theorem m_tell_trial (g : Good w K mg) : mg "tell_trial" = some (.ref (He.ga K "tell_trial")) := g.glo (g.t.d.fact 133 (f := .glo "tell_trial") rfl)
theorem F_is_query (g : Good w K mg) : FunD K "is_query" "is_query" (defArgs s_is_query) (defBody s_is_query) (defScope s_is_query) [] [] (He.ga K "is_query") (fdA K (He.ga K "is_query")) := g.fd 83 (d := d_is_query) rfl rfl rfl
theorem b_is_query (g : Good w K mg) : Binds K (fdA K (He.ga K "is_query")) ["word"] [] := bindsOf (F_is_query g) fun _ _ _ _ _ _ us hl => match us, hl with | [_], _ => rfl
theorem m_is_query (g : Good w K mg) : mg "is_query" = some (.ref (He.ga K "is_query")) := g.glo (g.t.d.fact 135 (f := .glo "is_query") rfl)
theorem F_answer_query (g : Good w K mg) : FunD K "answer_query" "answer_query" (defArgs s_answer_query) (defBody s_answer_query) (defScope s_answer_query) [] [] (He.ga K "answer_query") (fdA K (He.ga K "answer_query")) := g.fd 84 (d := d_answer_query) rfl rfl rfl
theorem b_answer_query (g : Good w K mg) : Binds K (fdA K (He.ga K "answer_query")) ["house", "word", "arguments"] [] := bindsOf (F_answer_query g) fun _ _ _ _ _ _ us hl => match us, hl with | [_, _, _], _ => rfl
theorem m_answer_query (g : Good w K mg) : mg "answer_query" = some (.ref (He.ga K "answer_query")) := g.glo (g.t.d.fact 136 (f := .glo "answer_query") rfl)
theorem F_is_text (g : Good w K mg) : FunD K "is_text" "is_text" (defArgs s_is_text) (defBody s_is_text) (defScope s_is_text) [] [] (He.ga K "is_text") (fdA K (He.ga K "is_text")) := g.fd 85 (d := d_is_text) rfl rfl rfl
theorem b_is_text (g : Good w K mg) : Binds K (fdA K (He.ga K "is_text")) ["command"] [] := bindsOf (F_is_text g) fun _ _ _ _ _ _ us hl => match us, hl with | [_], _ => rfl
theorem m_is_text (g : Good w K mg) : mg "is_text" = some (.ref (He.ga K "is_text")) := g.glo (g.t.d.fact 140 (f := .glo "is_text") rfl)
theorem F_reply (g : Good w K mg) : FunD K "reply" "reply" (defArgs s_reply) (defBody s_reply) (defScope s_reply) [] [] (He.ga K "reply") (fdA K (He.ga K "reply")) := g.fd 86 (d := d_reply) rfl rfl rfl
theorem b_reply (g : Good w K mg) : Binds K (fdA K (He.ga K "reply")) ["house", "words"] [] := bindsOf (F_reply g) fun _ _ _ _ _ _ us hl => match us, hl with | [_, _], _ => rfl
theorem m_reply (g : Good w K mg) : mg "reply" = some (.ref (He.ga K "reply")) := g.glo (g.t.d.fact 141 (f := .glo "reply") rfl)
theorem F_say (g : Good w K mg) : FunD K "say" "say" (defArgs s_say) (defBody s_say) (defScope s_say) [] [] (He.ga K "say") (fdA K (He.ga K "say")) := g.fd 87 (d := d_say) rfl rfl rfl
theorem b_say (g : Good w K mg) : Binds K (fdA K (He.ga K "say")) ["house", "command"] [] := bindsOf (F_say g) fun _ _ _ _ _ _ us hl => match us, hl with | [_, _], _ => rfl
theorem m_say (g : Good w K mg) : mg "say" = some (.ref (He.ga K "say")) := g.glo (g.t.d.fact 142 (f := .glo "say") rfl)
theorem F_answers (g : Good w K mg) : FunD K "answers" "answers" (defArgs s_answers) (defBody s_answers) (defScope s_answers) [] [] (He.ga K "answers") (fdA K (He.ga K "answers")) := g.fd 88 (d := d_answers) rfl rfl rfl
theorem b_answers (g : Good w K mg) : Binds K (fdA K (He.ga K "answers")) ["calls"] [] := bindsOf (F_answers g) fun _ _ _ _ _ _ us hl => match us, hl with | [_], _ => rfl
theorem m_answers (g : Good w K mg) : mg "answers" = some (.ref (He.ga K "answers")) := g.glo (g.t.d.fact 143 (f := .glo "answers") rfl)
theorem i_SIGNS (g : Good w K mg) : mg "SIGNS" = some (.str " ?????&?()?+?-??0123456789??<=???????????????????????????????????abcdefghijklmnopqrstuvwxyz?|?~" (tokA mg "SIGNS")) := g.str (g.t.d.fact 0 (f := .str "SIGNS" " ?????&?()?+?-??0123456789??<=???????????????????????????????????abcdefghijklmnopqrstuvwxyz?|?~") rfl)
theorem m_NO_NAMES (g : Good w K mg) : mg "NO_NAMES" = some (.ref (He.ga K "NO_NAMES")) := g.glo (g.t.d.fact 1 (f := .glo "NO_NAMES") rfl)
theorem i_LONGEST_NAME (g : Good w K mg) : mg "LONGEST_NAME" = some (.int 8 (tokA mg "LONGEST_NAME")) := g.int (g.t.d.fact 2 (f := .int "LONGEST_NAME" 8) rfl)
theorem i_LONGEST_NUMBER (g : Good w K mg) : mg "LONGEST_NUMBER" = some (.int 5 (tokA mg "LONGEST_NUMBER")) := g.int (g.t.d.fact 3 (f := .int "LONGEST_NUMBER" 5) rfl)
theorem m_NoForm (g : Good w K mg) : mg "NoForm" = some (.ref (He.ga K "NoForm")) := g.glo (g.t.d.fact 4 (f := .glo "NoForm") rfl)
theorem ex_NoForm (g : Good w K mg) : PySem.W.exmOne K (.ref (He.ga K "NoForm")) (.ref (He.ga K "NoForm")) = some true := He.exm_ok (g.t.d.fact 5 (f := .exm "NoForm" "NoForm" true) rfl)
theorem kp_NoForm (g : Good w K mg) : PySem.W.keepIn K (.ref (He.ga K "NoForm")) = true := He.keep_ok (g.t.d.fact 6 (f := .keep "NoForm") rfl)
theorem m_Reader (g : Good w K mg) : mg "Reader" = some (.ref (He.ga K "Reader")) := g.glo (g.t.d.fact 7 (f := .glo "Reader") rfl)
theorem cl_Reader (g : Good w K mg) : Cls K (He.ga K "Reader") := He.cls_ok (g.t.d.fact 8 (f := .cls "Reader") rfl)
theorem mk_Reader (g : Good w K mg) : Mk K (He.ga K "Reader") (He.ma K (He.ga K "Reader") "__init__") := He.mkr_ok (g.t.d.fact 9 (f := .mkr "Reader") rfl)
theorem na_Reader_words (g : Good w K mg) : NoAttr K (He.ga K "Reader") "words" := He.noat_ok (g.t.d.fact 10 (f := .noat "Reader" "words") rfl)
theorem na_Reader_place (g : Good w K mg) : NoAttr K (He.ga K "Reader") "place" := He.noat_ok (g.t.d.fact 11 (f := .noat "Reader" "place") rfl)
theorem me_Reader_peek (g : Good w K mg) : Meth K (He.ga K "Reader") "peek" (He.ma K (He.ga K "Reader") "peek") := He.meth_ok (g.t.d.fact 12 (f := .meth "Reader" "peek") rfl)
theorem me_Reader_take (g : Good w K mg) : Meth K (He.ga K "Reader") "take" (He.ma K (He.ga K "Reader") "take") := He.meth_ok (g.t.d.fact 13 (f := .meth "Reader" "take") rfl)
theorem me_Reader_expect (g : Good w K mg) : Meth K (He.ga K "Reader") "expect" (He.ma K (He.ga K "Reader") "expect") := He.meth_ok (g.t.d.fact 14 (f := .meth "Reader" "expect") rfl)
theorem me_Reader_finish (g : Good w K mg) : Meth K (He.ga K "Reader") "finish" (He.ma K (He.ga K "Reader") "finish") := He.meth_ok (g.t.d.fact 15 (f := .meth "Reader" "finish") rfl)
theorem i_MOST_TERMS (g : Good w K mg) : mg "MOST_TERMS" = some (.int 4 (tokA mg "MOST_TERMS")) := g.int (g.t.d.fact 21 (f := .int "MOST_TERMS" 4) rfl)
theorem i_MOST_NESTED (g : Good w K mg) : mg "MOST_NESTED" = some (.int 8 (tokA mg "MOST_NESTED")) := g.int (g.t.d.fact 22 (f := .int "MOST_NESTED" 8) rfl)
theorem m_TIGHTNESS (g : Good w K mg) : mg "TIGHTNESS" = some (.ref (He.ga K "TIGHTNESS")) := g.glo (g.t.d.fact 23 (f := .glo "TIGHTNESS") rfl)
theorem i_MINUTES_OF_A_DAY (g : Good w K mg) : mg "MINUTES_OF_A_DAY" = some (.int 1440 (tokA mg "MINUTES_OF_A_DAY")) := g.int (g.t.d.fact 41 (f := .int "MINUTES_OF_A_DAY" 1440) rfl)
theorem i_MOST_VALUE (g : Good w K mg) : mg "MOST_VALUE" = some (.int 999 (tokA mg "MOST_VALUE")) := g.int (g.t.d.fact 42 (f := .int "MOST_VALUE" 999) rfl)
theorem m_Hold (g : Good w K mg) : mg "Hold" = some (.ref (He.ga K "Hold")) := g.glo (g.t.d.fact 51 (f := .glo "Hold") rfl)
theorem cl_Hold (g : Good w K mg) : Cls K (He.ga K "Hold") := He.cls_ok (g.t.d.fact 52 (f := .cls "Hold") rfl)
theorem mk_Hold (g : Good w K mg) : Mk K (He.ga K "Hold") (He.ma K (He.ga K "Hold") "__init__") := He.mkr_ok (g.t.d.fact 53 (f := .mkr "Hold") rfl)
theorem na_Hold_value (g : Good w K mg) : NoAttr K (He.ga K "Hold") "value" := He.noat_ok (g.t.d.fact 54 (f := .noat "Hold" "value") rfl)
theorem na_Hold_rank (g : Good w K mg) : NoAttr K (He.ga K "Hold") "rank" := He.noat_ok (g.t.d.fact 55 (f := .noat "Hold" "rank") rfl)
theorem na_Hold_end (g : Good w K mg) : NoAttr K (He.ga K "Hold") "end" := He.noat_ok (g.t.d.fact 56 (f := .noat "Hold" "end") rfl)
theorem m_Thing (g : Good w K mg) : mg "Thing" = some (.ref (He.ga K "Thing")) := g.glo (g.t.d.fact 57 (f := .glo "Thing") rfl)
theorem cl_Thing (g : Good w K mg) : Cls K (He.ga K "Thing") := He.cls_ok (g.t.d.fact 58 (f := .cls "Thing") rfl)
theorem mk_Thing (g : Good w K mg) : Mk K (He.ga K "Thing") (He.ma K (He.ga K "Thing") "__init__") := He.mkr_ok (g.t.d.fact 59 (f := .mkr "Thing") rfl)
theorem na_Thing_value (g : Good w K mg) : NoAttr K (He.ga K "Thing") "value" := He.noat_ok (g.t.d.fact 60 (f := .noat "Thing" "value") rfl)
theorem na_Thing_target (g : Good w K mg) : NoAttr K (He.ga K "Thing") "target" := He.noat_ok (g.t.d.fact 61 (f := .noat "Thing" "target") rfl)
theorem na_Thing_origin (g : Good w K mg) : NoAttr K (He.ga K "Thing") "origin" := He.noat_ok (g.t.d.fact 62 (f := .noat "Thing" "origin") rfl)
theorem na_Thing_deaf (g : Good w K mg) : NoAttr K (He.ga K "Thing") "deaf" := He.noat_ok (g.t.d.fact 63 (f := .noat "Thing" "deaf") rfl)
theorem na_Thing_hold (g : Good w K mg) : NoAttr K (He.ga K "Thing") "hold" := He.noat_ok (g.t.d.fact 64 (f := .noat "Thing" "hold") rfl)
theorem na_Thing_born (g : Good w K mg) : NoAttr K (He.ga K "Thing") "born" := He.noat_ok (g.t.d.fact 65 (f := .noat "Thing" "born") rfl)
theorem na_Thing_past (g : Good w K mg) : NoAttr K (He.ga K "Thing") "past" := He.noat_ok (g.t.d.fact 66 (f := .noat "Thing" "past") rfl)
theorem m_Rule (g : Good w K mg) : mg "Rule" = some (.ref (He.ga K "Rule")) := g.glo (g.t.d.fact 67 (f := .glo "Rule") rfl)
theorem cl_Rule (g : Good w K mg) : Cls K (He.ga K "Rule") := He.cls_ok (g.t.d.fact 68 (f := .cls "Rule") rfl)
theorem mk_Rule (g : Good w K mg) : Mk K (He.ga K "Rule") (He.ma K (He.ga K "Rule") "__init__") := He.mkr_ok (g.t.d.fact 69 (f := .mkr "Rule") rfl)
theorem na_Rule_rank (g : Good w K mg) : NoAttr K (He.ga K "Rule") "rank" := He.noat_ok (g.t.d.fact 70 (f := .noat "Rule" "rank") rfl)
theorem na_Rule_delay (g : Good w K mg) : NoAttr K (He.ga K "Rule") "delay" := He.noat_ok (g.t.d.fact 71 (f := .noat "Rule" "delay") rfl)
theorem na_Rule_condition (g : Good w K mg) : NoAttr K (He.ga K "Rule") "condition" := He.noat_ok (g.t.d.fact 72 (f := .noat "Rule" "condition") rfl)
theorem na_Rule_thing (g : Good w K mg) : NoAttr K (He.ga K "Rule") "thing" := He.noat_ok (g.t.d.fact 73 (f := .noat "Rule" "thing") rfl)
theorem na_Rule_amount (g : Good w K mg) : NoAttr K (He.ga K "Rule") "amount" := He.noat_ok (g.t.d.fact 74 (f := .noat "Rule" "amount") rfl)
theorem na_Rule_count (g : Good w K mg) : NoAttr K (He.ga K "Rule") "count" := He.noat_ok (g.t.d.fact 75 (f := .noat "Rule" "count") rfl)
theorem m_House (g : Good w K mg) : mg "House" = some (.ref (He.ga K "House")) := g.glo (g.t.d.fact 76 (f := .glo "House") rfl)
theorem cl_House (g : Good w K mg) : Cls K (He.ga K "House") := He.cls_ok (g.t.d.fact 77 (f := .cls "House") rfl)
theorem mk_House (g : Good w K mg) : Mk K (He.ga K "House") (He.ma K (He.ga K "House") "__init__") := He.mkr_ok (g.t.d.fact 78 (f := .mkr "House") rfl)
theorem na_House_clock (g : Good w K mg) : NoAttr K (He.ga K "House") "clock" := He.noat_ok (g.t.d.fact 79 (f := .noat "House" "clock") rfl)
theorem na_House_sensors (g : Good w K mg) : NoAttr K (He.ga K "House") "sensors" := He.noat_ok (g.t.d.fact 80 (f := .noat "House" "sensors") rfl)
theorem na_House_things (g : Good w K mg) : NoAttr K (He.ga K "House") "things" := He.noat_ok (g.t.d.fact 81 (f := .noat "House" "things") rfl)
theorem na_House_rules (g : Good w K mg) : NoAttr K (He.ga K "House") "rules" := He.noat_ok (g.t.d.fact 82 (f := .noat "House" "rules") rfl)
theorem i_MOST_SENSORS (g : Good w K mg) : mg "MOST_SENSORS" = some (.int 4 (tokA mg "MOST_SENSORS")) := g.int (g.t.d.fact 86 (f := .int "MOST_SENSORS" 4) rfl)
theorem i_MOST_THINGS (g : Good w K mg) : mg "MOST_THINGS" = some (.int 4 (tokA mg "MOST_THINGS")) := g.int (g.t.d.fact 87 (f := .int "MOST_THINGS" 4) rfl)
theorem i_MOST_RULES (g : Good w K mg) : mg "MOST_RULES" = some (.int 6 (tokA mg "MOST_RULES")) := g.int (g.t.d.fact 88 (f := .int "MOST_RULES" 6) rfl)
theorem m_CHANGES (g : Good w K mg) : mg "CHANGES" = some (.ref (He.ga K "CHANGES")) := g.glo (g.t.d.fact 103 (f := .glo "CHANGES") rfl)
theorem m_RANGES (g : Good w K mg) : mg "RANGES" = some (.ref (He.ga K "RANGES")) := g.glo (g.t.d.fact 105 (f := .glo "RANGES") rfl)
theorem m_FORMS (g : Good w K mg) : mg "FORMS" = some (.ref (He.ga K "FORMS")) := g.glo (g.t.d.fact 106 (f := .glo "FORMS") rfl)
theorem i_LAST_SNAPSHOT (g : Good w K mg) : mg "LAST_SNAPSHOT" = some (.int 100 (tokA mg "LAST_SNAPSHOT")) := g.int (g.t.d.fact 111 (f := .int "LAST_SNAPSHOT" 100) rfl)
theorem m_QUERIES (g : Good w K mg) : mg "QUERIES" = some (.ref (He.ga K "QUERIES")) := g.glo (g.t.d.fact 134 (f := .glo "QUERIES") rfl)
theorem i_LONGEST_COMMAND (g : Good w K mg) : mg "LONGEST_COMMAND" = some (.int 160 (tokA mg "LONGEST_COMMAND")) := g.int (g.t.d.fact 137 (f := .int "LONGEST_COMMAND" 160) rfl)
theorem i_LEAST_BYTE (g : Good w K mg) : mg "LEAST_BYTE" = some (.int 32 (tokA mg "LEAST_BYTE")) := g.int (g.t.d.fact 138 (f := .int "LEAST_BYTE" 32) rfl)
theorem i_MOST_BYTE (g : Good w K mg) : mg "MOST_BYTE" = some (.int 126 (tokA mg "MOST_BYTE")) := g.int (g.t.d.fact 139 (f := .int "MOST_BYTE" 126) rfl)
theorem fr_len (g : Good w K mg) : mg "len" = none := g.free (g.t.d.fact 144 (f := .free "len") rfl)
theorem fr_int (g : Good w K mg) : mg "int" = none := g.free (g.t.d.fact 145 (f := .free "int") rfl)
theorem fr_str (g : Good w K mg) : mg "str" = none := g.free (g.t.d.fact 146 (f := .free "str") rfl)
theorem fr_tuple (g : Good w K mg) : mg "tuple" = none := g.free (g.t.d.fact 147 (f := .free "tuple") rfl)
theorem fr_list (g : Good w K mg) : mg "list" = none := g.free (g.t.d.fact 148 (f := .free "list") rfl)
theorem fr_dict (g : Good w K mg) : mg "dict" = none := g.free (g.t.d.fact 149 (f := .free "dict") rfl)
theorem fr_all (g : Good w K mg) : mg "all" = none := g.free (g.t.d.fact 150 (f := .free "all") rfl)
theorem fr_min (g : Good w K mg) : mg "min" = none := g.free (g.t.d.fact 151 (f := .free "min") rfl)
theorem fr_max (g : Good w K mg) : mg "max" = none := g.free (g.t.d.fact 152 (f := .free "max") rfl)
theorem fr_ord (g : Good w K mg) : mg "ord" = none := g.free (g.t.d.fact 153 (f := .free "ord") rfl)
theorem fr_range (g : Good w K mg) : mg "range" = none := g.free (g.t.d.fact 154 (f := .free "range") rfl)
theorem xc_NoForm (g : Good w K mg) : PySem.W.excIn K (He.ga K "NoForm") exB "Exception.__new__" = true := g.x 29 rfl
theorem sb_NoForm (g : Good w K mg) : PySem.W.subIn K (.ref (He.ga K "NoForm")) (.type "BaseException") = some true := of_decide_eq_true (g.x 30 rfl)
theorem ty_NoForm (g : Good w K mg) : PySem.W.typeIn K (.ref (He.ga K "NoForm")) = some (.type "type") := of_decide_eq_true (g.x 31 rfl)
end
end Hw
end

/-! ## part M1 -/
section
set_option linter.all false
set_option maxRecDepth 10000
namespace Hw
open Hr01

/-! ### the sums -/
def plusW : Bytes := ascii "+"
def minusW : Bytes := ascii "-"

def sumAll : Bool → Words → Option (Sum × Words)
  | _, [] => none
  | p, [w] => match term? w with
    | none => none
    | some x => some ([(p, x)], [])
  | p, w :: s :: q => match term? w with
    | none => none
    | some x => if s = ascii "+" ∨ s = ascii "-" then (sumAll (s == ascii "+") q).map fun y => ((p, x) :: y.1, y.2) else some ([(p, x)], s :: q)

theorem sumAll_pos : ∀ (p : Bool) (t : Words) (x : Sum × Words), sumAll p t = some x → 1 ≤ x.1.length
  | _, [], x, h => by simp [sumAll] at h
  | p, [w], x, h => by
    unfold sumAll at h
    cases e : term? w with
    | none => rw [e] at h; cases h
    | some y => rw [e] at h; cases h; simp
  | p, w :: s :: q, x, h => by
    unfold sumAll at h
    cases e : term? w with
    | none => rw [e] at h; cases h
    | some y =>
      rw [e] at h
      dsimp only at h
      split at h
      · cases e2 : sumAll (s == ascii "+") q with
        | none => rw [e2] at h; cases h
        | some z => rw [e2] at h; cases h; simp
      · cases h; simp

theorem sumFrom_all : ∀ (k : Nat) (p : Bool) (t : Words), sumFrom k p t = (sumAll p t).bind fun x => if x.1.length ≤ k then some x else none
  | 0, p, t => by
    show none = _
    cases e : sumAll p t with
    | none => rfl
    | some x =>
      have := sumAll_pos p t x e
      show none = if x.1.length ≤ 0 then some x else none
      rw [if_neg (by omega)]
  | k + 1, p, [] => rfl
  | k + 1, p, [w] => by
    unfold sumFrom sumAll
    dsimp only
    cases e : term? w with
    | none => rfl
    | some y =>
      show some _ = if ([(p, y)] : Sum).length ≤ k + 1 then some _ else none
      rw [if_pos (by simp)]
  | k + 1, p, w :: s :: q => by
    unfold sumFrom sumAll
    dsimp only
    cases e : term? w with
    | none => rfl
    | some y =>
      dsimp only
      by_cases c : s = ascii "+" ∨ s = ascii "-"
      · rw [if_pos c, if_pos c, sumFrom_all k]
        cases e2 : sumAll (s == ascii "+") q with
        | none => rfl
        | some z =>
          show (Option.map _ (if z.1.length ≤ k then some z else none)) = if ((p, y) :: z.1).length ≤ k + 1 then some _ else none
          by_cases c2 : z.1.length ≤ k
          · rw [if_pos c2, if_pos (by simp; omega)]; rfl
          · rw [if_neg c2, if_neg (by simp; omega)]; rfl
      · rw [if_neg c, if_neg c]
        show some _ = if ([(p, y)] : Sum).length ≤ k + 1 then some _ else none
        rw [if_pos (by simp)]

/-- the loop of the program's read_sum: the terms so far, the rest -/
def sumLoop : Sum → Words → Option (Sum × Words)
  | acc, [] => some (acc, [])
  | acc, [s] => if s = ascii "+" ∨ s = ascii "-" then none else some (acc, [s])
  | acc, s :: w :: q => if s = ascii "+" ∨ s = ascii "-" then (match term? w with
      | none => none
      | some x => sumLoop (acc ++ [(s == ascii "+", x)]) q) else some (acc, s :: w :: q)

theorem sumAll_loop : ∀ (n : Nat) (q : Words) (p : Bool) (w : Bytes) (acc : Sum), q.length ≤ n →
    (match term? w with | none => none | some x => sumLoop (acc ++ [(p, x)]) q) = (sumAll p (w :: q)).map fun y => (acc ++ y.1, y.2)
  | n, [], p, w, acc, _ => by
    unfold sumAll
    cases term? w with
    | none => rfl
    | some x => rfl
  | 0, _ :: _, _, _, _, h => by simp at h
  | n + 1, [s], p, w, acc, h => by
    unfold sumAll
    cases term? w with
    | none => rfl
    | some x =>
      dsimp only
      by_cases c : s = ascii "+" ∨ s = ascii "-"
      · rw [if_pos c]; unfold sumLoop; rw [if_pos c]; rfl
      · rw [if_neg c]; unfold sumLoop; rw [if_neg c]; rfl
  | n + 1, s :: v :: q, p, w, acc, h => by
    unfold sumAll
    cases term? w with
    | none => rfl
    | some x =>
      dsimp only
      by_cases c : s = ascii "+" ∨ s = ascii "-"
      · rw [if_pos c]; unfold sumLoop; rw [if_pos c]
        rw [sumAll_loop n q (s == ascii "+") v (acc ++ [(p, x)]) (by simp at h; omega)]
        cases sumAll (s == ascii "+") (v :: q) with
        | none => rfl
        | some z => simp
      · rw [if_neg c]; unfold sumLoop; rw [if_neg c]; rfl

theorem sum_loop (w : Bytes) (q : Words) : sum? (w :: q) = (match term? w with | none => none | some x => (sumLoop [(true, x)] q).bind fun y => if y.1.length ≤ 4 then some y else none) := by
  unfold sum?
  rw [sumFrom_all]
  have h := sumAll_loop q.length q true w [] (Nat.le_refl _)
  simp only [List.nil_append] at h
  cases e : term? w with
  | none => rw [e] at h; unfold sumAll; cases q <;> simp [e]
  | some x =>
    rw [e] at h
    dsimp only at h ⊢
    rw [h]
    cases sumAll true (w :: q) with
    | none => rfl
    | some z => rfl
theorem sum_nil : sum? [] = none := rfl

theorem sumLoop_len : ∀ (n : Nat) (q : Words) (acc : Sum) (x : Sum × Words), q.length ≤ n → sumLoop acc q = some x → x.2.length ≤ q.length
  | n, [], acc, x, _, h => by unfold sumLoop at h; cases h; simp
  | n, [s], acc, x, _, h => by
    unfold sumLoop at h
    split at h
    · cases h
    · cases h; simp
  | 0, _ :: _ :: _, _, _, h, _ => by simp at h
  | n + 1, s :: w :: q, acc, x, hl, h => by
    unfold sumLoop at h
    split at h
    · cases e : term? w with
      | none => rw [e] at h; cases h
      | some y =>
        rw [e] at h
        have := sumLoop_len n q _ x (by simp at hl; omega) h
        simp; omega
    · cases h; simp
theorem sum_len {t : Words} {x : Sum × Words} (h : sum? t = some x) : x.2.length < t.length := by
  cases t with
  | nil => cases h
  | cons w q =>
    rw [sum_loop] at h
    cases e : term? w with
    | none => rw [e] at h; cases h
    | some y =>
      rw [e] at h
      dsimp only at h
      cases e2 : sumLoop [(true, y)] q with
      | none => rw [e2] at h; cases h
      | some z =>
        rw [e2] at h
        have := sumLoop_len q.length q _ z (Nat.le_refl _) e2
        replace h : (if z.1.length ≤ 4 then some z else none) = some x := h
        split at h
        · cases h; simp; omega
        · cases h

/-! ### progress and fuel -/
structure Prog (k : Nat) : Prop where
  alt : ∀ d t x, alt k d t = some x → x.2.length < t.length
  alts : ∀ d a t x, alts k d a t = some x → x.2.length ≤ t.length
  all : ∀ d t x, all k d t = some x → x.2.length < t.length
  alls : ∀ d a t x, alls k d a t = some x → x.2.length ≤ t.length
  one : ∀ d t x, one k d t = some x → x.2.length < t.length

theorem prog : ∀ k, Prog k
  | 0 => by
    refine ⟨?_, ?_, ?_, ?_, ?_⟩
    · intro d t x h; unfold Hr01.alt at h; cases h
    · intro d a t x h; unfold Hr01.alts at h; cases h
    · intro d t x h; unfold Hr01.all at h; cases h
    · intro d a t x h; unfold Hr01.alls at h; cases h
    · intro d t x h; unfold Hr01.one at h; cases h
  | k + 1 => by
    have P := prog k
    refine ⟨?_, ?_, ?_, ?_, ?_⟩
    · intro d t x h
      unfold Hr01.alt at h
      cases e : Hr01.all k d t with
      | none => rw [e] at h; cases h
      | some y =>
        rw [e] at h
        have h1 := P.all d t y e
        have h2 := P.alts d _ _ x h
        omega
    · intro d a t x h
      unfold Hr01.alts at h
      cases t with
      | nil => cases h; simp
      | cons w r =>
        dsimp only at h
        split at h
        · cases e : Hr01.all k d r with
          | none => rw [e] at h; cases h
          | some y =>
            rw [e] at h
            have h1 := P.all d r y e
            have h2 := P.alts d _ _ x h
            simp; omega
        · cases h; simp
    · intro d t x h
      unfold Hr01.all at h
      cases e : Hr01.one k d t with
      | none => rw [e] at h; cases h
      | some y =>
        rw [e] at h
        have h1 := P.one d t y e
        have h2 := P.alls d _ _ x h
        omega
    · intro d a t x h
      unfold Hr01.alls at h
      cases t with
      | nil => cases h; simp
      | cons w r =>
        dsimp only at h
        split at h
        · cases e : Hr01.one k d r with
          | none => rw [e] at h; cases h
          | some y =>
            rw [e] at h
            have h1 := P.one d r y e
            have h2 := P.alls d _ _ x h
            simp; omega
        · cases h; simp
    · intro d t x h
      unfold Hr01.one at h
      cases t with
      | nil => cases h
      | cons w r =>
        dsimp only at h
        split at h
        · split at h
          · cases h
          · cases e : Hr01.one k (d + 1) r with
            | none => rw [e] at h; cases h
            | some y =>
              rw [e] at h
              have h1 := P.one _ r y e
              cases h; simp; omega
        · split at h
          · split at h
            · cases h
            · cases e : Hr01.alt k (d + 1) r with
              | none => rw [e] at h; cases h
              | some y =>
                rw [e] at h
                have h1 := P.alt _ r y e
                dsimp only at h
                cases e2 : y.2 with
                | nil => rw [e2] at h; cases h
                | cons c q =>
                  rw [e2] at h h1
                  dsimp only at h
                  split at h
                  · cases h; simp at h1 ⊢; omega
                  · cases h
          · cases e : sum? (w :: r) with
            | none => rw [e] at h; cases h
            | some a =>
              rw [e] at h
              have h1 := sum_len e
              dsimp only at h
              cases e2 : a.2 with
              | nil => rw [e2] at h; cases h
              | cons c q =>
                rw [e2] at h h1
                dsimp only at h
                split at h
                · cases h
                · cases e3 : sum? q with
                  | none => rw [e3] at h; cases h
                  | some b =>
                    rw [e3] at h
                    have h2 := sum_len e3
                    cases h; simp at h1 ⊢; omega

structure Stab (k : Nat) : Prop where
  alt : ∀ d t, 3 * t.length + 3 ≤ k → alt (k + 1) d t = alt k d t
  alts : ∀ d a t, 3 * t.length + 1 ≤ k → alts (k + 1) d a t = alts k d a t
  all : ∀ d t, 3 * t.length + 2 ≤ k → all (k + 1) d t = all k d t
  alls : ∀ d a t, 3 * t.length + 1 ≤ k → alls (k + 1) d a t = alls k d a t
  one : ∀ d t, 3 * t.length + 1 ≤ k → one (k + 1) d t = one k d t

theorem alt_s (k d : Nat) (t : Words) : alt (k + 1) d t = match all k d t with | none => none | some x => alts k d x.1 x.2 := by rw [Hr01.alt] <;> rfl
theorem all_s (k d : Nat) (t : Words) : all (k + 1) d t = match one k d t with | none => none | some x => alls k d x.1 x.2 := by rw [Hr01.all] <;> rfl
theorem alts_nil (k d : Nat) (a : Cond) : alts (k + 1) d a [] = some (a, []) := by rw [Hr01.alts] <;> rfl
theorem alts_c (k d : Nat) (a : Cond) (w : Bytes) (r : Words) : alts (k + 1) d a (w :: r) = if w = ascii "|" then (match all k d r with
        | none => none
        | some y => alts k d (.either a y.1) y.2) else some (a, w :: r) := by rw [Hr01.alts] <;> rfl
theorem alls_nil (k d : Nat) (a : Cond) : alls (k + 1) d a [] = some (a, []) := by rw [Hr01.alls] <;> rfl
theorem alls_c (k d : Nat) (a : Cond) (w : Bytes) (r : Words) : alls (k + 1) d a (w :: r) = if w = ascii "&" then (match one k d r with
        | none => none
        | some y => alls k d (.both a y.1) y.2) else some (a, w :: r) := by rw [Hr01.alls] <;> rfl
theorem one_nil (k d : Nat) : one (k + 1) d [] = none := by rw [Hr01.one]
/-- a comparison -/
def cmpP (t : Words) : Option (Cond × Words) := match sum? t with
  | none => none
  | some a => match a.2 with
    | [] => none
    | c :: q => if c ≠ ascii "<" ∧ c ≠ ascii "=" then none else match sum? q with
      | none => none
      | some b => some (if c = ascii "<" then .less a.1 b.1 else .same a.1 b.1, b.2)
theorem one_c (k d : Nat) (w : Bytes) (r : Words) : one (k + 1) d (w :: r) =
      if w = ascii "~" then (if DEEP ≤ d then none else (one k (d + 1) r).map fun x => (.not x.1, x.2))
      else if w = ascii "(" then (if DEEP ≤ d then none else match alt k (d + 1) r with
        | none => none
        | some x => match x.2 with
          | c :: q => if c = ascii ")" then some (x.1, q) else none
          | [] => none)
      else cmpP (w :: r) := by rw [Hr01.one] <;> rfl

theorem stab : ∀ k, Stab k
  | 0 => ⟨fun _ _ h => by omega, fun _ _ _ h => by omega, fun _ _ h => by omega, fun _ _ _ h => by omega, fun _ _ h => by omega⟩
  | k + 1 => by
    have S := stab k
    have P := prog k
    refine ⟨?_, ?_, ?_, ?_, ?_⟩
    · intro d t h
      rw [alt_s (k + 1), alt_s k, S.all d t (by omega)]
      cases e : Hr01.all k d t with
      | none => rfl
      | some x =>
        have := P.all d t x e
        exact S.alts d _ _ (by omega)
    · intro d a t h
      cases t with
      | nil => rw [alts_nil, alts_nil]
      | cons w r =>
        simp only [List.length_cons] at h
        rw [alts_c (k + 1), alts_c k, S.all d r (by omega)]
        split
        · cases e : Hr01.all k d r with
          | none => rfl
          | some x =>
            have := P.all d r x e
            exact S.alts d _ _ (by omega)
        · rfl
    · intro d t h
      rw [all_s (k + 1), all_s k, S.one d t (by omega)]
      cases e : Hr01.one k d t with
      | none => rfl
      | some x =>
        have := P.one d t x e
        exact S.alls d _ _ (by omega)
    · intro d a t h
      cases t with
      | nil => rw [alls_nil, alls_nil]
      | cons w r =>
        simp only [List.length_cons] at h
        rw [alls_c (k + 1), alls_c k, S.one d r (by omega)]
        split
        · cases e : Hr01.one k d r with
          | none => rfl
          | some x =>
            have := P.one d r x e
            exact S.alls d _ _ (by omega)
        · rfl
    · intro d t h
      cases t with
      | nil => rw [one_nil, one_nil]
      | cons w r =>
        simp only [List.length_cons] at h
        rw [one_c (k + 1), one_c k, S.one (d + 1) r (by omega), S.alt (d + 1) r (by omega)]

def altP (d : Nat) (t : Words) := alt (3 * t.length + 3) d t
def altsP (d : Nat) (a : Cond) (t : Words) := alts (3 * t.length + 1) d a t
def allP (d : Nat) (t : Words) := all (3 * t.length + 2) d t
def allsP (d : Nat) (a : Cond) (t : Words) := alls (3 * t.length + 1) d a t
def oneP (d : Nat) (t : Words) := one (3 * t.length + 1) d t

theorem alt_P : ∀ {k d : Nat} {t : Words}, 3 * t.length + 3 ≤ k → alt k d t = altP d t
  | k, d, t, h => by
    obtain ⟨j, rfl⟩ : ∃ j, k = 3 * t.length + 3 + j := ⟨k - (3 * t.length + 3), by omega⟩
    induction j with
    | zero => rfl
    | succ j ih => rw [← Nat.add_assoc, (stab _).alt d t (by omega)]; exact ih (by omega)
theorem alts_P : ∀ {k d : Nat} {a : Cond} {t : Words}, 3 * t.length + 1 ≤ k → alts k d a t = altsP d a t
  | k, d, a, t, h => by
    obtain ⟨j, rfl⟩ : ∃ j, k = 3 * t.length + 1 + j := ⟨k - (3 * t.length + 1), by omega⟩
    induction j with
    | zero => rfl
    | succ j ih => rw [← Nat.add_assoc, (stab _).alts d a t (by omega)]; exact ih (by omega)
theorem all_P : ∀ {k d : Nat} {t : Words}, 3 * t.length + 2 ≤ k → all k d t = allP d t
  | k, d, t, h => by
    obtain ⟨j, rfl⟩ : ∃ j, k = 3 * t.length + 2 + j := ⟨k - (3 * t.length + 2), by omega⟩
    induction j with
    | zero => rfl
    | succ j ih => rw [← Nat.add_assoc, (stab _).all d t (by omega)]; exact ih (by omega)
theorem alls_P : ∀ {k d : Nat} {a : Cond} {t : Words}, 3 * t.length + 1 ≤ k → alls k d a t = allsP d a t
  | k, d, a, t, h => by
    obtain ⟨j, rfl⟩ : ∃ j, k = 3 * t.length + 1 + j := ⟨k - (3 * t.length + 1), by omega⟩
    induction j with
    | zero => rfl
    | succ j ih => rw [← Nat.add_assoc, (stab _).alls d a t (by omega)]; exact ih (by omega)
theorem one_P : ∀ {k d : Nat} {t : Words}, 3 * t.length + 1 ≤ k → one k d t = oneP d t
  | k, d, t, h => by
    obtain ⟨j, rfl⟩ : ∃ j, k = 3 * t.length + 1 + j := ⟨k - (3 * t.length + 1), by omega⟩
    induction j with
    | zero => rfl
    | succ j ih => rw [← Nat.add_assoc, (stab _).one d t (by omega)]; exact ih (by omega)

theorem altP_eq (d : Nat) (t : Words) : altP d t = match allP d t with | none => none | some x => altsP d x.1 x.2 := by
  show alt (3 * t.length + 2 + 1) d t = _
  rw [alt_s]
  show (match allP d t with | none => none | some x => alts (3 * t.length + 2) d x.1 x.2) = _
  cases e : allP d t with
  | none => rfl
  | some x =>
    have := (prog _).all d t x e
    exact alts_P (by omega)
theorem altsP_nil (d : Nat) (a : Cond) : altsP d a [] = some (a, []) := alts_nil _ _ _
theorem altsP_c (d : Nat) (a : Cond) (w : Bytes) (r : Words) : altsP d a (w :: r) = if w = ascii "|" then (match allP d r with
        | none => none
        | some y => altsP d (.either a y.1) y.2) else some (a, w :: r) := by
  show alts (3 * (w :: r).length + 1) d a (w :: r) = _
  rw [alts_c]
  have h : (w :: r).length = r.length + 1 := rfl
  rw [h, all_P (by omega)]
  cases e : allP d r with
  | none => rfl
  | some x =>
    have := (prog _).all d r x e
    dsimp only
    rw [alts_P (by omega)]
theorem allP_eq (d : Nat) (t : Words) : allP d t = match oneP d t with | none => none | some x => allsP d x.1 x.2 := by
  show all (3 * t.length + 1 + 1) d t = _
  rw [all_s]
  show (match oneP d t with | none => none | some x => alls (3 * t.length + 1) d x.1 x.2) = _
  cases e : oneP d t with
  | none => rfl
  | some x =>
    have := (prog _).one d t x e
    exact alls_P (by omega)
theorem allsP_nil (d : Nat) (a : Cond) : allsP d a [] = some (a, []) := alls_nil _ _ _
theorem allsP_c (d : Nat) (a : Cond) (w : Bytes) (r : Words) : allsP d a (w :: r) = if w = ascii "&" then (match oneP d r with
        | none => none
        | some y => allsP d (.both a y.1) y.2) else some (a, w :: r) := by
  show alls (3 * (w :: r).length + 1) d a (w :: r) = _
  rw [alls_c]
  have h : (w :: r).length = r.length + 1 := rfl
  rw [h, one_P (by omega)]
  cases e : oneP d r with
  | none => rfl
  | some x =>
    have := (prog _).one d r x e
    dsimp only
    rw [alls_P (by omega)]
theorem oneP_nil (d : Nat) : oneP d [] = none := one_nil _ _
theorem oneP_c (d : Nat) (w : Bytes) (r : Words) : oneP d (w :: r) =
      if w = ascii "~" then (if DEEP ≤ d then none else (oneP (d + 1) r).map fun x => (.not x.1, x.2))
      else if w = ascii "(" then (if DEEP ≤ d then none else match altP (d + 1) r with
        | none => none
        | some x => match x.2 with
          | c :: q => if c = ascii ")" then some (x.1, q) else none
          | [] => none)
      else cmpP (w :: r) := by
  show one (3 * (w :: r).length + 1) d (w :: r) = _
  rw [one_c]
  have h : (w :: r).length = r.length + 1 := rfl
  rw [h, one_P (by omega), alt_P (by omega)]
theorem readCond_P (t : Words) : readCond t = altP 0 t := alt_P (by omega)
theorem oneP_len {d : Nat} {t : Words} {x : Cond × Words} (h : oneP d t = some x) : x.2.length < t.length := (prog _).one d t x h
theorem allP_len {d : Nat} {t : Words} {x : Cond × Words} (h : allP d t = some x) : x.2.length < t.length := (prog _).all d t x h
theorem altP_len {d : Nat} {t : Words} {x : Cond × Words} (h : altP d t = some x) : x.2.length < t.length := (prog _).alt d t x h
end Hw
end

/-! ## part M2 -/
section
set_option linter.all false
set_option maxRecDepth 10000
namespace Hw
open Hr01
/-! ### signs that stand in no command are all one -/
def goodC (c : Nat) : Bool := small c || digit c || [32, 38, 40, 41, 43, 45, 60, 61, 124, 126].contains c
def sg (c : Nat) : Nat := if goodC c then c else 63
def sgs (w : Bytes) : Bytes := w.map sg
theorem good63 : goodC 63 = false := by decide
theorem sg_good {c : Nat} (h : goodC c = true) : sg c = c := if_pos h
theorem sg_or (c : Nat) : sg c = c ∨ (sg c = 63 ∧ goodC c = false) := by
  unfold sg
  cases h : goodC c with
  | true => exact .inl rfl
  | false => exact .inr ⟨rfl, rfl⟩
theorem sg_eq {c x : Nat} (hx : goodC x = true) : sg c = x ↔ c = x := by
  rcases sg_or c with h | ⟨h, h2⟩
  · rw [h]
  · rw [h]
    constructor
    · intro e; rw [← e] at hx; exact absurd hx (by decide)
    · intro e; rw [e, hx] at h2; cases h2
theorem sgs_eq {w : Bytes} : ∀ {k : Bytes}, k.all goodC = true → (sgs w = k ↔ w = k) := by
  induction w with
  | nil => intro k _; cases k <;> simp [sgs]
  | cons c r ih =>
    intro k hk
    cases k with
    | nil => simp [sgs]
    | cons x k =>
      simp only [List.all_cons, Bool.and_eq_true] at hk
      show sg c :: sgs r = x :: k ↔ _
      rw [List.cons.injEq, List.cons.injEq, sg_eq hk.1, ih hk.2]
theorem sgs_beq {w k : Bytes} (h : k.all goodC = true) : (sgs w == k) = (w == k) := by
  have := sgs_eq (w := w) h
  by_cases e : w = k
  · rw [this.mpr e, e]
  · have e2 : ¬ sgs w = k := fun z => e (this.mp z)
    rw [beq_eq_false_iff_ne.mpr e, beq_eq_false_iff_ne.mpr e2]
theorem small_good {c : Nat} (h : small c = true) : goodC c = true := by unfold goodC; rw [h]; rfl
theorem digit_good {c : Nat} (h : digit c = true) : goodC c = true := by unfold goodC; rw [h]; cases small c <;> rfl
theorem small_sg (c : Nat) : small (sg c) = small c := by
  rcases sg_or c with h | ⟨h, h2⟩
  · rw [h]
  · rw [h]
    cases e : small c with
    | false => decide
    | true => rw [small_good e] at h2; cases h2
theorem digit_sg (c : Nat) : digit (sg c) = digit c := by
  rcases sg_or c with h | ⟨h, h2⟩
  · rw [h]
  · rw [h]
    cases e : digit c with
    | false => decide
    | true => rw [digit_good e] at h2; cases h2
theorem sgs_len (w : Bytes) : (sgs w).length = w.length := List.length_map ..
theorem sgs_small (w : Bytes) : (sgs w).all small = w.all small := by
  induction w with
  | nil => rfl
  | cons c r ih => show (small (sg c) && (sgs r).all small) = _; rw [small_sg, ih]; rfl
theorem sgs_digit (w : Bytes) : (sgs w).all digit = w.all digit := by
  induction w with
  | nil => rfl
  | cons c r ih => show (digit (sg c) && (sgs r).all digit) = _; rw [digit_sg, ih]; rfl
theorem sgs_id {w : Bytes} (h : w.all goodC = true) : sgs w = w := (sgs_eq h).mpr rfl
theorem all_imp {w : Bytes} {p q : Nat → Bool} (h : ∀ c, p c = true → q c = true) (hw : w.all p = true) : w.all q = true :=
  List.all_eq_true.mpr fun c hc => h c (List.all_eq_true.mp hw c hc)
theorem kept_contains (w : Bytes) : KEPT.contains (sgs w) = KEPT.contains w := by
  have h : ∀ k ∈ KEPT, k.all goodC = true := by decide
  generalize KEPT = l at h
  induction l with
  | nil => rfl
  | cons k l ih =>
    rw [List.contains_cons, List.contains_cons, sgs_beq (h k (List.mem_cons_self ..)), ih fun x hx => h x (List.mem_cons_of_mem _ hx)]
theorem isName_sgs (w : Bytes) : isName (sgs w) = isName w := by
  unfold isName
  rw [sgs_len, sgs_small, kept_contains]
theorem isName_small {w : Bytes} (h : isName w = true) : w.all small = true := by
  unfold isName at h
  simp only [Bool.and_eq_true] at h
  exact h.2.2.1
theorem sgs_name {w : Bytes} (h : isName w = true) : sgs w = w := sgs_id (all_imp (fun _ => small_good) (isName_small h))
theorem num_sgs (lo hi : Nat) (w : Bytes) : num? lo hi (sgs w) = num? lo hi w := by
  cases h : w.all digit with
  | true => rw [sgs_id (all_imp (fun _ => digit_good) h)]
  | false =>
    unfold num?
    rw [if_pos (.inr (.inr (.inl (by rw [sgs_digit]; exact h)))), if_pos (.inr (.inr (.inl h)))]
theorem term_sgs (w : Bytes) : term? (sgs w) = term? w := by
  unfold term?
  have e : (sgs w = ascii "time") = (w = ascii "time") := propext (sgs_eq (by decide))
  rw [isName_sgs, num_sgs]
  simp only [e]
  split
  · rfl
  · split
    · rename_i h; rw [sgs_name h]
    · rfl
/-! ### and so the readings of words -/
abbrev ms (t : Words) : Words := t.map sgs
theorem sumFrom_ms : ∀ (k : Nat) (p : Bool) (t : Words), sumFrom k p (ms t) = (sumFrom k p t).map fun x => (x.1, ms x.2)
  | 0, _, _ => rfl
  | k + 1, p, [] => rfl
  | k + 1, p, [w] => by
    show sumFrom (k + 1) p [sgs w] = _
    unfold sumFrom
    dsimp only
    rw [term_sgs]
    cases term? w <;> rfl
  | k + 1, p, w :: s :: q => by
    show sumFrom (k + 1) p (sgs w :: sgs s :: ms q) = _
    unfold sumFrom
    dsimp only
    rw [term_sgs]
    cases term? w with
    | none => rfl
    | some x =>
      dsimp only
      have e1 : (sgs s = ascii "+") = (s = ascii "+") := propext (sgs_eq (by decide))
      have e2 : (sgs s = ascii "-") = (s = ascii "-") := propext (sgs_eq (by decide))
      have e3 : (sgs s == ascii "+") = (s == ascii "+") := sgs_beq (by decide)
      simp only [e1, e2, e3]
      split
      · rw [sumFrom_ms k]
        cases sumFrom k (s == ascii "+") q <;> rfl
      · rfl
theorem sum_ms (t : Words) : sum? (ms t) = (sum? t).map fun x => (x.1, ms x.2) := sumFrom_ms _ _ _
theorem cmpP_ms (t : Words) : cmpP (ms t) = (cmpP t).map fun x => (x.1, ms x.2) := by
  unfold cmpP
  rw [sum_ms]
  cases sum? t with
  | none => rfl
  | some a =>
    obtain ⟨a1, a2⟩ := a
    cases a2 with
    | nil => rfl
    | cons c q =>
      show (if sgs c ≠ ascii "<" ∧ sgs c ≠ ascii "=" then none else match sum? (ms q) with
        | none => none
        | some b => some (if sgs c = ascii "<" then Cond.less a1 b.1 else .same a1 b.1, b.2)) = Option.map _ (if c ≠ ascii "<" ∧ c ≠ ascii "=" then none else match sum? q with
        | none => none
        | some b => some (if c = ascii "<" then Cond.less a1 b.1 else Cond.same a1 b.1, b.2))
      have e1 : (sgs c = ascii "<") = (c = ascii "<") := propext (sgs_eq (by decide))
      have e2 : (sgs c = ascii "=") = (c = ascii "=") := propext (sgs_eq (by decide))
      simp only [Ne, e1, e2]
      split
      · rfl
      · rw [sum_ms]
        cases sum? q <;> rfl
structure Msd (k : Nat) : Prop where
  alt : ∀ d t, alt k d (ms t) = (alt k d t).map fun x => (x.1, ms x.2)
  alts : ∀ d a t, alts k d a (ms t) = (alts k d a t).map fun x => (x.1, ms x.2)
  all : ∀ d t, all k d (ms t) = (all k d t).map fun x => (x.1, ms x.2)
  alls : ∀ d a t, alls k d a (ms t) = (alls k d a t).map fun x => (x.1, ms x.2)
  one : ∀ d t, one k d (ms t) = (one k d t).map fun x => (x.1, ms x.2)
theorem msd : ∀ k, Msd k
  | 0 => by
    refine ⟨fun d t => ?_, fun d a t => ?_, fun d t => ?_, fun d a t => ?_, fun d t => ?_⟩
    · unfold Hr01.alt; rfl
    · unfold Hr01.alts; rfl
    · unfold Hr01.all; rfl
    · unfold Hr01.alls; rfl
    · unfold Hr01.one; rfl
  | k + 1 => by
    have S := msd k
    refine ⟨fun d t => ?_, fun d a t => ?_, fun d t => ?_, fun d a t => ?_, fun d t => ?_⟩
    · rw [alt_s, alt_s, S.all]
      cases Hr01.all k d t with
      | none => rfl
      | some x => exact S.alts d x.1 x.2
    · cases t with
      | nil => show Hr01.alts (k + 1) d a [] = _; rw [alts_nil]; rfl
      | cons w r =>
        show Hr01.alts (k + 1) d a (sgs w :: ms r) = _
        have e : (sgs w = ascii "|") = (w = ascii "|") := propext (sgs_eq (by decide))
        rw [alts_c, alts_c, S.all]
        simp only [e]
        split
        · cases Hr01.all k d r with
          | none => rfl
          | some x => exact S.alts d _ x.2
        · rfl
    · rw [all_s, all_s, S.one]
      cases Hr01.one k d t with
      | none => rfl
      | some x => exact S.alls d x.1 x.2
    · cases t with
      | nil => show Hr01.alls (k + 1) d a [] = _; rw [alls_nil]; rfl
      | cons w r =>
        show Hr01.alls (k + 1) d a (sgs w :: ms r) = _
        have e : (sgs w = ascii "&") = (w = ascii "&") := propext (sgs_eq (by decide))
        rw [alls_c, alls_c, S.one]
        simp only [e]
        split
        · cases Hr01.one k d r with
          | none => rfl
          | some x => exact S.alls d _ x.2
        · rfl
    · cases t with
      | nil => show Hr01.one (k + 1) d [] = _; rw [one_nil]; rfl
      | cons w r =>
        show Hr01.one (k + 1) d (sgs w :: ms r) = _
        have e1 : (sgs w = ascii "~") = (w = ascii "~") := propext (sgs_eq (by decide))
        have e2 : (sgs w = ascii "(") = (w = ascii "(") := propext (sgs_eq (by decide))
        rw [one_c, one_c, S.one, S.alt]
        simp only [e1, e2]
        split
        · split
          · rfl
          · cases Hr01.one k (d + 1) r <;> rfl
        · split
          · split
            · rfl
            · cases Hr01.alt k (d + 1) r with
              | none => rfl
              | some x =>
                obtain ⟨x1, x2⟩ := x
                cases x2 with
                | nil => rfl
                | cons c q =>
                  show (if sgs c = ascii ")" then some (x1, ms q) else none) = Option.map _ (if c = ascii ")" then some (x1, q) else none)
                  have e3 : (sgs c = ascii ")") = (c = ascii ")") := propext (sgs_eq (by decide))
                  simp only [e3]
                  split <;> rfl
          · exact cmpP_ms (w :: r)
theorem readCond_ms (t : Words) : readCond (ms t) = (readCond t).map fun x => (x.1, ms x.2) := by
  unfold readCond
  rw [List.length_map]
  exact (msd _).alt 0 t
theorem value_sgs (w : Bytes) : value? (sgs w) = value? w := num_sgs _ _ _
theorem rule_ms (n : Bytes) (t : Words) : rule? n (ms t) = rule? n t := by
  match t with
  | [] => rfl
  | [_] => rfl
  | [_, _] => rfl
  | [_, _, _] => rfl
  | p :: a :: m :: i :: r =>
    show rule? n (sgs p :: sgs a :: sgs m :: sgs i :: ms r) = _
    unfold rule?
    dsimp only
    have e1 : (sgs a = ascii "after") = (a = ascii "after") := propext (sgs_eq (by decide))
    have e2 : (sgs i = ascii "if") = (i = ascii "if") := propext (sgs_eq (by decide))
    simp only [e1, e2, num_sgs, readCond_ms]
    split
    · cases num? 0 9 p with
      | none => rfl
      | some p =>
        cases num? 0 20 m with
        | none => rfl
        | some m =>
          cases readCond r with
          | none => rfl
          | some c =>
            obtain ⟨c1, c2⟩ := c
            match c2 with
            | [] => rfl
            | [_] => rfl
            | [_, _] => rfl
            | h :: x :: e :: q =>
              show (if sgs h = ascii "then" ∧ sgs e = ascii "is" ∧ isName (sgs x) = true then (sum? (ms q)).bind _ else none) = (if h = ascii "then" ∧ e = ascii "is" ∧ isName x = true then (sum? q).bind _ else none)
              have e3 : (sgs h = ascii "then") = (h = ascii "then") := propext (sgs_eq (by decide))
              have e4 : (sgs e = ascii "is") = (e = ascii "is") := propext (sgs_eq (by decide))
              simp only [e3, e4, isName_sgs, sum_ms]
              split
              · rename_i hh
                rw [sgs_name hh.2.2]
                cases sum? q with
                | none => rfl
                | some v =>
                  obtain ⟨v1, v2⟩ := v
                  cases v2 <;> rfl
              · rfl
    · rfl
theorem cmd_ms (ws : Words) : cmd? (ms ws) = cmd? ws := by
  have E : ∀ (w : Bytes) (k : String), (ascii k).all goodC = true → ((sgs w = ascii k) = (w = ascii k)) := fun w k h => propext (sgs_eq h)
  match ws with
  | [] => rfl
  | [w] =>
    show cmd? [sgs w] = _
    unfold cmd?
    dsimp only
    simp only [E w "state" (by decide), E w "rings" (by decide), E w "rest" (by decide), E w "list" (by decide)]
  | [w, a] =>
    show cmd? [sgs w, sgs a] = _
    unfold cmd?
    dsimp only
    simp only [E w "tick" (by decide), E w "deaf" (by decide), E w "hears" (by decide), E w "free" (by decide), E w "drop" (by decide), E w "why" (by decide), E w "whynot" (by decide), num_sgs, isName_sgs]
    split
    · rfl
    · split
      · rfl
      · rename_i h
        rw [sgs_name (by simpa using h)]
  | [w, a, b] =>
    show cmd? [sgs w, sgs a, sgs b] = _
    unfold cmd?
    dsimp only
    simp only [E w "was" (by decide), E w "sensor" (by decide), E w "thing" (by decide), E w "set" (by decide), E w "hand" (by decide), num_sgs, isName_sgs, value_sgs]
    split
    · rfl
    · rename_i h
      rw [sgs_name (by simpa using h)]
  | [w, a, b, c] =>
    show cmd? [sgs w, sgs a, sgs b, sgs c] = _
    unfold cmd?
    dsimp only
    simp only [Ne, E w "try" (by decide), num_sgs, isName_sgs, value_sgs]
    split
    · rfl
    · rename_i h
      rw [sgs_name (by
        cases e : isName a with
        | true => rfl
        | false => exact absurd (.inl e) h)]
  | w :: a :: b :: c :: d :: r =>
    show cmd? (sgs w :: sgs a :: ms (b :: c :: d :: r)) = _
    cases r with
    | nil =>
      show cmd? [sgs w, sgs a, sgs b, sgs c, sgs d] = _
      unfold cmd?
      dsimp only
      have er : rule? (sgs a) [sgs b, sgs c, sgs d] = rule? (sgs a) [b, c, d] := rule_ms (sgs a) [b, c, d]
      simp only [E w "rule" (by decide), E w "hold" (by decide), num_sgs, isName_sgs, value_sgs, er]
      split
      · rfl
      · rename_i h
        rw [sgs_name (by simpa using h)]
    | cons e r =>
      show cmd? (sgs w :: sgs a :: sgs b :: sgs c :: sgs d :: sgs e :: ms r) = _
      unfold cmd?
      dsimp only
      have er : rule? (sgs a) (sgs b :: sgs c :: sgs d :: sgs e :: ms r) = rule? (sgs a) (b :: c :: d :: e :: r) := rule_ms (sgs a) (b :: c :: d :: e :: r)
      simp only [E w "rule" (by decide), isName_sgs, er]
      split
      · rfl
      · rename_i h
        rw [sgs_name (by simpa using h)]
/-! ### the words of a text -/
theorem parted_sgs : ∀ t : Bytes, parted 32 (sgs t) = ms (parted 32 t)
  | [] => rfl
  | c :: r => by
    have ih := parted_sgs r
    show parted 32 (sg c :: sgs r) = _
    unfold parted
    have e : (sg c = 32) = (c = 32) := propext (sg_eq (by decide))
    simp only [e, ih]
    split
    · rfl
    · cases parted 32 r <;> rfl
end Hw
end

/-! ## part M3 -/
section
set_option linter.all false
set_option maxRecDepth 10000
set_option maxHeartbeats 2000000
namespace Hw
open Hr01
/-! ### the commands, read from the left -/
def nameP (t : Words) : Option (Bytes × Words) := match t with
  | x :: q => if isName x = true then some (x, q) else none
  | [] => none
def numP (lo hi : Nat) (t : Words) : Option (Nat × Words) := match t with
  | x :: q => (num? lo hi x).map fun n => (n, q)
  | [] => none
def wordP (k : Bytes) (t : Words) : Option Words := match t with
  | x :: q => if x = k then some q else none
  | [] => none
/-- an argument: a name, a number of a range -/
inductive Arg where
  | name (x : Bytes)
  | num (n : Nat)
abbrev Kind := Option (Nat × Nat)
def argP : Kind → Words → Option (Arg × Words)
  | none, t => (nameP t).map fun x => (.name x.1, x.2)
  | some r, t => (numP r.1 r.2 t).map fun x => (.num x.1, x.2)
def argsP : List Kind → Words → Option (List Arg × Words)
  | [], t => some ([], t)
  | k :: ks, t => (argP k t).bind fun x => (argsP ks x.2).map fun y => (x.1 :: y.1, y.2)
def ruleP (t : Words) : Option (Rule × Words) :=
  (nameP t).bind fun x1 => (numP 0 9 x1.2).bind fun x2 => (wordP (ascii "after") x2.2).bind fun x3 => (numP 0 20 x3).bind fun x4 => (wordP (ascii "if") x4.2).bind fun x5 =>
    (altP 0 x5).bind fun x6 => (wordP (ascii "then") x6.2).bind fun x7 => (nameP x7).bind fun x8 => (wordP (ascii "is") x8.2).bind fun x9 => (sum? x9).bind fun x10 =>
      some (⟨x1.1, x2.1, x4.1, x6.1, x8.1, x10.1, 0⟩, x10.2)
theorem a_sensor : ascii "sensor" = [115, 101, 110, 115, 111, 114] := by decide
theorem a_thing : ascii "thing" = [116, 104, 105, 110, 103] := by decide
theorem a_set : ascii "set" = [115, 101, 116] := by decide
theorem a_deaf : ascii "deaf" = [100, 101, 97, 102] := by decide
theorem a_hears : ascii "hears" = [104, 101, 97, 114, 115] := by decide
theorem a_hand : ascii "hand" = [104, 97, 110, 100] := by decide
theorem a_hold : ascii "hold" = [104, 111, 108, 100] := by decide
theorem a_free : ascii "free" = [102, 114, 101, 101] := by decide
theorem a_drop : ascii "drop" = [100, 114, 111, 112] := by decide
theorem a_tick : ascii "tick" = [116, 105, 99, 107] := by decide
theorem a_state : ascii "state" = [115, 116, 97, 116, 101] := by decide
theorem a_was : ascii "was" = [119, 97, 115] := by decide
theorem a_list : ascii "list" = [108, 105, 115, 116] := by decide
theorem a_why : ascii "why" = [119, 104, 121] := by decide
theorem a_whynot : ascii "whynot" = [119, 104, 121, 110, 111, 116] := by decide
theorem a_rings : ascii "rings" = [114, 105, 110, 103, 115] := by decide
theorem a_rest : ascii "rest" = [114, 101, 115, 116] := by decide
theorem a_try : ascii "try" = [116, 114, 121] := by decide
theorem a_rule : ascii "rule" = [114, 117, 108, 101] := by decide
def FORMSL : List (Bytes × List Kind) := [(ascii "sensor", [none, some (0, 999)]), (ascii "thing", [none, some (0, 999)]), (ascii "set", [none, some (0, 999)]), (ascii "deaf", [none]), (ascii "hears", [none]), (ascii "hand", [none, some (0, 999)]), (ascii "hold", [none, some (0, 999), some (0, 9), some (1, 999)]), (ascii "free", [none]), (ascii "drop", [none]), (ascii "tick", [some (1, 500)]), (ascii "state", []), (ascii "was", [none, some (0, 99999)]), (ascii "list", []), (ascii "why", [none]), (ascii "whynot", [none]), (ascii "rings", []), (ascii "rest", []), (ascii "try", [none, some (0, 999), some (1, 100)])]
def cmdOf (x : Bytes) (as : List Arg) : Option Cmd :=
  if x = ascii "sensor" then (match as with | [.name y0, .num y1] => some (.sensor y0 y1) | _ => none) else
  if x = ascii "thing" then (match as with | [.name y0, .num y1] => some (.thing y0 y1) | _ => none) else
  if x = ascii "set" then (match as with | [.name y0, .num y1] => some (.set y0 y1) | _ => none) else
  if x = ascii "deaf" then (match as with | [.name y0] => some (.deaf y0) | _ => none) else
  if x = ascii "hears" then (match as with | [.name y0] => some (.hears y0) | _ => none) else
  if x = ascii "hand" then (match as with | [.name y0, .num y1] => some (.hand y0 y1) | _ => none) else
  if x = ascii "hold" then (match as with | [.name y0, .num y1, .num y2, .num y3] => some (.hold y0 y1 y2 y3) | _ => none) else
  if x = ascii "free" then (match as with | [.name y0] => some (.free y0) | _ => none) else
  if x = ascii "drop" then (match as with | [.name y0] => some (.drop y0) | _ => none) else
  if x = ascii "tick" then (match as with | [.num y0] => some (.tick y0) | _ => none) else
  if x = ascii "state" then (match as with | [] => some (.state ) | _ => none) else
  if x = ascii "was" then (match as with | [.name y0, .num y1] => some (.was y0 y1) | _ => none) else
  if x = ascii "list" then (match as with | [] => some (.list ) | _ => none) else
  if x = ascii "why" then (match as with | [.name y0] => some (.why y0) | _ => none) else
  if x = ascii "whynot" then (match as with | [.name y0] => some (.whynot y0) | _ => none) else
  if x = ascii "rings" then (match as with | [] => some (.rings ) | _ => none) else
  if x = ascii "rest" then (match as with | [] => some (.rest ) | _ => none) else
  if x = ascii "try" then (match as with | [.name y0, .num y1, .num y2] => some (.trial y0 y1 y2) | _ => none) else none
theorem cmd_sensor (t : Words) : cmd? (ascii "sensor" :: t) = (argsP [none, some (0, 999)] t).bind fun x => if x.2 = [] then cmdOf (ascii "sensor") x.1 else none := by
  rcases t with _ | ⟨a, _ | ⟨b, _ | ⟨c, _ | ⟨d, _ | ⟨e, r⟩⟩⟩⟩⟩
  · first | rfl | simp [cmd?, argsP, argP, nameP, numP, cmdOf, a_sensor, a_thing, a_set, a_deaf, a_hears, a_hand, a_hold, a_free, a_drop, a_tick, a_state, a_was, a_list, a_why, a_whynot, a_rings, a_rest, a_try, a_rule]
  all_goals (cases h1 : isName a <;> simp [cmd?, value?, MOST, argsP, argP, nameP, numP, cmdOf, h1, a_sensor, a_thing, a_set, a_deaf, a_hears, a_hand, a_hold, a_free, a_drop, a_tick, a_state, a_was, a_list, a_why, a_whynot, a_rings, a_rest, a_try, a_rule])
  all_goals (cases e0 : num? 0 999 b <;> first | rfl | (simp [e0]; done))
theorem cmd_thing (t : Words) : cmd? (ascii "thing" :: t) = (argsP [none, some (0, 999)] t).bind fun x => if x.2 = [] then cmdOf (ascii "thing") x.1 else none := by
  rcases t with _ | ⟨a, _ | ⟨b, _ | ⟨c, _ | ⟨d, _ | ⟨e, r⟩⟩⟩⟩⟩
  · first | rfl | simp [cmd?, argsP, argP, nameP, numP, cmdOf, a_sensor, a_thing, a_set, a_deaf, a_hears, a_hand, a_hold, a_free, a_drop, a_tick, a_state, a_was, a_list, a_why, a_whynot, a_rings, a_rest, a_try, a_rule]
  all_goals (cases h1 : isName a <;> simp [cmd?, value?, MOST, argsP, argP, nameP, numP, cmdOf, h1, a_sensor, a_thing, a_set, a_deaf, a_hears, a_hand, a_hold, a_free, a_drop, a_tick, a_state, a_was, a_list, a_why, a_whynot, a_rings, a_rest, a_try, a_rule])
  all_goals (cases e0 : num? 0 999 b <;> first | rfl | (simp [e0]; done))
theorem cmd_set (t : Words) : cmd? (ascii "set" :: t) = (argsP [none, some (0, 999)] t).bind fun x => if x.2 = [] then cmdOf (ascii "set") x.1 else none := by
  rcases t with _ | ⟨a, _ | ⟨b, _ | ⟨c, _ | ⟨d, _ | ⟨e, r⟩⟩⟩⟩⟩
  · first | rfl | simp [cmd?, argsP, argP, nameP, numP, cmdOf, a_sensor, a_thing, a_set, a_deaf, a_hears, a_hand, a_hold, a_free, a_drop, a_tick, a_state, a_was, a_list, a_why, a_whynot, a_rings, a_rest, a_try, a_rule]
  all_goals (cases h1 : isName a <;> simp [cmd?, value?, MOST, argsP, argP, nameP, numP, cmdOf, h1, a_sensor, a_thing, a_set, a_deaf, a_hears, a_hand, a_hold, a_free, a_drop, a_tick, a_state, a_was, a_list, a_why, a_whynot, a_rings, a_rest, a_try, a_rule])
  all_goals (cases e0 : num? 0 999 b <;> first | rfl | (simp [e0]; done))
theorem cmd_deaf (t : Words) : cmd? (ascii "deaf" :: t) = (argsP [none] t).bind fun x => if x.2 = [] then cmdOf (ascii "deaf") x.1 else none := by
  rcases t with _ | ⟨a, _ | ⟨b, _ | ⟨c, _ | ⟨d, _ | ⟨e, r⟩⟩⟩⟩⟩
  · first | rfl | simp [cmd?, argsP, argP, nameP, numP, cmdOf, a_sensor, a_thing, a_set, a_deaf, a_hears, a_hand, a_hold, a_free, a_drop, a_tick, a_state, a_was, a_list, a_why, a_whynot, a_rings, a_rest, a_try, a_rule]
  all_goals (cases h1 : isName a <;> simp [cmd?, value?, MOST, argsP, argP, nameP, numP, cmdOf, h1, a_sensor, a_thing, a_set, a_deaf, a_hears, a_hand, a_hold, a_free, a_drop, a_tick, a_state, a_was, a_list, a_why, a_whynot, a_rings, a_rest, a_try, a_rule])

theorem cmd_hears (t : Words) : cmd? (ascii "hears" :: t) = (argsP [none] t).bind fun x => if x.2 = [] then cmdOf (ascii "hears") x.1 else none := by
  rcases t with _ | ⟨a, _ | ⟨b, _ | ⟨c, _ | ⟨d, _ | ⟨e, r⟩⟩⟩⟩⟩
  · first | rfl | simp [cmd?, argsP, argP, nameP, numP, cmdOf, a_sensor, a_thing, a_set, a_deaf, a_hears, a_hand, a_hold, a_free, a_drop, a_tick, a_state, a_was, a_list, a_why, a_whynot, a_rings, a_rest, a_try, a_rule]
  all_goals (cases h1 : isName a <;> simp [cmd?, value?, MOST, argsP, argP, nameP, numP, cmdOf, h1, a_sensor, a_thing, a_set, a_deaf, a_hears, a_hand, a_hold, a_free, a_drop, a_tick, a_state, a_was, a_list, a_why, a_whynot, a_rings, a_rest, a_try, a_rule])

theorem cmd_hand (t : Words) : cmd? (ascii "hand" :: t) = (argsP [none, some (0, 999)] t).bind fun x => if x.2 = [] then cmdOf (ascii "hand") x.1 else none := by
  rcases t with _ | ⟨a, _ | ⟨b, _ | ⟨c, _ | ⟨d, _ | ⟨e, r⟩⟩⟩⟩⟩
  · first | rfl | simp [cmd?, argsP, argP, nameP, numP, cmdOf, a_sensor, a_thing, a_set, a_deaf, a_hears, a_hand, a_hold, a_free, a_drop, a_tick, a_state, a_was, a_list, a_why, a_whynot, a_rings, a_rest, a_try, a_rule]
  all_goals (cases h1 : isName a <;> simp [cmd?, value?, MOST, argsP, argP, nameP, numP, cmdOf, h1, a_sensor, a_thing, a_set, a_deaf, a_hears, a_hand, a_hold, a_free, a_drop, a_tick, a_state, a_was, a_list, a_why, a_whynot, a_rings, a_rest, a_try, a_rule])
  all_goals (cases e0 : num? 0 999 b <;> first | rfl | (simp [e0]; done))
theorem cmd_hold (t : Words) : cmd? (ascii "hold" :: t) = (argsP [none, some (0, 999), some (0, 9), some (1, 999)] t).bind fun x => if x.2 = [] then cmdOf (ascii "hold") x.1 else none := by
  rcases t with _ | ⟨a, _ | ⟨b, _ | ⟨c, _ | ⟨d, _ | ⟨e, r⟩⟩⟩⟩⟩
  · first | rfl | simp [cmd?, argsP, argP, nameP, numP, cmdOf, a_sensor, a_thing, a_set, a_deaf, a_hears, a_hand, a_hold, a_free, a_drop, a_tick, a_state, a_was, a_list, a_why, a_whynot, a_rings, a_rest, a_try, a_rule]
  all_goals (cases h1 : isName a <;> simp [cmd?, value?, MOST, argsP, argP, nameP, numP, cmdOf, h1, a_sensor, a_thing, a_set, a_deaf, a_hears, a_hand, a_hold, a_free, a_drop, a_tick, a_state, a_was, a_list, a_why, a_whynot, a_rings, a_rest, a_try, a_rule])
  all_goals (cases e0 : num? 0 999 b <;> first | rfl | (simp [e0]; done) | (cases e1 : num? 0 9 c <;> first | rfl | (simp [e0, e1]; done) | (cases e2 : num? 1 999 d <;> first | rfl | (simp [e0, e1, e2]; done))))
theorem cmd_free (t : Words) : cmd? (ascii "free" :: t) = (argsP [none] t).bind fun x => if x.2 = [] then cmdOf (ascii "free") x.1 else none := by
  rcases t with _ | ⟨a, _ | ⟨b, _ | ⟨c, _ | ⟨d, _ | ⟨e, r⟩⟩⟩⟩⟩
  · first | rfl | simp [cmd?, argsP, argP, nameP, numP, cmdOf, a_sensor, a_thing, a_set, a_deaf, a_hears, a_hand, a_hold, a_free, a_drop, a_tick, a_state, a_was, a_list, a_why, a_whynot, a_rings, a_rest, a_try, a_rule]
  all_goals (cases h1 : isName a <;> simp [cmd?, value?, MOST, argsP, argP, nameP, numP, cmdOf, h1, a_sensor, a_thing, a_set, a_deaf, a_hears, a_hand, a_hold, a_free, a_drop, a_tick, a_state, a_was, a_list, a_why, a_whynot, a_rings, a_rest, a_try, a_rule])

theorem cmd_drop (t : Words) : cmd? (ascii "drop" :: t) = (argsP [none] t).bind fun x => if x.2 = [] then cmdOf (ascii "drop") x.1 else none := by
  rcases t with _ | ⟨a, _ | ⟨b, _ | ⟨c, _ | ⟨d, _ | ⟨e, r⟩⟩⟩⟩⟩
  · first | rfl | simp [cmd?, argsP, argP, nameP, numP, cmdOf, a_sensor, a_thing, a_set, a_deaf, a_hears, a_hand, a_hold, a_free, a_drop, a_tick, a_state, a_was, a_list, a_why, a_whynot, a_rings, a_rest, a_try, a_rule]
  all_goals (cases h1 : isName a <;> simp [cmd?, value?, MOST, argsP, argP, nameP, numP, cmdOf, h1, a_sensor, a_thing, a_set, a_deaf, a_hears, a_hand, a_hold, a_free, a_drop, a_tick, a_state, a_was, a_list, a_why, a_whynot, a_rings, a_rest, a_try, a_rule])

theorem cmd_tick (t : Words) : cmd? (ascii "tick" :: t) = (argsP [some (1, 500)] t).bind fun x => if x.2 = [] then cmdOf (ascii "tick") x.1 else none := by
  rcases t with _ | ⟨a, _ | ⟨b, _ | ⟨c, _ | ⟨d, _ | ⟨e, r⟩⟩⟩⟩⟩
  · first | rfl | simp [cmd?, argsP, argP, nameP, numP, cmdOf, a_sensor, a_thing, a_set, a_deaf, a_hears, a_hand, a_hold, a_free, a_drop, a_tick, a_state, a_was, a_list, a_why, a_whynot, a_rings, a_rest, a_try, a_rule]
  all_goals (cases h1 : isName a <;> simp [cmd?, value?, MOST, argsP, argP, nameP, numP, cmdOf, h1, a_sensor, a_thing, a_set, a_deaf, a_hears, a_hand, a_hold, a_free, a_drop, a_tick, a_state, a_was, a_list, a_why, a_whynot, a_rings, a_rest, a_try, a_rule])
  all_goals (cases e0 : num? 1 500 a <;> first | rfl | (simp [e0]; done))
theorem cmd_state (t : Words) : cmd? (ascii "state" :: t) = (argsP [] t).bind fun x => if x.2 = [] then cmdOf (ascii "state") x.1 else none := by
  rcases t with _ | ⟨a, _ | ⟨b, _ | ⟨c, _ | ⟨d, _ | ⟨e, r⟩⟩⟩⟩⟩
  · first | rfl | simp [cmd?, argsP, argP, nameP, numP, cmdOf, a_sensor, a_thing, a_set, a_deaf, a_hears, a_hand, a_hold, a_free, a_drop, a_tick, a_state, a_was, a_list, a_why, a_whynot, a_rings, a_rest, a_try, a_rule]
  all_goals (cases h1 : isName a <;> simp [cmd?, value?, MOST, argsP, argP, nameP, numP, cmdOf, h1, a_sensor, a_thing, a_set, a_deaf, a_hears, a_hand, a_hold, a_free, a_drop, a_tick, a_state, a_was, a_list, a_why, a_whynot, a_rings, a_rest, a_try, a_rule])

theorem cmd_was (t : Words) : cmd? (ascii "was" :: t) = (argsP [none, some (0, 99999)] t).bind fun x => if x.2 = [] then cmdOf (ascii "was") x.1 else none := by
  rcases t with _ | ⟨a, _ | ⟨b, _ | ⟨c, _ | ⟨d, _ | ⟨e, r⟩⟩⟩⟩⟩
  · first | rfl | simp [cmd?, argsP, argP, nameP, numP, cmdOf, a_sensor, a_thing, a_set, a_deaf, a_hears, a_hand, a_hold, a_free, a_drop, a_tick, a_state, a_was, a_list, a_why, a_whynot, a_rings, a_rest, a_try, a_rule]
  all_goals (cases h1 : isName a <;> simp [cmd?, value?, MOST, argsP, argP, nameP, numP, cmdOf, h1, a_sensor, a_thing, a_set, a_deaf, a_hears, a_hand, a_hold, a_free, a_drop, a_tick, a_state, a_was, a_list, a_why, a_whynot, a_rings, a_rest, a_try, a_rule])
  all_goals (cases e0 : num? 0 99999 b <;> first | rfl | (simp [e0]; done))
theorem cmd_list (t : Words) : cmd? (ascii "list" :: t) = (argsP [] t).bind fun x => if x.2 = [] then cmdOf (ascii "list") x.1 else none := by
  rcases t with _ | ⟨a, _ | ⟨b, _ | ⟨c, _ | ⟨d, _ | ⟨e, r⟩⟩⟩⟩⟩
  · first | rfl | simp [cmd?, argsP, argP, nameP, numP, cmdOf, a_sensor, a_thing, a_set, a_deaf, a_hears, a_hand, a_hold, a_free, a_drop, a_tick, a_state, a_was, a_list, a_why, a_whynot, a_rings, a_rest, a_try, a_rule]
  all_goals (cases h1 : isName a <;> simp [cmd?, value?, MOST, argsP, argP, nameP, numP, cmdOf, h1, a_sensor, a_thing, a_set, a_deaf, a_hears, a_hand, a_hold, a_free, a_drop, a_tick, a_state, a_was, a_list, a_why, a_whynot, a_rings, a_rest, a_try, a_rule])

theorem cmd_why (t : Words) : cmd? (ascii "why" :: t) = (argsP [none] t).bind fun x => if x.2 = [] then cmdOf (ascii "why") x.1 else none := by
  rcases t with _ | ⟨a, _ | ⟨b, _ | ⟨c, _ | ⟨d, _ | ⟨e, r⟩⟩⟩⟩⟩
  · first | rfl | simp [cmd?, argsP, argP, nameP, numP, cmdOf, a_sensor, a_thing, a_set, a_deaf, a_hears, a_hand, a_hold, a_free, a_drop, a_tick, a_state, a_was, a_list, a_why, a_whynot, a_rings, a_rest, a_try, a_rule]
  all_goals (cases h1 : isName a <;> simp [cmd?, value?, MOST, argsP, argP, nameP, numP, cmdOf, h1, a_sensor, a_thing, a_set, a_deaf, a_hears, a_hand, a_hold, a_free, a_drop, a_tick, a_state, a_was, a_list, a_why, a_whynot, a_rings, a_rest, a_try, a_rule])

theorem cmd_whynot (t : Words) : cmd? (ascii "whynot" :: t) = (argsP [none] t).bind fun x => if x.2 = [] then cmdOf (ascii "whynot") x.1 else none := by
  rcases t with _ | ⟨a, _ | ⟨b, _ | ⟨c, _ | ⟨d, _ | ⟨e, r⟩⟩⟩⟩⟩
  · first | rfl | simp [cmd?, argsP, argP, nameP, numP, cmdOf, a_sensor, a_thing, a_set, a_deaf, a_hears, a_hand, a_hold, a_free, a_drop, a_tick, a_state, a_was, a_list, a_why, a_whynot, a_rings, a_rest, a_try, a_rule]
  all_goals (cases h1 : isName a <;> simp [cmd?, value?, MOST, argsP, argP, nameP, numP, cmdOf, h1, a_sensor, a_thing, a_set, a_deaf, a_hears, a_hand, a_hold, a_free, a_drop, a_tick, a_state, a_was, a_list, a_why, a_whynot, a_rings, a_rest, a_try, a_rule])

theorem cmd_rings (t : Words) : cmd? (ascii "rings" :: t) = (argsP [] t).bind fun x => if x.2 = [] then cmdOf (ascii "rings") x.1 else none := by
  rcases t with _ | ⟨a, _ | ⟨b, _ | ⟨c, _ | ⟨d, _ | ⟨e, r⟩⟩⟩⟩⟩
  · first | rfl | simp [cmd?, argsP, argP, nameP, numP, cmdOf, a_sensor, a_thing, a_set, a_deaf, a_hears, a_hand, a_hold, a_free, a_drop, a_tick, a_state, a_was, a_list, a_why, a_whynot, a_rings, a_rest, a_try, a_rule]
  all_goals (cases h1 : isName a <;> simp [cmd?, value?, MOST, argsP, argP, nameP, numP, cmdOf, h1, a_sensor, a_thing, a_set, a_deaf, a_hears, a_hand, a_hold, a_free, a_drop, a_tick, a_state, a_was, a_list, a_why, a_whynot, a_rings, a_rest, a_try, a_rule])

theorem cmd_rest (t : Words) : cmd? (ascii "rest" :: t) = (argsP [] t).bind fun x => if x.2 = [] then cmdOf (ascii "rest") x.1 else none := by
  rcases t with _ | ⟨a, _ | ⟨b, _ | ⟨c, _ | ⟨d, _ | ⟨e, r⟩⟩⟩⟩⟩
  · first | rfl | simp [cmd?, argsP, argP, nameP, numP, cmdOf, a_sensor, a_thing, a_set, a_deaf, a_hears, a_hand, a_hold, a_free, a_drop, a_tick, a_state, a_was, a_list, a_why, a_whynot, a_rings, a_rest, a_try, a_rule]
  all_goals (cases h1 : isName a <;> simp [cmd?, value?, MOST, argsP, argP, nameP, numP, cmdOf, h1, a_sensor, a_thing, a_set, a_deaf, a_hears, a_hand, a_hold, a_free, a_drop, a_tick, a_state, a_was, a_list, a_why, a_whynot, a_rings, a_rest, a_try, a_rule])

theorem cmd_try (t : Words) : cmd? (ascii "try" :: t) = (argsP [none, some (0, 999), some (1, 100)] t).bind fun x => if x.2 = [] then cmdOf (ascii "try") x.1 else none := by
  rcases t with _ | ⟨a, _ | ⟨b, _ | ⟨c, _ | ⟨d, _ | ⟨e, r⟩⟩⟩⟩⟩
  · first | rfl | simp [cmd?, argsP, argP, nameP, numP, cmdOf, a_sensor, a_thing, a_set, a_deaf, a_hears, a_hand, a_hold, a_free, a_drop, a_tick, a_state, a_was, a_list, a_why, a_whynot, a_rings, a_rest, a_try, a_rule]
  all_goals (cases h1 : isName a <;> simp [cmd?, value?, MOST, argsP, argP, nameP, numP, cmdOf, h1, a_sensor, a_thing, a_set, a_deaf, a_hears, a_hand, a_hold, a_free, a_drop, a_tick, a_state, a_was, a_list, a_why, a_whynot, a_rings, a_rest, a_try, a_rule])
  all_goals (cases e0 : num? 0 999 b <;> first | rfl | (simp [e0]; done) | (cases e1 : num? 1 100 c <;> first | rfl | (simp [e0, e1]; done)))
theorem cmd_rule (t : Words) : cmd? (ascii "rule" :: t) = (ruleP t).bind fun x => if x.2 = [] then some (.rule x.1) else none := by
  have key : ∀ (n : Bytes) (t : Words), isName n = true → ((rule? n t).map Cmd.rule) = (ruleP (n :: t)).bind fun x => if x.2 = [] then some (.rule x.1) else none := by
    intro n t hn
    rcases t with _ | ⟨p, _ | ⟨a, _ | ⟨m, _ | ⟨i, r⟩⟩⟩⟩
    · simp [rule?, ruleP, nameP, numP, hn]
    · simp only [rule?, ruleP, nameP, numP, wordP, hn, if_true, Option.bind_some]
      cases num? 0 9 p <;> rfl
    · simp only [rule?, ruleP, nameP, numP, wordP, hn, if_true, Option.bind_some]
      cases num? 0 9 p with
      | none => rfl
      | some p =>
        simp only [Option.map_some, Option.bind_some]
        split <;> rfl
    · simp only [rule?, ruleP, nameP, numP, wordP, hn, if_true, Option.bind_some]
      cases num? 0 9 p with
      | none => rfl
      | some p =>
        simp only [Option.map_some, Option.bind_some]
        split
        · simp only [Option.bind_some]
          cases num? 0 20 m <;> rfl
        · rfl
    · simp only [rule?, ruleP, nameP, numP, wordP, hn, if_true, Option.bind_some, readCond_P]
      cases num? 0 9 p with
      | none => split <;> rfl
      | some p =>
        simp only [Option.map_some, Option.bind_some]
        by_cases ha : a = ascii "after"
        · rw [if_pos ha]
          simp only [Option.bind_some]
          cases num? 0 20 m with
          | none => split <;> rfl
          | some m =>
            simp only [Option.map_some, Option.bind_some]
            by_cases hi : i = ascii "if"
            · rw [if_pos ⟨ha, hi⟩, if_pos hi]
              simp only [Option.bind_some]
              cases altP 0 r with
              | none => rfl
              | some c =>
                obtain ⟨c1, c2⟩ := c
                simp only [Option.bind_some]
                rcases c2 with _ | ⟨h, _ | ⟨x, _ | ⟨e, q⟩⟩⟩
                · rfl
                · simp only []
                  split <;> rfl
                · simp only []
                  split
                  · simp only [Option.bind_some]
                    split <;> rfl
                  · rfl
                · simp only []
                  by_cases hh : h = ascii "then"
                  · rw [if_pos hh]
                    simp only [Option.bind_some]
                    by_cases hx : isName x = true
                    · rw [if_pos hx]
                      simp only [Option.bind_some]
                      by_cases he : e = ascii "is"
                      · rw [if_pos ⟨hh, he, hx⟩, if_pos he]
                        simp only [Option.bind_some]
                        cases sum? q with
                        | none => rfl
                        | some v =>
                          obtain ⟨v1, v2⟩ := v
                          cases v2 <;> rfl
                      · rw [if_neg (fun z => he z.2.1), if_neg he]; rfl
                    · rw [if_neg (fun z => hx z.2.2), if_neg hx]; rfl
                  · rw [if_neg (fun z => hh z.1), if_neg hh]; rfl
            · rw [if_neg (fun z => hi z.2), if_neg hi]; rfl
        · rw [if_neg (fun z => ha z.1), if_neg ha]; rfl
  rcases t with _ | ⟨n, t⟩
  · rfl
  · by_cases hn : isName n = true
    · rw [← key n t hn]
      rcases t with _ | ⟨b, _ | ⟨c, _ | ⟨d, r⟩⟩⟩
      · simp [cmd?, rule?, hn, a_sensor, a_thing, a_set, a_deaf, a_hears, a_hand, a_hold, a_free, a_drop, a_tick, a_state, a_was, a_list, a_why, a_whynot, a_rings, a_rest, a_try, a_rule]
      · simp only [cmd?, rule?, hn, Bool.true_eq_false, if_false, Option.map_none, reduceCtorEq]
        simp [value?, a_sensor, a_thing, a_set, a_deaf, a_hears, a_hand, a_hold, a_free, a_drop, a_tick, a_state, a_was, a_list, a_why, a_whynot, a_rings, a_rest, a_try, a_rule]
      · simp [cmd?, rule?, hn, a_sensor, a_thing, a_set, a_deaf, a_hears, a_hand, a_hold, a_free, a_drop, a_tick, a_state, a_was, a_list, a_why, a_whynot, a_rings, a_rest, a_try, a_rule]
      · cases r with
        | nil => simp [cmd?, hn]
        | cons e r => simp [cmd?, hn]
    · have hf : isName n = false := by simpa using hn
      have e : ruleP (n :: t) = none := by simp [ruleP, nameP, hf]
      rw [e]
      rcases t with _ | ⟨b, _ | ⟨c, _ | ⟨d, r⟩⟩⟩
      · simp [cmd?, hf, a_sensor, a_thing, a_set, a_deaf, a_hears, a_hand, a_hold, a_free, a_drop, a_tick, a_state, a_was, a_list, a_why, a_whynot, a_rings, a_rest, a_try, a_rule]
      · simp [cmd?, hf, a_sensor, a_thing, a_set, a_deaf, a_hears, a_hand, a_hold, a_free, a_drop, a_tick, a_state, a_was, a_list, a_why, a_whynot, a_rings, a_rest, a_try, a_rule]
      · simp [cmd?, hf, a_sensor, a_thing, a_set, a_deaf, a_hears, a_hand, a_hold, a_free, a_drop, a_tick, a_state, a_was, a_list, a_why, a_whynot, a_rings, a_rest, a_try, a_rule]
      · cases r with
        | nil => simp [cmd?, hf]
        | cons e r => simp [cmd?, hf]
theorem cmd_other {x : Bytes} (h : x ∉ FORMSL.map (·.1)) (h2 : x ≠ ascii "rule") (t : Words) : cmd? (x :: t) = none := by
  simp only [FORMSL, List.map_cons, List.map_nil, List.mem_cons, List.not_mem_nil, or_false, not_or] at h
  obtain ⟨n0, n1, n2, n3, n4, n5, n6, n7, n8, n9, n10, n11, n12, n13, n14, n15, n16, n17⟩ := h
  rcases t with _ | ⟨a, _ | ⟨b, _ | ⟨c, _ | ⟨d, _ | ⟨e, r⟩⟩⟩⟩⟩
  all_goals simp [cmd?, h2, n0, n1, n2, n3, n4, n5, n6, n7, n8, n9, n10, n11, n12, n13, n14, n15, n16, n17]
end Hw
end

/-! ## part M4 -/
section
set_option linter.all false
set_option maxRecDepth 10000
set_option maxHeartbeats 2000000
namespace Hw
open Hr01
/-! ### joined words -/
theorem joined_cons {c : Nat} {w : Bytes} {l : List Bytes} (h : l ≠ []) : joined c (w :: l) = w ++ c :: joined c l := by
  cases l with
  | nil => exact absurd rfl h
  | cons x r => rfl
theorem joined_append {c : Nat} : ∀ {a b : List Bytes}, a ≠ [] → b ≠ [] → joined c (a ++ b) = joined c a ++ c :: joined c b
  | [], b, h, _ => absurd rfl h
  | [w], b, _, h => by
    show joined c (w :: b) = w ++ c :: joined c b
    exact joined_cons h
  | w :: x :: r, b, _, h => by
    show joined c (w :: (x :: r ++ b)) = joined c (w :: x :: r) ++ c :: joined c b
    have e1 : joined c (w :: (x :: r ++ b)) = w ++ c :: joined c (x :: r ++ b) := joined_cons (by simp)
    have e2 : joined c (w :: x :: r) = w ++ c :: joined c (x :: r) := joined_cons (by simp)
    rw [e1, e2, joined_append (a := x :: r) (by simp) h]
    simp
theorem joined_flat {c : Nat} : ∀ {l : List (List Bytes)}, (∀ x ∈ l, x ≠ []) → joined c (l.map (joined c)) = joined c l.flatten
  | [], _ => rfl
  | [x], _ => by simp [joined]
  | x :: y :: r, h => by
    have hy : ((y :: r).flatten) ≠ [] := by
      have := h y (by simp)
      intro z
      rw [List.flatten_cons] at z
      exact this (List.append_eq_nil_iff.mp z).1
    have e : (x :: y :: r).flatten = x ++ (y :: r).flatten := List.flatten_cons
    rw [List.map_cons, joined_cons (by simp), joined_flat (l := y :: r) (fun z hz => h z (List.mem_cons_of_mem _ hz)), e, joined_append (h x (by simp)) hy]
theorem joined_len {c : Nat} : ∀ l : List Bytes, (joined c l).length ≤ (l.map (·.length)).sum + l.length
  | [] => by simp [joined]
  | [w] => by simp [joined]
  | w :: x :: r => by
    rw [joined_cons (by simp)]
    have := joined_len (c := c) (x :: r)
    simp at this ⊢
    omega
/-! ### the text of a sum -/
def signT (p : Bool) : Bytes := if p then ascii "+" else ascii "-"
def termsT (l : Sum) : Words := l.flatMap fun x => [signT x.1, termText x.2]
theorem zip_text : ∀ (l : Sum) (n : Nat), (l.zipIdx (n + 1)).flatMap (fun x => (if x.2 = 0 then [] else [if x.1.1 then ascii "+" else ascii "-"]) ++ [termText x.1.2]) = termsT l
  | [], n => rfl
  | x :: r, n => by
    rw [List.zipIdx_cons, List.flatMap_cons, zip_text r (n + 1)]
    show _ = [signT x.1, termText x.2] ++ termsT r
    rw [if_neg (by omega)]
    rfl
theorem sumText_terms (l : Sum) : sumText l = (termsT l).drop 1 := by
  cases l with
  | nil => rfl
  | cons x r =>
    unfold sumText
    rw [List.zipIdx_cons, List.flatMap_cons, zip_text r 0]
    rfl
theorem sumText_ne {l : Sum} (h : l ≠ []) : sumText l ≠ [] := by
  cases l with
  | nil => exact absurd rfl h
  | cons x r => rw [sumText_terms]; intro z; cases z
/-! ### what a reading leaves of terms -/
def TermOk : Term → Prop
  | .num n => n ≤ 99999
  | .thing w => isName w = true
  | .time => True
structure SumOk (l : Sum) : Prop where
  len : l.length ≤ 4
  ne : l ≠ []
  each : ∀ x ∈ l, TermOk x.2
def CondOk : Cond → Prop
  | .less a b => SumOk a ∧ SumOk b
  | .same a b => SumOk a ∧ SumOk b
  | .not c => CondOk c
  | .both a b => CondOk a ∧ CondOk b
  | .either a b => CondOk a ∧ CondOk b
/-- how many signs and comparisons -/
def csize : Cond → Nat
  | .less _ _ => 1
  | .same _ _ => 1
  | .not c => 1 + csize c
  | .both a b => 1 + csize a + csize b
  | .either a b => 1 + csize a + csize b
theorem csize_pos (c : Cond) : 1 ≤ csize c := by cases c <;> simp [csize] <;> omega
theorem leaves_le : ∀ c : Cond, (leaves c).length ≤ csize c
  | .less _ _ => by simp [leaves, csize]
  | .same _ _ => by simp [leaves, csize]
  | .not c => by have := leaves_le c; simp [leaves, csize]; omega
  | .both a b => by have := leaves_le a; have := leaves_le b; simp [leaves, csize]; omega
  | .either a b => by have := leaves_le a; have := leaves_le b; simp [leaves, csize]; omega
theorem num_hi {lo hi : Nat} {w : Bytes} {n : Nat} (h : num? lo hi w = some n) : lo ≤ n ∧ n ≤ hi := by
  unfold num? at h
  split at h
  · cases h
  · dsimp only at h
    split at h
    · rename_i c; cases h; exact c
    · cases h
theorem term_ok {w : Bytes} {x : Term} (h : term? w = some x) : TermOk x := by
  unfold term? at h
  split at h
  · cases h; trivial
  · split at h
    · rename_i hn; cases h; exact hn
    · obtain ⟨n, hn, rfl⟩ := Option.map_eq_some_iff.mp h
      exact (num_hi hn).2
theorem sumFrom_ok : ∀ (k : Nat) (p : Bool) (t : Words) (x : Sum × Words), sumFrom k p t = some x → x.1.length ≤ k ∧ x.1 ≠ [] ∧ ∀ y ∈ x.1, TermOk y.2
  | 0, _, _, _, h => by cases h
  | k + 1, p, [], _, h => by cases h
  | k + 1, p, [w], x, h => by
    unfold sumFrom at h
    dsimp only at h
    cases e : term? w with
    | none => rw [e] at h; cases h
    | some y =>
      rw [e] at h
      cases h
      exact ⟨by simp, by simp, fun z hz => by simp at hz; subst hz; exact term_ok e⟩
  | k + 1, p, w :: s :: q, x, h => by
    unfold sumFrom at h
    dsimp only at h
    cases e : term? w with
    | none => rw [e] at h; cases h
    | some y =>
      rw [e] at h
      dsimp only at h
      split at h
      · obtain ⟨z, hz, rfl⟩ := Option.map_eq_some_iff.mp h
        obtain ⟨h1, h2, h3⟩ := sumFrom_ok k _ q z hz
        refine ⟨by simp; omega, by simp, fun v hv => ?_⟩
        rcases List.mem_cons.mp hv with rfl | hv
        · exact term_ok e
        · exact h3 v hv
      · cases h
        exact ⟨by simp, by simp, fun z hz => by simp at hz; subst hz; exact term_ok e⟩
theorem sum_ok {t : Words} {x : Sum × Words} (h : sum? t = some x) : SumOk x.1 := by
  obtain ⟨h1, h2, h3⟩ := sumFrom_ok _ _ _ _ h
  exact ⟨h1, h2, h3⟩
theorem cmp_ok {t : Words} {x : Cond × Words} (h : cmpP t = some x) : CondOk x.1 ∧ csize x.1 + x.2.length ≤ t.length := by
  unfold cmpP at h
  cases e : sum? t with
  | none => rw [e] at h; cases h
  | some a =>
    rw [e] at h
    have h1 := sum_len e
    dsimp only at h
    cases e2 : a.2 with
    | nil => rw [e2] at h; cases h
    | cons c q =>
      rw [e2] at h h1
      dsimp only at h
      split at h
      · cases h
      · cases e3 : sum? q with
        | none => rw [e3] at h; cases h
        | some b =>
          rw [e3] at h
          have h2 := sum_len e3
          cases h
          simp at h1
          dsimp only
          split
          · exact ⟨⟨sum_ok e, sum_ok e3⟩, by simp [csize]; omega⟩
          · exact ⟨⟨sum_ok e, sum_ok e3⟩, by simp [csize]; omega⟩
structure CRead (k : Nat) : Prop where
  alt : ∀ d t x, alt k d t = some x → CondOk x.1 ∧ csize x.1 + x.2.length ≤ t.length
  alts : ∀ d a t x, CondOk a → alts k d a t = some x → CondOk x.1 ∧ csize x.1 + x.2.length ≤ csize a + t.length
  all : ∀ d t x, all k d t = some x → CondOk x.1 ∧ csize x.1 + x.2.length ≤ t.length
  alls : ∀ d a t x, CondOk a → alls k d a t = some x → CondOk x.1 ∧ csize x.1 + x.2.length ≤ csize a + t.length
  one : ∀ d t x, one k d t = some x → CondOk x.1 ∧ csize x.1 + x.2.length ≤ t.length
theorem cread : ∀ k, CRead k
  | 0 => by
    refine ⟨?_, ?_, ?_, ?_, ?_⟩
    · intro d t x h; unfold Hr01.alt at h; cases h
    · intro d a t x _ h; unfold Hr01.alts at h; cases h
    · intro d t x h; unfold Hr01.all at h; cases h
    · intro d a t x _ h; unfold Hr01.alls at h; cases h
    · intro d t x h; unfold Hr01.one at h; cases h
  | k + 1 => by
    have R := cread k
    refine ⟨?_, ?_, ?_, ?_, ?_⟩
    · intro d t x h
      rw [alt_s] at h
      cases e : Hr01.all k d t with
      | none => rw [e] at h; cases h
      | some y =>
        rw [e] at h
        obtain ⟨h1, h2⟩ := R.all d t y e
        obtain ⟨h3, h4⟩ := R.alts d _ _ x h1 h
        exact ⟨h3, by omega⟩
    · intro d a t x ha h
      cases t with
      | nil => rw [alts_nil] at h; cases h; exact ⟨ha, by simp⟩
      | cons w r =>
        rw [alts_c] at h
        split at h
        · cases e : Hr01.all k d r with
          | none => rw [e] at h; cases h
          | some y =>
            rw [e] at h
            obtain ⟨h1, h2⟩ := R.all d r y e
            obtain ⟨h3, h4⟩ := R.alts d _ _ x (show CondOk (.either a y.1) from ⟨ha, h1⟩) h
            refine ⟨h3, ?_⟩
            simp only [csize] at h4
            simp; omega
        · cases h; exact ⟨ha, by simp⟩
    · intro d t x h
      rw [all_s] at h
      cases e : Hr01.one k d t with
      | none => rw [e] at h; cases h
      | some y =>
        rw [e] at h
        obtain ⟨h1, h2⟩ := R.one d t y e
        obtain ⟨h3, h4⟩ := R.alls d _ _ x h1 h
        exact ⟨h3, by omega⟩
    · intro d a t x ha h
      cases t with
      | nil => rw [alls_nil] at h; cases h; exact ⟨ha, by simp⟩
      | cons w r =>
        rw [alls_c] at h
        split at h
        · cases e : Hr01.one k d r with
          | none => rw [e] at h; cases h
          | some y =>
            rw [e] at h
            obtain ⟨h1, h2⟩ := R.one d r y e
            obtain ⟨h3, h4⟩ := R.alls d _ _ x (show CondOk (.both a y.1) from ⟨ha, h1⟩) h
            refine ⟨h3, ?_⟩
            simp only [csize] at h4
            simp; omega
        · cases h; exact ⟨ha, by simp⟩
    · intro d t x h
      cases t with
      | nil => rw [one_nil] at h; cases h
      | cons w r =>
        rw [one_c] at h
        split at h
        · split at h
          · cases h
          · obtain ⟨y, hy, rfl⟩ := Option.map_eq_some_iff.mp h
            obtain ⟨h1, h2⟩ := R.one _ r y hy
            exact ⟨h1, by simp [csize]; omega⟩
        · split at h
          · split at h
            · cases h
            · cases e : Hr01.alt k (d + 1) r with
              | none => rw [e] at h; cases h
              | some y =>
                rw [e] at h
                obtain ⟨h1, h2⟩ := R.alt _ r y e
                dsimp only at h
                cases e2 : y.2 with
                | nil => rw [e2] at h; cases h
                | cons c q =>
                  rw [e2] at h h2
                  dsimp only at h
                  split at h
                  · cases h
                    refine ⟨h1, ?_⟩
                    simp at h2 ⊢; omega
                  · cases h
          · exact cmp_ok h
theorem altP_ok {d : Nat} {t : Words} {x : Cond × Words} (h : altP d t = some x) : CondOk x.1 ∧ csize x.1 + x.2.length ≤ t.length := (cread _).alt d t x h
/-! ### the text of a condition -/
def opO (o : Bool) (a b : Cond) : Cond := if o then .either a b else .both a b
def sgT (o : Bool) : Bytes := if o then ascii "|" else ascii "&"
def kO (o : Bool) : Nat := if o then 0 else 1
/-- how tightly it binds -/
def tight : Cond → Nat
  | .either _ _ => 1
  | .both _ _ => 2
  | _ => 3
theorem condText_k (c : Cond) {k : Nat} (hk : k ≤ 2) : condText c k = if k + 1 ≤ tight c then condText c 0 else ascii "(" :: condText c 0 ++ [ascii ")"] := by
  cases c with
  | less a b => rw [if_pos (by show k + 1 ≤ 3; omega)]; rfl
  | same a b => rw [if_pos (by show k + 1 ≤ 3; omega)]; rfl
  | not c => rw [if_pos (by show k + 1 ≤ 3; omega)]; rfl
  | both a b =>
    have e : ∀ j, condText (.both a b) j = if 1 < j then ascii "(" :: (condText a 1 ++ ascii "&" :: condText b 2) ++ [ascii ")"] else condText a 1 ++ ascii "&" :: condText b 2 := fun j => rfl
    rw [e k, e 0, if_neg (by omega : ¬ 1 < 0)]
    by_cases c : 1 < k
    · rw [if_pos c, if_neg (by show ¬ k + 1 ≤ 2; omega)]
    · rw [if_neg c, if_pos (by show k + 1 ≤ 2; omega)]
  | either a b =>
    have e : ∀ j, condText (.either a b) j = if 0 < j then ascii "(" :: (condText a 0 ++ ascii "|" :: condText b 1) ++ [ascii ")"] else condText a 0 ++ ascii "|" :: condText b 1 := fun j => rfl
    rw [e k, e 0, if_neg (by omega : ¬ 0 < 0)]
    by_cases c : 0 < k
    · rw [if_pos c, if_neg (by show ¬ k + 1 ≤ 1; omega)]
    · rw [if_neg c, if_pos (by show k + 1 ≤ 1; omega)]
theorem condText_op (o : Bool) (a b : Cond) {k : Nat} (hk : k ≤ kO o) : condText (opO o a b) k = condText a (kO o) ++ sgT o :: condText b (kO o + 1) := by
  cases o
  · show (if 1 < k then _ else _) = _
    have : k ≤ 1 := hk
    rw [if_neg (by omega)]; rfl
  · show (if 0 < k then _ else _) = _
    have : k ≤ 0 := hk
    rw [if_neg (by omega)]; rfl
theorem condText_fold (o : Bool) : ∀ (cs : List Cond) (c0 : Cond) (k : Nat), k ≤ kO o → (cs = [] → k = kO o) → condText (cs.foldl (opO o) c0) k = condText c0 (kO o) ++ cs.flatMap fun c => sgT o :: condText c (kO o + 1)
  | [], c0, k, _, h => by rw [h rfl]; simp
  | [c], c0, k, hk, _ => by
    rw [List.foldl_cons, List.foldl_nil, condText_op o c0 c hk]; simp
  | c :: d :: r, c0, k, hk, _ => by
    rw [List.foldl_cons, condText_fold o (d :: r) (opO o c0 c) k hk (fun z => by cases z), condText_op o c0 c (Nat.le_refl _), List.flatMap_cons]
    simp
theorem condText_ne : ∀ (c : Cond) (k : Nat), CondOk c → condText c k ≠ []
  | .less a b, k, h => by unfold condText; intro z; exact sumText_ne h.1.ne (List.append_eq_nil_iff.mp z).1
  | .same a b, k, h => by unfold condText; intro z; exact sumText_ne h.1.ne (List.append_eq_nil_iff.mp z).1
  | .not c, k, _ => by unfold condText; intro z; cases z
  | .both a b, k, h => by
    unfold condText
    dsimp only
    split
    · intro z; cases z
    · intro z; cases (List.append_eq_nil_iff.mp z).2
  | .either a b, k, h => by
    unfold condText
    dsimp only
    split
    · intro z; cases z
    · intro z; cases (List.append_eq_nil_iff.mp z).2
end Hw
end

/-! ## part M5 -/
section
set_option linter.all false
set_option maxRecDepth 10000
set_option maxHeartbeats 2000000
namespace Hw
open Hr01
/-! ### what a device depends on -/
inductive Reach (s : House) (n : Bytes) : Bytes → Prop
  | base {x : Bytes} : x ∈ hangs s n → Reach s n x
  | step {x y : Bytes} : Reach s n y → x ∈ hangs s y → Reach s n x
theorem hangs_thing {s : House} {n x : Bytes} (h : x ∈ hangs s n) : x ∈ s.things.map (·.name) := by
  unfold hangs at h
  obtain ⟨r, _, h2⟩ := List.mem_flatMap.mp h
  have := (List.mem_filter.mp h2).2
  unfold thingOf at this
  obtain ⟨y, hy, e⟩ := List.find?_isSome.mp this
  exact List.mem_map.mpr ⟨y, hy, eq_of_beq e⟩
theorem Reach.thing {s : House} {n x : Bytes} (h : Reach s n x) : x ∈ s.things.map (·.name) := by
  cases h with
  | base h => exact hangs_thing h
  | step _ h => exact hangs_thing h
/-- what is new -/
def fresh (s : House) (l : List Bytes) : List Bytes := (l.flatMap (hangs s)).foldl (fun a w => if l.contains w || a.contains w then a else a ++ [w]) []
theorem within_s (s : House) (k : Nat) (l : List Bytes) : within s (k + 1) l = within s k (l ++ fresh s l) := rfl
theorem fold_mem (l : List Bytes) : ∀ (ws a : List Bytes) (x : Bytes), x ∈ ws.foldl (fun a w => if l.contains w || a.contains w then a else a ++ [w]) a ↔ x ∈ a ∨ (x ∈ ws ∧ x ∉ l)
  | [], a, x => by simp
  | w :: ws, a, x => by
    rw [List.foldl_cons, fold_mem l ws]
    by_cases c : (l.contains w || a.contains w) = true
    · rw [if_pos c]
      simp only [Bool.or_eq_true, List.contains_iff_mem] at c
      constructor
      · rintro (h | h)
        · exact .inl h
        · exact .inr ⟨List.mem_cons_of_mem _ h.1, h.2⟩
      · rintro (h | ⟨h1, h2⟩)
        · exact .inl h
        · rcases List.mem_cons.mp h1 with e | h1
          · rcases c with c | c
            · rw [e] at h2; exact absurd c h2
            · rw [e]; exact .inl c
          · exact .inr ⟨h1, h2⟩
    · rw [if_neg c]
      simp only [Bool.or_eq_true, List.contains_iff_mem, not_or] at c
      constructor
      · rintro (h | h)
        · rcases List.mem_append.mp h with h | h
          · exact .inl h
          · simp at h; rw [h]; exact .inr ⟨List.mem_cons_self .., c.1⟩
        · exact .inr ⟨List.mem_cons_of_mem _ h.1, h.2⟩
      · rintro (h | ⟨h1, h2⟩)
        · exact .inl (List.mem_append_left _ h)
        · rcases List.mem_cons.mp h1 with e | h1
          · exact .inl (List.mem_append_right _ (by simp [e]))
          · exact .inr ⟨h1, h2⟩
theorem fresh_mem {s : House} {l : List Bytes} {x : Bytes} : x ∈ fresh s l ↔ (∃ y ∈ l, x ∈ hangs s y) ∧ x ∉ l := by
  unfold fresh
  rw [fold_mem]
  simp [List.mem_flatMap]
theorem within_sub {s : House} : ∀ (k : Nat) (l : List Bytes) (x : Bytes), x ∈ l → x ∈ within s k l
  | 0, l, x, h => h
  | k + 1, l, x, h => by rw [within_s]; exact within_sub k _ x (List.mem_append_left _ h)
theorem within_reach {s : House} {n : Bytes} : ∀ (k : Nat) (l : List Bytes), (∀ x ∈ l, Reach s n x) → ∀ x ∈ within s k l, Reach s n x
  | 0, l, h, x, hx => h x hx
  | k + 1, l, h, x, hx => by
    rw [within_s] at hx
    refine within_reach k _ (fun y hy => ?_) x hx
    rcases List.mem_append.mp hy with hy | hy
    · exact h y hy
    · obtain ⟨⟨z, hz, hzy⟩, _⟩ := fresh_mem.mp hy
      exact .step (h z hz) hzy
def Closed (s : House) (l : List Bytes) : Prop := ∀ y ∈ l, ∀ x ∈ hangs s y, x ∈ l
/-- how many device names are among them -/
def among (T l : List Bytes) : Nat := (T.filter fun x => l.contains x).length
theorem among_lt {T l m : List Bytes} (nd : T.Nodup) (sub : ∀ x ∈ l, x ∈ m) {y : Bytes} (hy : y ∈ T) (h1 : y ∉ l) (h2 : y ∈ m) : among T l < among T m := by
  unfold among
  induction T with
  | nil => cases hy
  | cons t T ih =>
    rw [List.nodup_cons] at nd
    have mono : ∀ T : List Bytes, (T.filter fun x => l.contains x).length ≤ (T.filter fun x => m.contains x).length := by
      intro T
      induction T with
      | nil => simp
      | cons t T ih =>
        rw [List.filter_cons, List.filter_cons]
        by_cases c : l.contains t = true
        · have c2 : m.contains t = true := by rw [List.contains_iff_mem] at c ⊢; exact sub t c
          rw [if_pos c, if_pos c2, List.length_cons, List.length_cons]; omega
        · rw [if_neg c]
          split
          · rw [List.length_cons]; omega
          · exact ih
    rw [List.filter_cons, List.filter_cons]
    rcases List.mem_cons.mp hy with e | hy
    · subst e
      rw [if_neg (by rw [List.contains_iff_mem]; exact h1), if_pos (by rw [List.contains_iff_mem]; exact h2)]
      have := mono T
      rw [List.length_cons]; omega
    · have ih := ih nd.2 hy
      by_cases c : l.contains t = true
      · have c2 : m.contains t = true := by rw [List.contains_iff_mem] at c ⊢; exact sub t c
        rw [if_pos c, if_pos c2, List.length_cons, List.length_cons]; omega
      · rw [if_neg c]
        split
        · rw [List.length_cons]; omega
        · exact ih
theorem among_all {T l : List Bytes} (h : T.length ≤ among T l) : ∀ x ∈ T, x ∈ l := by
  intro x hx
  unfold among at h
  have := List.length_filter_le (fun x => l.contains x) T
  have e : (T.filter fun x => l.contains x).length = T.length := by omega
  have e2 := List.length_filter_eq_length_iff.mp e x hx
  exact List.contains_iff_mem.mp e2
theorem within_closed {s : House} (nd : (s.things.map (·.name)).Nodup) : ∀ (k : Nat) (l : List Bytes), (s.things.map (·.name)).length ≤ among (s.things.map (·.name)) l + k → Closed s (within s k l)
  | 0, l, h => fun y hy x hx => among_all (l := l) (by omega) x (hangs_thing hx)
  | k + 1, l, h => by
    rw [within_s]
    by_cases c : fresh s l = []
    · have cl : Closed s l := fun y hy x hx => by
        cases e : decide (x ∈ l) with
        | true => exact of_decide_eq_true e
        | false =>
          have : x ∈ fresh s l := fresh_mem.mpr ⟨⟨y, hy, hx⟩, of_decide_eq_false e⟩
          rw [c] at this; cases this
      rw [c, List.append_nil]
      have : ∀ k, within s k l = l := by
        intro k
        induction k with
        | zero => rfl
        | succ k ih => rw [within_s, c, List.append_nil]; exact ih
      rw [this]; exact cl
    · refine within_closed nd k _ ?_
      obtain ⟨y, hy⟩ := List.exists_mem_of_ne_nil _ c
      obtain ⟨⟨z, hz, hzy⟩, hn⟩ := fresh_mem.mp hy
      have := among_lt nd (l := l) (m := l ++ fresh s l) (fun x hx => List.mem_append_left _ hx) (hangs_thing hzy) hn (List.mem_append_right _ hy)
      omega
theorem ringed_iff {s : House} (nd : (s.things.map (·.name)).Nodup) (n : Bytes) : ringed s n = true ↔ Reach s n n := by
  unfold ringed
  rw [List.contains_iff_mem]
  constructor
  · intro h; exact within_reach _ _ (fun x hx => .base hx) n h
  · intro h
    have cl := within_closed nd s.things.length (hangs s n) (by rw [List.length_map]; omega)
    have : ∀ x, Reach s n x → x ∈ within s s.things.length (hangs s n) := by
      intro x hx
      induction hx with
      | base h => exact within_sub _ _ _ h
      | step _ h ih => exact cl _ ih _ h
    exact this n h
/-- a closed set tells it -/
theorem ringed_of {s : House} (nd : (s.things.map (·.name)).Nodup) {n : Bytes} {R : List Bytes} (h1 : ∀ x ∈ R, Reach s n x) (h2 : ∀ x ∈ hangs s n, x ∈ R) (h3 : ∀ y ∈ R, ∀ x ∈ hangs s y, x ∈ R) : ringed s n = R.contains n := by
  rw [Bool.eq_iff_iff, ringed_iff nd, List.contains_iff_mem]
  refine ⟨fun h => ?_, h1 n⟩
  have : ∀ x, Reach s n x → x ∈ R := by
    intro x hx
    induction hx with
    | base h => exact h2 _ h
    | step _ h ih => exact h3 _ ih _ h
  exact this n h
end Hw
end

/-! ## part M6 -/
section
set_option linter.all false
set_option maxRecDepth 10000
set_option maxHeartbeats 2000000
namespace Hw
open Hr01 (Bytes House Cmd does)
/-! ### what is handed in: calls told flat -/
def flat : List (List Int) → List Int
  | [] => []
  | ns :: r => 1 :: (ns.length : Int) :: (ns ++ 0 :: flat r)
theorem flat_append : ∀ a b : List (List Int), flat (a ++ b) = flat a ++ flat b
  | [], b => rfl
  | ns :: r, b => by
    show 1 :: (ns.length : Int) :: (ns ++ 0 :: flat (r ++ b)) = 1 :: (ns.length : Int) :: (ns ++ 0 :: flat r) ++ flat b
    rw [flat_append r b]
    simp
/-- the answer to one call -/
def ans1 (s : House) (ns : List Int) : List Int := (Hr01.step s (.say ns)).2.v :: (Hr01.step s (.say ns)).2.l
def stp (s : House) (ns : List Int) : House := (Hr01.step s (.say ns)).1
def outs : House → List (List Int) → List Int
  | _, [] => []
  | s, ns :: r => ((ans1 s ns).length : Int) :: (ans1 s ns ++ outs (stp s ns) r)
theorem row_some {r ns t : List Int} (h : PyFlat.row r = some (ns, t)) : r = (ns.length : Int) :: (ns ++ t) := by
  cases r with
  | nil => cases h
  | cons n q =>
    replace h : (if 0 ≤ n ∧ n.toNat ≤ q.length then some (q.take n.toNat, q.drop n.toNat) else none) = some (ns, t) := h
    split at h
    · rename_i c
      cases h
      rw [List.length_take, Nat.min_eq_left c.2, List.take_append_drop]
      rw [Int.toNat_of_nonneg c.1]
    · cases h
theorem rows_nil : ∀ {k : Nat} {t u : List Int}, PyFlat.rows k t = some ([], u) → k = 0 ∧ u = t
  | 0, t, u, h => by cases h; exact ⟨rfl, rfl⟩
  | k + 1, t, u, h => by
    unfold PyFlat.rows at h
    split at h
    · cases h
    · split at h
      · cases h
      · cases h
theorem call_some {l : List Int} {c : List (List Int)} {t : List Int} (h : PyWide.call l = some (c, t)) (ha : Hr01Neutral.asked1 c = true) : ∃ ns, c = [1 :: ns] ∧ l = 1 :: (ns.length : Int) :: (ns ++ 0 :: t) ∧ ns.length ≤ 179 := by
  cases l with
  | nil => cases h
  | cons p r =>
    unfold PyWide.call at h
    dsimp only at h
    split at h
    · cases h
    · cases h
    · rename_i ns k t' e
      have er := row_some e
      split at h
      · rename_i hk
        split at h
        · cases h
        · rename_i xs u e2
          cases h
          unfold Hr01Neutral.asked1 at ha
          rw [Bool.and_eq_true] at ha
          obtain ⟨h1, h2⟩ := ha
          have hx : xs = [] := by
            have : ((p :: ns) :: xs).length = 1 := by simpa using h1
            simpa using this
          subst hx
          obtain ⟨k0, rfl⟩ := rows_nil e2
          have hk0 : k = 0 := by omega
          subst hk0
          simp only [List.headD_cons, Bool.and_eq_true] at h2
          have hp : p = 1 := by
            have h3 := h2.2.2
            unfold Hr01Neutral.callOf at h3
            split at h3
            · rename_i q
              exact (List.cons.inj q).1
            · cases h3
          subst hp
          refine ⟨ns, rfl, by rw [er], ?_⟩
          have h4 : (1 :: ns).length ≤ 180 := of_decide_eq_true h2.2.1
          simpa using h4
      · cases h
theorem calls_flat : ∀ {f : Nat} {l : List Int} {cs : List (List (List Int))}, PyWide.calls f l = some cs → cs.all Hr01Neutral.asked1 = true → ∃ nss : List (List Int), cs = nss.map (fun ns => [1 :: ns]) ∧ l = flat nss ∧ ∀ ns ∈ nss, ns.length ≤ 179
  | _, [], cs, h, ha => by
    unfold PyWide.calls at h
    cases h
    exact ⟨[], rfl, rfl, fun _ z => absurd z List.not_mem_nil⟩
  | 0, _ :: _, cs, h, ha => by cases h
  | f + 1, p :: r, cs, h, ha => by
    unfold PyWide.calls at h
    split at h
    · cases h
    · rename_i c t e
      split at h
      · cases h
      · rename_i cs' e2
        cases h
        rw [List.all_cons, Bool.and_eq_true] at ha
        obtain ⟨ns, rfl, el, hl⟩ := call_some e ha.1
        obtain ⟨nss, rfl, rfl, hn⟩ := calls_flat e2 ha.2
        refine ⟨ns :: nss, rfl, el, fun x hx => ?_⟩
        rcases List.mem_cons.mp hx with rfl | hx
        · exact hl
        · exact hn x hx
theorem played_outs : ∀ (nss : List (List Int)) (s : House), PyFlat.told (PyFlat.played Hr01Neutral.step s (nss.map fun ns => [1 :: ns])) = outs s nss
  | [], s => rfl
  | ns :: r, s => by
    have ih := played_outs r (stp s ns)
    show ((ans1 s ns).length : Int) :: (ans1 s ns) ++ PyFlat.told (PyFlat.played Hr01Neutral.step (stp s ns) (r.map fun ns => [1 :: ns])) = _
    rw [ih]
    rfl
/-- what is asked, opened -/
theorem asked_open {l : List Int} (h : PyHr01.answers_asked l = true) : ∃ nss : List (List Int), l = flat nss ∧ nss.length ≤ 60 ∧ (∀ ns ∈ nss, ns.length ≤ 179) ∧ PyHr01.answers l = outs Hr01.start nss ∧ (outs Hr01.start nss).length ≤ 10000000 := by
  unfold PyHr01.answers_asked at h
  cases e : PyHr01.calls l with
  | none => rw [e] at h; cases h
  | some cs =>
    rw [e] at h
    dsimp only at h
    rw [Bool.and_eq_true, Bool.and_eq_true] at h
    obtain ⟨⟨h1, h2⟩, h3⟩ := h
    unfold Hr01Neutral.asked at h2
    rw [Bool.and_eq_true] at h2
    obtain ⟨nss, rfl, el, hn⟩ := calls_flat e h2.1
    have hl : (nss.map fun ns : List Int => [1 :: ns]).length ≤ 60 := of_decide_eq_true h1
    rw [List.length_map] at hl
    have ea : PyHr01.answers l = outs Hr01.start nss := by
      unfold PyHr01.answers
      rw [e]
      exact played_outs nss Hr01.start
    refine ⟨nss, el, hl, hn, ea, ?_⟩
    have h4 : (PyHr01.answers l).length ≤ 10000000 := of_decide_eq_true h3
    rw [ea] at h4
    exact h4
end Hw
end

/-! ## part R0 -/
section
set_option Elab.async false
set_option linter.all false
set_option maxRecDepth 100000
namespace Hw
open PySem PySem.Spec PyProof.Rows L2
open Hr01 (Bytes Words Term Sum Cond ascii isName num? term? digit small)
/-! ### texts -/
abbrev S (w : Bytes) : Str := ⟨w.toArray⟩
abbrev vS (w : Bytes) : V := .str (S w)
theorem S_tl (w : Bytes) : (S w).cps.toList = w := by simp
theorem S_len (w : Bytes) : (S w).length = w.length := by simp [Str.length]
theorem S_inj {a b : Bytes} (h : S a = S b) : a = b := by
  have := congrArg (fun z : Str => z.cps.toList) h
  simpa using this
theorem S_iff {a b : Bytes} : S a = S b ↔ a = b := ⟨S_inj, fun h => by rw [h]⟩
theorem S_dec (a b : Bytes) : decide (vS a = vS b) = decide (a = b) := by
  by_cases e : a = b
  · subst e; simp
  · rw [decide_eq_false e, decide_eq_false fun z => e (S_inj (V.str.inj z))]
theorem S_of (s : String) : (PySem.Str.ofString s) = S (ascii s) := TL.ext_tl ((TL.tl_ofString s).trans (S_tl (ascii s)).symm)
theorem sz200 {n : Nat} (h : n ≤ 200) : n ≤ sizeLine := by rw [sizeLine_eq]; omega
/-- the signs that words are made of -/
def okC (c : Nat) : Bool := goodC c || c == 63
theorem okC_lt {c : Nat} (h : okC c = true) : c < 127 := by
  unfold okC goodC small digit at h
  simp only [Bool.or_eq_true, Bool.and_eq_true, decide_eq_true_eq, List.contains_eq_mem, beq_iff_eq, List.mem_cons, List.not_mem_nil, or_false] at h
  omega
theorem alpha_tab : ∀ c, c < 127 → okC c = true → Unicode.isAlpha c = small c := by decide +kernel
theorem digit_tab : ∀ c, c < 127 → okC c = true → Unicode.isDigit c = digit c := by decide +kernel
theorem all_congr {w : Bytes} {p q : Nat → Bool} (h : ∀ c ∈ w, p c = q c) : w.all p = w.all q := by
  induction w with
  | nil => rfl
  | cons c r ih => rw [List.all_cons, List.all_cons, h c (List.mem_cons_self ..), ih fun x hx => h x (List.mem_cons_of_mem _ hx)]
theorem isalpha_S {w : Bytes} (h : w.all okC = true) : Txt.isalpha (S w) = (decide (1 ≤ w.length) && w.all small) := by
  unfold Txt.isalpha
  rw [S_len]
  have e : (S w).cps.all Unicode.isAlpha = w.all small := by
    have e1 : (S w).cps.all Unicode.isAlpha = w.all Unicode.isAlpha := by simp
    rw [e1]
    exact all_congr fun c hc => alpha_tab c (okC_lt (List.all_eq_true.mp h c hc)) (List.all_eq_true.mp h c hc)
  rw [e]
  rfl
theorem isdigit_S {w : Bytes} (h : w.all okC = true) : Txt.isdigit (S w) = (decide (1 ≤ w.length) && w.all digit) := by
  unfold Txt.isdigit
  rw [S_len]
  have e : (S w).cps.all Unicode.isDigit = w.all digit := by
    have e1 : (S w).cps.all Unicode.isDigit = w.all Unicode.isDigit := by simp
    rw [e1]
    exact all_congr fun c hc => digit_tab c (okC_lt (List.all_eq_true.mp h c hc)) (List.all_eq_true.mp h c hc)
  rw [e]
  rfl
/-! ### heaps -/
/-- all but what M tells is as it was -/
def Fr (M : Addr → Prop) (H H' : Hp) : Prop := ∀ b o, H b = some o → ¬ M b → H' b = some o
theorem Fr.refl {M : Addr → Prop} {H : Hp} : Fr M H H := fun _ _ h _ => h
theorem Fr.trans {M : Addr → Prop} {H H1 H2 : Hp} (a : Fr M H H1) (b : Fr M H1 H2) : Fr M H H2 := fun c o h n => b c o (a c o h n) n
theorem Fr.put {M : Addr → Prop} {H : Hp} {a : Addr} {o : HO} (h : M a) : Fr M H (upd H a o) := fun b u e n => by
  rw [upd_ne (fun z => n (by rw [z]; exact h))]; exact e
theorem Fr.new {M : Addr → Prop} {H : Hp} {a : Addr} {o : HO} (h : H a = none) : Fr M H (upd H a o) := fun b u e _ => by
  rw [upd_ne (ne_of_none e h)]; exact e
theorem Fr.of_same {M : Addr → Prop} {H H' : Hp} (h : Same H H') : Fr M H H' := fun b o e _ => h b o e
theorem same_new {H : Hp} {a : Addr} {o : HO} (h : H a = none) : Same H (upd H a o) := fun b u e => by
  rw [upd_ne (ne_of_none e h)]; exact e
/-- the tuples stand -/
def Tups (H H' : Hp) : Prop := ∀ b xs, H b = some (.tup xs) → H' b = some (.tup xs)
theorem Tups.of_same {H H' : Hp} (h : Same H H') : Tups H H' := fun b _ e => h b _ e
theorem Tups.trans {H H1 H2 : Hp} (a : Tups H H1) (b : Tups H1 H2) : Tups H H2 := fun c xs e => b c xs (a c xs e)
/-! ### fields -/
theorem lk_here {k : Str} {v : V} {r : List (Str × V)} : List.lookup k ((k, v) :: r) = some v := by
  have e : (k == k) = true := beq_self_eq_true k
  simp only [List.lookup, e]
theorem lk_past {k g : Str} {v : V} {r : List (Str × V)} (h : (k == g) = false) : List.lookup k ((g, v) :: r) = List.lookup k r := by
  simp only [List.lookup, h]
theorem put_here {f : Str} {v x : V} {r : List (Str × V)} : putF f v ((f, x) :: r) = (f, v) :: r := if_pos rfl
theorem put_past {f g : Str} {v x : V} {r : List (Str × V)} (h : ¬ g = f) : putF f v ((g, x) :: r) = (g, x) :: putF f v r := if_neg h
/-! ### X(): an own exception without a word -/
theorem pmk_own0 {X : Cx} {C : Addr} {bmB : List Value} {B newId initId : String} {x : Str} {p pos : Pos} (F : ExcBaseFacts B newId initId bmB) (q : PySem.W.excIn X.K C bmB newId = true) (gC : X.mg x = some (.ref C))
    (kC : PySem.W.keepIn X.K (.ref C) = true) (r : Raises X (.ref C)) (hg : Gl X x) (hdb : (x == ("__debug__" : Str)) = false := by decide) :
    PMk X (.Call (.Name x p) [] [] pos) (fun _ H Q => Q (.ref C) none H) := by
  intro pins s σ H Q J h
  refine wpAny_Call_Name_kw (ld_glob J hg gC ?_ hdb)
  refine PySem.W.callWith_K0 J.kIn kC ?_
  obtain ⟨bm, N, nm, qn, bs, hdct, sn, sub, ab, col, dd, k0, k1, k2, k3, k5, mN, hC, hN, hni, T⟩ := exc_obj J.kIn q
  exact wpAny_call_exc_subT F T hC hN hni (fun h' e hm => mk_of J hm r h (J.hok.gone hm.new)) (Nat.zero_le _)
/-! ### names of the top -/
theorem pe_gI {X : Cx} {x : Str} {i : Int} {t : Tok} {pos : Pos} (hg : Gl X x) (hm : X.mg x = some (.int i t)) (hd : (x == ("__debug__" : Str)) = false := by decide) : PE X (.Name x pos) (tC (.int i)) := pe_glob hg hm ⟨t, rfl⟩ hd
theorem pe_gS {X : Cx} {x z : Str} {t : Tok} {pos : Pos} (hg : Gl X x) (hm : X.mg x = some (.str z t)) (hd : (x == ("__debug__" : Str)) = false := by decide) : PE X (.Name x pos) (tC (.str z)) := pe_glob hg hm ⟨t, rfl⟩ hd
theorem pe_gR {X : Cx} {x : Str} {a : Addr} {pos : Pos} (hg : Gl X x) (hm : X.mg x = some (.ref a)) (hd : (x == ("__debug__" : Str)) = false := by decide) : PE X (.Name x pos) (tC (.ref a)) := pe_glob (v := .ref a) hg hm rfl hd
end Hw
end

/-! ## part L1 -/
section
set_option Elab.async false
set_option linter.all false
set_option maxRecDepth 100000
set_option maxHeartbeats 2000000
namespace Hw
open PySem PySem.Spec PyProof.Rows L2
/-! ### a comprehension whose element may raise -/
theorem iteT_elim {A B : Prop} (h : if true = true then A else B) : A := by
  rw [if_pos rfl] at h
  exact h
/-- what a call in the block lets out goes on in the def -/
theorem blk_air {X : Cx} {W : WX} {E : XK} (tk : Takes X W) (hW : ∀ cls d σ H, E cls d H → W cls d σ H) (hs : X.stack = X.env :: X.outer) (hf : X.env.frame = some X.env.locals)
    {pins pb : List (Addr × Obj)} {σ σb : L2.St} {H3 H9 : Hp} {s3 s9 s' : Shared} {fp : List Addr} {scope : Scope} {ce : Env} {xe : Value → Shared → Prop} {u : Value}
    (I3 : Inv X pins σ H3 s3) (f3 : ∀ b ∈ fp, FpOk X pins H3 b) (hcf : ce.frame = X.env.frame) (hC : s3.heap.objs.size ≤ ce.locals)
    (I9 : Inv ((X.blk s3 H3 scope ce fp).wish xe) pb σb H9 s9) (c : L2.CX X.prog X.w X.stack H9 s9 E u s') :
    notedBy (model X.prog X.w) X.A ce (CompFails (model X.prog X.w) X.A X.xe ce) u s' := by
  obtain ⟨a, B, H', cls, d, rfl, fl, hok, ub, na, os, ag, hE⟩ := c
  have hfr : X.A.frames = some (X.env :: X.outer) := I3.ok.frames.trans (congrArg some hs)
  have un : Un (frs X.stack) fp H3 H9 s3.heap s9.heap := I9.base
  have os9 : s9.os = s3.os := I9.os
  show wpAny _ _ (noteFrame (.ref a) ce) _ _ s'
  rw [noteFrame_env _ hcf]
  have fl' := fl
  rw [hs] at fl'
  refine HandSPX.looks_onZ Zc.steady hfr hf fl' fun h1 held up1 => ?_
  generalize hCe : ce.locals = C at hC
  have inF : ∀ b, b ∈ frs X.stack → b < s3.heap.objs.size := fun b hb => by
    obtain ⟨_, o, e, _⟩ := I3.stack.mem hb
    exact Heap.lt_size e
  have CnF : C ∉ frs X.stack := fun z => absurd (inF C z) (by exact Nat.not_lt.mpr hC)
  obtain ⟨m, hm, _⟩ := I9.loc
  have hm : s9.heap.Ns C m := by rw [← hCe]; exact hm
  have nC : H9 C = none := by
    have z : H9 ce.locals = none := I9.free
    rw [hCe] at z
    exact z
  have hm2 := hm
  obtain ⟨oC, es, ep, eC, dC, rC⟩ := hm2
  have BC : B.get? C = some oC := ub.keep C oC eC nC CnF
  have mS : s'.heap.Ns C m := ⟨oC, es, ep, fl.1 _ _ BC, dC, rC⟩
  have m1 : h1.Ns C m := up1.ns mS
  refine ⟨m, by rw [hCe]; exact m1, fun h2 m2 hn2 sb => ?_⟩
  rw [hCe] at hn2 sb
  obtain ⟨B0, b1, b2⟩ := restrict B fun b => decide (b ≠ C)
  have b1' : ∀ b, b ≠ C → B0.get? b = B.get? b := fun b hb => b1 b (decide_eq_true hb)
  have b2' : B0.get? C = none := b2 C (decide_eq_false fun z => z rfl)
  have b0 : ∀ b, B.get? b = none → B0.get? b = none := fun b e => by
    by_cases z : b = C
    · rw [z]; exact b2'
    · rw [b1' b z]; exact e
  have b3 : ∀ b o, B0.get? b = some o → b ≠ C ∧ B.get? b = some o := fun b o e => by
    have z : b ≠ C := fun y => by rw [y, b2'] at e; cases e
    exact ⟨z, by rw [← b1' b z]; exact e⟩
  obtain ⟨k1, k2, k3, oe, vs, T, oT, ts, t1, t2, t3, t4, t5, t6, t7, t8, t9⟩ := held
  obtain ⟨o1, es1, ep1, e1C, d1C, _⟩ := m1
  have aC : a ≠ C := fun z => by rw [z, BC] at k2; cases k2
  have TC : T ≠ C := fun z => by
    rw [z, e1C] at t7
    cases t7
    rw [d1C] at t8; cases t8
  have held2 : HandSPX.HeldZ B0 (X.env :: X.outer) a (Zc cls d) X.env.locals h2 := by
    refine ⟨fun b o e => ?_, b0 a k2, ?_, oe, vs, T, oT, ts, (sb.2 a aC).trans t1, t2, t3, t4, b0 T t5, t6, (sb.2 T TC).trans t7, t8, t9⟩
    · obtain ⟨z1, z2⟩ := b3 b o e
      exact (sb.2 b z1).trans (k1 b o z2)
    · have ff : h2.FunFrames B (X.env :: X.outer) := Heap.FunFrames.sameBut sb hn2 k3
      exact funFrames_none ff fun L hL => b0 L (k3.mem hL).1
  unfold PySem.passOn
  refine wpAny_bind (wpAny_field ((sb.2 a aC).trans t1) t3 t4 ?_)
  rw [if_neg (show ¬ ((Value.ref T == Value.none) = true) from by simp), hcf, hf]
  refine wpAny_bind (HandSPX.setFlight_onZ held2 fun h3 held3 up3 => ?_)
  refine wpAny_throw (tk _ _ ?_)
  obtain ⟨G, g1, g2⟩ := restrict h3 fun b => (B0.get? b).isSome || decide (b ∈ frs X.stack)
  have st3 : B0.StaysIn h3 := held3.1
  have gB : ∀ b o, B0.get? b = some o → G.get? b = some o := fun b o e => by
    rw [g1 b (by simp [e])]; exact st3 b o e
  have gF : ∀ b, b ∈ frs X.stack → G.get? b = h3.get? b := fun b hb => g1 b (by simp [hb])
  have ofG : ∀ b o, G.get? b = some o → h3.get? b = some o ∧ ((B0.get? b).isSome = true ∨ b ∈ frs X.stack) := fun b o e => by
    cases q : ((B0.get? b).isSome || decide (b ∈ frs X.stack)) with
    | false => rw [g2 b q] at e; cases e
    | true => rw [g1 b q] at e; exact ⟨e, by simpa [Bool.or_eq_true] using q⟩
  have nC' : H' C = none := ub.free C oC eC nC
  -- an object of the callers' frames, up to slots
  have frame : ∀ b o, s9.heap.get? b = some o → b ∈ frs X.stack → (∀ vs, o.data ≠ .fields vs) → ∃ sl, G.get? b = some { o with slots := sl } := fun b o e hb hd => by
    obtain ⟨sl, e1⟩ := ub.slot b o e hb
    obtain ⟨sl1, e2⟩ := up1 b _ e1 hd
    have bC : b ≠ C := fun z => CnF (by rw [← z]; exact hb)
    obtain ⟨sl2, e3⟩ := up3 b _ ((sb.2 b bC).trans e2) hd
    exact ⟨sl2, by rw [gF b hb]; exact e3⟩
  have fdata : ∀ b o, s3.heap.get? b = some o → b ∈ frs X.stack → ∀ vs, o.data ≠ .fields vs := fun b o e hb => by
    obtain ⟨_, o', e', hd⟩ := I3.stack.mem hb
    rw [e] at e'; cases e'
    exact hd
  have u3 : Un (frs X.stack) fp H3 H' s3.heap G := by
    refine ⟨fun b o e n hb hx => ?_, fun b o e n hb hx => ?_, fun b o e n hx => ?_, fun b o e hx => ?_, fun b xs e => ub.tups b xs (un.tups b xs e), fun b o v e => ub.frzs b o v (un.frzs b o v e), fun b ps e => ?_⟩
    · have bC : b ≠ C := Nat.ne_of_lt (Nat.lt_of_lt_of_le (Heap.lt_size e) hC)
      exact gB b o (by rw [b1' b bC]; exact ub.keep b o (un.keep b o e n hb hx) (un.free b o e n hx) hb)
    · obtain ⟨sl, e9⟩ := un.slot b o e n hb hx
      obtain ⟨sl2, e3⟩ := frame b _ e9 hb (fdata b o e hb)
      exact ⟨sl2, e3⟩
    · obtain ⟨o9, e9⟩ := un.there b o e hx
      exact ub.free b o9 e9 (un.free b o e n hx)
    · have bC : b ≠ C := Nat.ne_of_lt (Nat.lt_of_lt_of_le (Heap.lt_size e) hC)
      obtain ⟨o9, e9⟩ := un.there b o e hx
      by_cases hb : b ∈ frs X.stack
      · have nb : H3 b = none := I3.stkFree b hb
        obtain ⟨sl, e9'⟩ := un.slot b o e nb hb hx
        obtain ⟨sl2, e3⟩ := frame b _ e9' hb (fdata b o e hb)
        exact ⟨_, e3⟩
      · obtain ⟨o', q⟩ := ub.there b o9 e9 hb
        exact ⟨o', gB b o' (by rw [b1' b bC]; exact q)⟩
    · obtain ⟨p1, e1⟩ := un.tbls b ps e
      obtain ⟨p2, e2⟩ := ub.tbls b _ e1
      exact ⟨p1 ++ p2, by rw [e2, Array.append_assoc]⟩
  have hokG : HOk X.prog X.w H' G := fun b o e => by
    refine (hok b o e).stay (fun y v hy ey => ?_) (fun _ q => q) fun _ _ q => q
    have yC : y ≠ C := fun z => by
      rcases hy with hy | hy
      · rw [← hy, z, nC'] at e; cases e
      · rw [z, nC'] at hy; cases hy
    exact gB y v (by rw [b1' y yC]; exact ey)
  have Iend : Inv X pins σ H' { s' with heap := G } := I3.call' (ch := fp) (os.trans os9) u3 hokG ag fun b hb => ⟨(f3 b hb).2.2.2.1, (f3 b hb).2.1, (f3 b hb).2.2.2.2.1, (f3 b hb).2.2.2.2.2⟩
  refine ⟨a, B0, { s' with heap := G }, pins, σ, H', cls, d, rfl, Iend, fun b o e hb => ?_, Heap.UpToSlots.of_keeps fun b o e => (ofG b o e).1, .inr (.inr (by rw [hs]; exact held3)), na, rfl, ag, hW _ _ _ _ hE⟩
  obtain ⟨e', h⟩ := ofG b o e
  rcases h with h | h
  · obtain ⟨o', q⟩ := Option.isSome_iff_exists.mp h
    have z := st3 b o' q
    rw [e'] at z; cases z
    exact q
  · exact absurd h hb
/-- [elt for tg in iter]: the element may raise what E tells -/
theorem pe_lcX {X : Cx} {W : WX} {E : XK} {elt tg iter : Expr} {scope : Scope} {own : List (Str × Nat)} {pos : Pos} {wi : TI} {g : TG} {te : TE} (tk : Takes X W) (hW : ∀ cls d σ H, E cls d H → W cls d σ H)
    (hstk : X.stack = X.env :: X.outer) (hfrm : X.env.frame = some X.env.locals) (calm : X.calm = true) (nodup : X.N.Nodup) (hi : PI X tg iter wi) (ok : BlkOk X.N X.env.scope scope own)
    (hg : ∀ (s : Shared) (H : Hp) (C : Addr) (cl : List (Str × Addr)) (fp : List Addr), PG (X.blk s H scope (compEnvC scope cl C X.env) fp) tg g)
    (he : ∀ (s : Shared) (H : Hp) (C : Addr) (cl : List (Str × Addr)) (fp : List Addr) (xe : Value → Shared → Prop), Passes (L2.CX X.prog X.w) ((X.blk s H scope (compEnvC scope cl C X.env) fp).wish xe) E → PE ((X.blk s H scope (compEnvC scope cl C X.env) fp).wish xe) elt te)
    (hs : ∀ x, foldedSetIterable iter X.env x = pure x := by intro _; rfl) :
    PE X (.ListComp elt [⟨tg, iter, [], 0⟩] scope pos) (tLc wi g tYes te (own.map (·.2))) := by
  refine ⟨fun pins s0 σ H Q J h => ?_⟩
  rw [eval_ListComp]
  have cells : ∀ y ∈ scope.names, y.2 = .free → ∃ c, X.env.cells.lookup y.1 = some c := fun y hy e => by
    rcases ok.free y hy e with k | k
    · exact J.ok.has _ (.inl k)
    · exact J.ok.has _ (.inr k)
  refine comprehension_at (use := none) rfl hs (closure_ok cells) ok.kind (fun y hy e => by rw [ok.uniq y hy, e])
    (thn (hi.run pins s0 σ H _ J h) fun xv t1 hx => thn hx fun itv t2 h2 => ?_)
  obtain ⟨it, fp, tn, It', H2, e, I2, T, st2, f2, q⟩ := h2
  subst e
  refine wpAny_newObj_type (newEnv_comp ?_) (by show 0 ≤ sizeLine; decide)
  generalize eD : t2.heap.objs.size = D
  obtain ⟨Wv, ⟨m0, w0⟩, turn⟩ := q D (I2.hok.fresh (Nat.le_of_eq eD))
  generalize e3 : ({ t2 with heap := t2.heap.push { cls := .type "list", data := .seq ([] : List Value).toArray } } : Shared) = t3
  have hp3 : t3.heap = t2.heap.push { cls := .type "list", data := .seq ([] : List Value).toArray } := by rw [← e3]
  have I3 : Inv X pins σ (upd H2 D (.lst [])) t3 := by
    rw [← e3]
    refine I2.laid (t' := t2.toks) (fun b o z => Heap.get?_push_of_some _ z) (Nat.le_of_eq eD) ⟨Nat.zero_le _, [], 0, .nil, ?_⟩
    rw [← eD]
    exact Heap.get?_push_size _ rfl
  have low : ∀ b ∈ fp, b < t2.heap.objs.size := fun b hb => by
    obtain ⟨o, z, _⟩ := T.obj _ _ st2 b hb
    exact Heap.lt_size z
  have f3 : ∀ b ∈ fp, FpOk X pins (upd H2 D (.lst [])) b ∧ b < t3.heap.objs.size := fun b hb => by
    refine ⟨⟨?_, (f2 b hb).2⟩, by rw [hp3, Heap.size_push]; exact Nat.lt_succ_of_lt (low b hb)⟩
    rw [upd_ne (by rw [← eD]; exact Nat.ne_of_lt (low b hb))]
    exact (f2 b hb).1
  have st3 : tn 0 t3.heap := T.keep _ _ _ st2 fun b _ o z => by rw [hp3]; exact Heap.get?_push_of_some _ z
  have I4 := block_start I3 ok nodup f3
  generalize ecl : cellsFrom (t3.heap.objs.size + 1) scope.names (cloFrom X.env.cells scope.names []) = cl at I4
  have pg := hg t3 (upd H2 D (.lst [])) t3.heap.objs.size cl fp
  have pe0 := he t3 (upd H2 D (.lst [])) t3.heap.objs.size cl fp
  show codeAny _ _ (.compStart (.ListComp elt [⟨tg, iter, [], 0⟩] scope pos) 0 (.ref it) (.ref D) (compEnvC scope cl t3.heap.objs.size X.env))
    (compEnds (model X.prog X.w) X.A X.xe none _ (.ref D) (compEnvC scope cl t3.heap.objs.size X.env)) { t3 with heap := pushCells (t3.heap.push { cls := .type "dict", data := .dict #[] }) scope.names }
  have free3 : ∀ b ∈ fp, (upd H2 D (.lst [])) b = none := fun b hb => (f3 b hb).1.1
  have cfr : (compEnvC scope cl t3.heap.objs.size X.env).frame = X.env.frame := rfl
  have clo : (compEnvC scope cl t3.heap.objs.size X.env).locals = t3.heap.objs.size := rfl
  generalize ece : compEnvC scope cl t3.heap.objs.size X.env = ce at I4 pg pe0 cfr clo ⊢
  generalize eH3 : upd H2 D (.lst []) = H3 at I3 I4 pg pe0 w0 free3 f3
  generalize e4 : ({ t3 with heap := pushCells (t3.heap.push { cls := .type "dict", data := .dict #[] }) scope.names } : Shared) = t4 at I4 ⊢
  have st4 : tn 0 t4.heap := T.keep _ _ _ st3 fun b _ o z => by rw [← e4]; exact pushCells_keeps _ _ _ _ (Heap.get?_push_of_some _ z)
  have pe := pe0 (notedBy (model X.prog X.w) X.A ce (CompFails (model X.prog X.w) X.A X.xe ce)) fun pb σb H9 s9 u s' I9 c =>
    blk_air tk hW hstk hfrm I3 (fun b hb => (f3 b hb).1) cfr (Nat.le_of_eq clo.symm) I9 c
  have stat : ∀ {σ' : L2.St} {H' : Hp} {s' : Shared}, Inv (X.blk t3 H3 scope ce fp) [] σ' H' s' → (∀ b ∈ fp, H' b = none) → ∀ b ∈ fp, FpOk (X.blk t3 H3 scope ce fp) [] H' b := fun {σ' H' s'} I' hn b hb =>
    ⟨hn b hb, (I'.ok.exf b hb).1, I'.ok.exfs b hb, .inl hb, fun x c z => (I'.ok.exf b hb).2 x c z, fun p hp => absurd (show p ∈ ([] : List (Addr × Obj)) ++ [] from hp) (by simp)⟩
  have loop : codeAny (model X.prog X.w) X.A (.compLoop (.ListComp elt [⟨tg, iter, [], 0⟩] scope pos) 0 (.ref it) (.ref D) ce) (compEnds (model X.prog X.w) X.A X.xe none (EP X pins σ Q) (.ref D) ce) t4 := by
    refine compLoop_any (fun n s' => ∃ i H', Inv (X.blk t3 H3 scope ce fp) [] (wipe σ (own.map (·.2))) H' s' ∧ tn i s'.heap ∧ (∀ b ∈ fp, H' b = none) ∧ Wv i n H') ?_ m0 ⟨0, H3, I4, st4, free3, w0⟩
    rintro n s5 ⟨i, H5, I5, st5, n5, w5⟩
    rcases turn i n H5 w5 with ⟨stop, qq⟩ | ⟨go, Nx, hNx, step⟩
    · refine thnF (T.done (X.blk t3 H3 scope ce fp) rfl rfl rfl calm i [] s5 _ H5 (fun _ _ => False) I5 (stat I5 n5) st5 stop) fun r s6 ⟨hr, I6⟩ => ?_
      subst hr
      have I7 : Inv X pins σ H5 s6 := I3.call' (ch := fp) I6.os I6.base I6.hok I6.bare fun b hb => ⟨(f3 b hb).1.2.2.2.1, (f3 b hb).1.2.1, (f3 b hb).1.2.2.2.2.1, (f3 b hb).1.2.2.2.2.2⟩
      have nC : H5 t3.heap.objs.size = none := by
        have z : H5 ce.locals = none := I6.free
        rw [clo] at z
        exact z
      obtain ⟨m, hn, _⟩ := I6.loc
      have hn : s6.heap.Ns ce.locals m := hn
      have f := I3.fpOk (Nat.le_refl _) nC
      refine ⟨m, hn, fun h'' sb => ?_⟩
      rw [clo] at sb
      obtain ⟨g0, g1, g2, g3, g4, g5⟩ := f
      exact ⟨.ref D, H5, I7.turned (t' := s6.toks) (fun b o hb z => (sb.2 b hb).trans z) g0 g1 g3 g4 g5, rfl, qq⟩
    · refine thnF (T.item (X.blk t3 H3 scope ce fp) rfl rfl rfl calm i [] s5 _ H5 (fun _ _ => False) I5 (stat I5 n5) st5 go) fun r s6 ⟨u, hr, h6⟩ => ?_
      subst hr
      refine thnF h6 fun _ s7 ⟨x, H7, I7, r7, y7, st7, n7⟩ => ?_
      have I7' := I7.pinned (stat I7 n7) (T.obj _ _ st7)
      refine thnF (pg.run _ s7 _ H7 x u _ I7' r7 (step x H7 y7)) fun _ s8 ⟨σ8, H8, I8, hw8, q8⟩ => ?_
      refine wpAny_pure ?_
      have q8' : te σ8 H8 fun y H4 => ∃ acc, H4 D = some (.lst acc) ∧ acc.length < sizeLine ∧ Nx (upd H4 D (.lst (acc ++ [y]))) := iteT_elim (B := Nx H8) q8
      rw [if_pos rfl]
      refine thn (pe.run _ s8 σ8 H8 _ (I8.wish _) q8') fun z s10 ⟨yv, H10, I10, r10, acc, hD10, hz10, nx⟩ => ?_
      refine app_ok (X := X.blk t3 H3 scope ce fp) I10.unwish hD10 hz10 r10 fun s11 I11 => ?_
      obtain ⟨m', hm, w'⟩ := hNx _ nx
      have pin' : ∀ b ∈ fp, ∀ o, s7.heap.get? b = some o → s11.heap.get? b = some o ∧ (upd H10 D (.lst (acc ++ [yv]))) b = none := fun b hb o z =>
        let y := I11.pin (b, o) (List.mem_append_right _ (List.mem_append_right _ (mem_pinsAt hb z)))
        ⟨y.1, y.2.1⟩
      have hl : (wipe σ (own.map (·.2))).length = σ8.length := by rw [← hw8, wipe_length]
      refine ⟨m', hm, i + 1, _, (I11.unpinned (pins := [])).weak hl (fun j v z => ?_), T.keep _ _ _ st7 fun b hb o z => (pin' b hb o z).1, fun b hb => ?_, w'⟩
      · rw [← hw8] at z
        exact (wipe_some z).1
      · obtain ⟨o, z, _⟩ := T.obj _ _ st7 b hb
        exact (pin' b hb o z).2
  exact codeAny_compStart_list loop (T.self X.A 0 _ _ _ st4 loop)
end Hw
end

/-! ## part P1 -/
section
set_option Elab.async false
set_option linter.all false
set_option maxRecDepth 100000
set_option maxHeartbeats 2000000
namespace Hw
open PySem PySem.Spec PyProof.Rows L2
open Hr01 (Bytes Words Term Sum Cond ascii isName num? term? digit small)
/-! ### the reader -/
abbrev cReader (K : PySem.W.Frag) : Addr := He.ga K "Reader"
abbrev cNo (K : PySem.W.Frag) : Value := .ref (He.ga K "NoForm")
def fsReader (wl : Addr) (i : Int) : List (Str × V) := [("words", .ref wl), ("place", .int i)]
theorem rd_words (wl : Addr) (i : Int) : (fsReader wl i).lookup ("words" : Str) = some (.ref wl) := lk_here
theorem rd_place (wl : Addr) (i : Int) : (fsReader wl i).lookup ("place" : Str) = some (.int i) := (lk_past (by decide +kernel)).trans lk_here
theorem rd_no {m : Str} (wl : Addr) (i : Int) (h1 : (m == ("words" : Str)) = false) (h2 : (m == ("place" : Str)) = false) : (fsReader wl i).lookup m = none := (lk_past h1).trans ((lk_past h2).trans rfl)
theorem rd_put (wl : Addr) (i j : Int) : putF "place" (.int j) (fsReader wl i) = fsReader wl j := (put_past (by decide +kernel)).trans (congrArg _ put_here)
theorem rd_new (wl : Addr) : putF "place" (.int 0) (putF "words" (.ref wl) []) = fsReader wl 0 := (put_past (by decide +kernel)).trans rfl
structure WOk (ws : Words) : Prop where
  len : ws.length ≤ 200
  each : ∀ w ∈ ws, w.length ≤ 200 ∧ w.all okC = true
/-- a reader at r whose rest is t -/
def RdAt (K : PySem.W.Frag) (wl : Addr) (H : Hp) (r : Addr) (t : Words) : Prop := ∃ (dx : Addr) (ws : Words) (i : Nat), H r = some (.ins (cReader K) dx (fsReader wl i)) ∧ H wl = some (.lst (ws.map vS)) ∧ WOk ws ∧ i ≤ ws.length ∧ ws.drop i = t
theorem RdAt.ok {K : PySem.W.Frag} {wl : Addr} {H : Hp} {r : Addr} {t : Words} (h : RdAt K wl H r t) : WOk t := by
  obtain ⟨dx, ws, i, _, _, ok, _, rfl⟩ := h
  exact ⟨by rw [List.length_drop]; have := ok.len; omega, fun w hw => ok.each w (List.mem_of_mem_drop hw)⟩
theorem RdAt.same {K : PySem.W.Frag} {wl : Addr} {H H' : Hp} {r : Addr} {t : Words} (h : RdAt K wl H r t) (s : Same H H') : RdAt K wl H' r t := by
  obtain ⟨dx, ws, i, h1, h2, h3⟩ := h
  exact ⟨dx, ws, i, s _ _ h1, s _ _ h2, h3⟩
theorem RdAt.there {K : PySem.W.Frag} {wl : Addr} {H : Hp} {r : Addr} {t : Words} (h : RdAt K wl H r t) : ∃ o, H r = some o := by
  obtain ⟨dx, ws, i, h1, _⟩ := h
  exact ⟨_, h1⟩
theorem WOk.tl {w : Bytes} {q : Words} (h : WOk (w :: q)) : WOk q := ⟨by have := h.len; simp at this; omega, fun x hx => h.each x (List.mem_cons_of_mem _ hx)⟩
theorem WOk.hd {w : Bytes} {q : Words} (h : WOk (w :: q)) : w.length ≤ 200 ∧ w.all okC = true := h.each w (List.mem_cons_self ..)
abbrev At (r : Addr) : Addr → Prop := fun b => b = r
theorem Fr.at1 {H : Hp} {a : Addr} {o : HO} : Fr (At a) H (upd H a o) := Fr.put (M := At a) rfl
section
variable {P : Program} {w : World} {K : PySem.W.Frag} {mg : Str → Option Value} {base : Heap}
/-! Reader.__init__ -/
def sp_Reader_init (K : PySem.W.Frag) : Sp := fun vs H Q _ => ∃ (p dx wl : Addr), vs = [.ref p, .ref wl] ∧ H p = some (.ins (cReader K) dx []) ∧
  ∀ H' : Hp, H' p = some (.ins (cReader K) dx (fsReader wl 0)) → Fr (At p) H H' → Q .non H'
theorem sc_Reader_init : FnScope ["self", "words"] ["self", "words"] (defScope s_Reader_init) := ⟨rfl, rfl, rfl, by decide +kernel, rfl, by decide +kernel, by decide +kernel⟩
theorem ok_Reader_init (g : Good w K mg) : FnOk P w K mg base CX0 1 (He.ma K (He.ga K "Reader") "__init__") (fdA K (He.ma K (He.ga K "Reader") "__init__")) ["self", "words"] (sp_Reader_init K) := by
  refine (F_Reader_init g).ok sc_Reader_init (fun vs H Q E h => ?_) (fun cdv A outer s H vs Q E hr h => ⟨_, PSs.nox (pss_cons (ps_fld (pv 0) (pv 1) rfl) (pss_one (ps_fld (pv 0) pe_int rfl))), ?_⟩)
  · obtain ⟨p, dx, wl, rfl, _⟩ := h; rfl
  · obtain ⟨p, dx, wl, rfl, hp, k⟩ := h
    refine ⟨_, rfl, _, rfl, p, _, dx, [], rfl, hp, cl_Reader g, na_Reader_words g, (by show 0 < 1000; decide), ?_⟩
    refine ⟨_, rfl, p, _, dx, _, rfl, upd_same, cl_Reader g, na_Reader_place g, (by show 1 < 1000; decide), ?_⟩
    exact k _ (upd_same.trans (congrArg (fun q => some (HO.ins _ dx q)) (rd_new wl))) (Fr.at1.trans Fr.at1)
/-! peek -/
def sp_Reader_peek (K : PySem.W.Frag) (wl : Addr) : Sp := fun vs H Q _ => ∃ (r : Addr) (t : Words), vs = [.ref r] ∧ RdAt K wl H r t ∧ Q (vS (t.headD [])) H
theorem sc_Reader_peek : FnScope ["self"] ["self"] (defScope s_Reader_peek) := ⟨rfl, rfl, rfl, by decide +kernel, rfl, by decide +kernel, by decide +kernel⟩
theorem ok_Reader_peek (g : Good w K mg) (wl : Addr) : FnOk P w K mg base CX0 1 (He.ma K (He.ga K "Reader") "peek") (fdA K (He.ma K (He.ga K "Reader") "peek")) ["self"] (sp_Reader_peek K wl) := by
  refine (F_Reader_peek g).ok sc_Reader_peek (fun vs H Q E h => ?_) (fun cdv A outer s H vs Q E hr h => ⟨_, PSs.nox (pss_one (ps_ret (pe_ifExp (pt_cmpR op_lt (pe_fld (pv 0) rfl) (pe_callB call_len rfl (fr_len g) (by decide +kernel) (pa_cons (pe_fld (pv 0) rfl) pa_nil)) (nomark _)) (pe_ix ix_list (pe_fld (pv 0) rfl) (pe_fld (pv 0) rfl) (fun _ _ => rfl)) pe_str))), ?_⟩)
  · obtain ⟨r, t, rfl, _⟩ := h; rfl
  · obtain ⟨r, t, rfl, ⟨dx, ws, i, h1, h2, ok, hi, rfl⟩, k⟩ := h
    refine ⟨_, rfl, r, _, dx, _, _, rfl, h1, cl_Reader g, na_Reader_place g, rd_place wl i, ?_⟩
    refine ⟨_, rfl, r, _, dx, _, _, rfl, h1, cl_Reader g, na_Reader_words g, rd_words wl i, ?_⟩
    refine ⟨_, _, rfl, Or.inl ⟨_, SqL.of h2, rfl⟩, ?_⟩
    refine ⟨_, _, rfl, rfl, _, rfl, ?_⟩
    rw [List.length_map]
    by_cases c : i < ws.length
    · rw [decide_eq_true (by omega : (i : Int) < (ws.length : Nat))]
      refine iteT ?_
      refine ⟨_, rfl, r, _, dx, _, _, rfl, h1, cl_Reader g, na_Reader_words g, rd_words wl i, ?_⟩
      refine ⟨_, rfl, r, _, dx, _, _, rfl, h1, cl_Reader g, na_Reader_place g, rd_place wl i, ?_⟩
      refine ⟨wl, _, _, _, rfl, rfl, SqL.of h2, atI_nat (v := vS ws[i]) (by rw [List.getElem?_map, List.getElem?_eq_getElem c]; rfl), ?_⟩
      rw [List.drop_eq_getElem_cons c] at k
      exact k
    · rw [decide_eq_false (by omega : ¬ (i : Int) < (ws.length : Nat))]
      refine iteF ?_
      rw [List.drop_eq_nil_of_le (by omega)] at k
      show Q (.str _) H
      have e : (PySem.Str.ofString "") = S [] := S_of ""
      rw [show (("" : String) : Str) = S [] from e]
      exact k
/-! take -/
def sp_Reader_take (K : PySem.W.Frag) (wl : Addr) : Sp := fun vs H Q _ => ∃ (r : Addr) (t : Words), vs = [.ref r] ∧ RdAt K wl H r t ∧
  (t = [] → ∀ H', Fr (At r) H H' → Q (vS []) H') ∧ ∀ w q, t = w :: q → ∀ H', RdAt K wl H' r q → Fr (At r) H H' → Q (vS w) H'
theorem sc_Reader_take : FnScope ["self", "word"] ["self"] (defScope s_Reader_take) := ⟨rfl, rfl, rfl, by decide +kernel, rfl, by decide +kernel, by decide +kernel⟩
theorem ok_Reader_take (g : Good w K mg) (wl : Addr) : FnOk P w K mg base CX0 2 (He.ma K (He.ga K "Reader") "take") (fdA K (He.ma K (He.ga K "Reader") "take")) ["self"] (sp_Reader_take K wl) := by
  refine (F_Reader_take g).ok sc_Reader_take (fun vs H Q E h => ?_) (fun cdv A outer s H vs Q E hr h => ⟨_, PSs.nox (pss_cons (ps_set (i := 1) sc_Reader_take.nd rfl (Or.inl rfl) (pe_meth0 (pv 0) (cl_Reader g) (me_Reader_peek g) (ok_Reader_peek g wl) (hr.mono (by decide)) (b_Reader_peek g) .nil pass0)) (pss_cons (ps_fldaug (pv 0) pe_int in_add) (pss_one (ps_ret (pv 1))))), ?_⟩)
  · obtain ⟨r, t, rfl, _⟩ := h; rfl
  · obtain ⟨r, t, rfl, R, k0, k⟩ := h
    have R0 := R
    obtain ⟨dx, ws, i, h1, h2, ok, hi, ht⟩ := R
    refine ⟨_, rfl, r, dx, _, rfl, h1, rd_no wl i (by decide +kernel) (by decide +kernel), r, t, rfl, R0, ?_⟩
    refine ⟨_, rfl, r, _, dx, _, _, rfl, h1, cl_Reader g, na_Reader_place g, rd_place wl i, _, _, rfl, rfl, dx, _, h1, (by show 2 < 1000; decide), ?_⟩
    refine ⟨_, rfl, ?_⟩
    show Q (vS (t.headD [])) _
    rw [show putF (Str.ofString "place") (.int ((i : Int) + 1)) (fsReader wl i) = fsReader wl ((i + 1 : Nat) : Int) from rd_put wl i _]
    cases t with
    | nil => exact k0 rfl _ Fr.at1
    | cons a q =>
      have hi2 : i < ws.length := by
        refine Nat.lt_of_not_le fun z => ?_
        rw [List.drop_eq_nil_of_le z] at ht; cases ht
      have hne : wl ≠ r := ne_of h2 h1 (by intro z; cases z)
      refine k a q rfl _ ⟨dx, ws, i + 1, upd_same, by rw [upd_ne hne]; exact h2, ok, hi2, ?_⟩ Fr.at1
      rw [List.drop_eq_getElem_cons hi2] at ht
      exact (List.cons.inj ht).2
/-! expect -/
def sp_Reader_expect (K : PySem.W.Frag) (wl : Addr) : Sp := fun vs H Q E => ∃ (r : Addr) (t : Words) (x : Bytes), vs = [.ref r, vS x] ∧ RdAt K wl H r t ∧ x ≠ [] ∧
  (t.headD [] ≠ x → ∀ H', Fr (At r) H H' → E (cNo K) none H') ∧ ∀ q, t = x :: q → ∀ H', RdAt K wl H' r q → Fr (At r) H H' → Q .non H'
theorem sc_Reader_expect : FnScope ["self", "word"] ["self", "word"] (defScope s_Reader_expect) := ⟨rfl, rfl, rfl, by decide +kernel, rfl, by decide +kernel, by decide +kernel⟩
theorem ok_Reader_expect (g : Good w K mg) (wl : Addr) : FnOk P w K mg base (L2.CX P w) 3 (He.ma K (He.ga K "Reader") "expect") (fdA K (He.ma K (He.ga K "Reader") "expect")) ["self", "word"] (sp_Reader_expect K wl) := by
  refine (F_Reader_expect g).ok sc_Reader_expect (fun vs H Q E h => ?_) (fun cdv A outer s H vs Q E hr h => ⟨_, (pss_one (ps_if (pt_cmpR op_ne (pe_meth0 (pv 0) (cl_Reader g) (me_Reader_take g) (ok_Reader_take g wl) (hr.mono (by decide)) (b_Reader_take g) .nil pass0) (pv 1) (nomark _)) (pss_one (ps_raise rfl (takes_of rfl rfl rfl rfl) (pmk_own0 PySem.F.excBase_Exception (xc_NoForm g) (m_NoForm g) (kp_NoForm g) (raises_own (sb_NoForm g) (ty_NoForm g)) rfl))) pss_nil)), ?_⟩)
  · obtain ⟨r, t, x, rfl, _⟩ := h; rfl
  · obtain ⟨r, t, x, rfl, R, nx, k0, k⟩ := h
    have R0 := R
    obtain ⟨dx, ws, i, h1, h2, ok, hi, ht⟩ := R
    refine ⟨_, rfl, r, dx, _, rfl, h1, rd_no wl i (by decide +kernel) (by decide +kernel), r, t, rfl, R0, fun e H' f => ?_, fun a q e H' R' f => ?_⟩
    · refine ⟨_, rfl, rfl, _, rfl, ?_⟩
      rw [S_dec, decide_eq_false (Ne.symm nx)]
      refine iteT (k0 (by rw [e]; exact Ne.symm nx) _ f)
    · refine ⟨_, rfl, rfl, _, rfl, ?_⟩
      rw [S_dec]
      by_cases c : a = x
      · rw [decide_eq_true c]
        exact iteF (k q (by rw [e, c]) _ R' f)
      · rw [decide_eq_false c]
        exact iteT (k0 (by rw [e]; exact c) _ f)
/-! finish -/
def sp_Reader_finish (K : PySem.W.Frag) (wl : Addr) : Sp := fun vs H Q E => ∃ (r : Addr) (t : Words), vs = [.ref r] ∧ RdAt K wl H r t ∧ (t ≠ [] → E (cNo K) none H) ∧ (t = [] → Q .non H)
theorem sc_Reader_finish : FnScope ["self"] ["self"] (defScope s_Reader_finish) := ⟨rfl, rfl, rfl, by decide +kernel, rfl, by decide +kernel, by decide +kernel⟩
theorem ok_Reader_finish (g : Good w K mg) (wl : Addr) : FnOk P w K mg base (L2.CX P w) 1 (He.ma K (He.ga K "Reader") "finish") (fdA K (He.ma K (He.ga K "Reader") "finish")) ["self"] (sp_Reader_finish K wl) := by
  refine (F_Reader_finish g).ok sc_Reader_finish (fun vs H Q E h => ?_) (fun cdv A outer s H vs Q E hr h => ⟨_, (pss_one (ps_if (pt_cmpR op_ne (pe_fld (pv 0) rfl) (pe_callB call_len rfl (fr_len g) (by decide +kernel) (pa_cons (pe_fld (pv 0) rfl) pa_nil)) (nomark _)) (pss_one (ps_raise rfl (takes_of rfl rfl rfl rfl) (pmk_own0 PySem.F.excBase_Exception (xc_NoForm g) (m_NoForm g) (kp_NoForm g) (raises_own (sb_NoForm g) (ty_NoForm g)) rfl))) pss_nil)), ?_⟩)
  · obtain ⟨r, t, rfl, _⟩ := h; rfl
  · obtain ⟨r, t, rfl, R, k0, k⟩ := h
    obtain ⟨dx, ws, i, h1, h2, ok, hi, ht⟩ := R
    refine ⟨_, rfl, r, _, dx, _, _, rfl, h1, cl_Reader g, na_Reader_place g, rd_place wl i, ?_⟩
    refine ⟨_, rfl, r, _, dx, _, _, rfl, h1, cl_Reader g, na_Reader_words g, rd_words wl i, ?_⟩
    refine ⟨_, _, rfl, Or.inl ⟨_, SqL.of h2, rfl⟩, rfl, _, rfl, ?_⟩
    rw [List.length_map, dec_int]
    by_cases c : i = ws.length
    · subst c
      rw [beq_self_eq_true]
      refine iteF (k ?_)
      rw [← ht, List.drop_length]
    · rw [beq_eq_false_iff_ne.mpr (by omega : (i : Int) ≠ (ws.length : Nat))]
      refine iteT (k0 ?_)
      rw [← ht]
      intro z
      have := congrArg List.length z
      rw [List.length_drop] at this
      simp at this
      omega
/-! is_name, is_number -/
def sp_is_name : Sp := fun vs H Q _ => ∃ x : Bytes, vs = [vS x] ∧ x.length ≤ 200 ∧ x.all okC = true ∧ Q (.bl (isName x)) H
theorem sc_is_name : FnScope ["word"] ["word"] (defScope s_is_name) := ⟨rfl, rfl, rfl, by decide +kernel, rfl, by decide +kernel, by decide +kernel⟩
theorem noNames (g : Good w K mg) (H : Hp) : SqT K H (He.ga K "NO_NAMES") (Hr01.KEPT.map vS) := by
  have h := He.tupB_ok (g.x 0 (b := He.tupB K "NO_NAMES" [.str "time", .str "if", .str "then", .str "is", .str "after"]) rfl) H
  have e : ([.str "time", .str "if", .str "then", .str "is", .str "after"] : List He.Dv).map (He.Dv.v K) = Hr01.KEPT.map vS := by
    show [V.str _, V.str _, V.str _, V.str _, V.str _] = [V.str _, V.str _, V.str _, V.str _, V.str _]
    rw [S_of, S_of, S_of, S_of, S_of]
  rw [← e]; exact h
theorem inV_kept (x : Bytes) : inV (vS x) (Hr01.KEPT.map vS) = Hr01.KEPT.contains x := by
  generalize Hr01.KEPT = l
  induction l with
  | nil => rfl
  | cons k l ih =>
    have ih' : (l.map vS).any (fun y => eqV y (vS x)) = l.contains x := ih
    show (eqV (vS k) (vS x) || (l.map vS).any fun y => eqV y (vS x)) = _
    rw [ih', List.contains_cons]
    congr 1
    show (S k == S x) = (x == k)
    by_cases c : x = k
    · subst c; rw [beq_self_eq_true, beq_self_eq_true]
    · rw [beq_eq_false_iff_ne.mpr c, beq_eq_false_iff_ne.mpr fun z => c (S_inj z).symm]
theorem ok_is_name (g : Good w K mg) : FnOk P w K mg base CX0 1 (He.ga K "is_name") (fdA K (He.ga K "is_name")) ["word"] sp_is_name := by
  refine (F_is_name g).ok sc_is_name (fun vs H Q E h => ?_) (fun cdv A outer s H vs Q E hr h => ⟨_, PSs.nox (pss_one (ps_ret (pe_and (pe_cmpR op_le (pe_callB call_len rfl (fr_len g) (by decide +kernel) (pa_cons (pv 0) pa_nil)) (pe_gI rfl (i_LONGEST_NAME g)) (nomark _)) (pe_and (pe_m0 PySem.F.slot_str_isalpha PySem.F.type_str_isalpha mt_isalpha (pv 0)) (pe_one (pe_cmpR op_notIn_seq (pv 0) (pe_gR rfl (m_NO_NAMES g)) rfl)))))), ?_⟩)
  · obtain ⟨x, rfl, _⟩ := h; rfl
  · obtain ⟨x, rfl, hl, ho, k⟩ := h
    refine ⟨_, rfl, _, _, rfl, ⟨by rw [S_len]; exact sz200 hl, rfl⟩, _, _, rfl, rfl, _, rfl, ?_⟩
    rw [S_len]
    unfold isName at k
    by_cases c : x.length ≤ 8
    · rw [decide_eq_true (by omega : (x.length : Int) ≤ 8)]
      refine iteT ⟨_, rfl, ⟨_, rfl⟩, _, rfl, rfl, trivial, _, rfl, ?_⟩
      rw [isalpha_S ho]
      rw [decide_eq_true c, Bool.true_and] at k
      cases e : (decide (1 ≤ x.length) && x.all small) with
      | false =>
        refine iteF ?_
        have e2 : (decide (1 ≤ x.length) && (x.all small && !Hr01.KEPT.contains x)) = false := by
          rw [← Bool.and_assoc, e]; rfl
        rw [e2] at k
        exact k
      | true =>
        refine iteT ⟨_, rfl, _, _, rfl, Or.inr (noNames g _), rfl, (by decide +kernel), ?_⟩
        have e2 : (decide (1 ≤ x.length) && (x.all small && !Hr01.KEPT.contains x)) = !Hr01.KEPT.contains x := by
          rw [← Bool.and_assoc, e]; rfl
        rw [e2] at k
        show Q (.bl (!inV (vS x) (Hr01.KEPT.map vS))) H
        rw [inV_kept]
        exact k
    · rw [decide_eq_false (by omega : ¬ (x.length : Int) ≤ 8)]
      refine iteF ?_
      rw [decide_eq_false c, Bool.false_and, Bool.and_false] at k
      exact k
/-- 1 to 5 digits without leading zeros -/
def isNum (x : Bytes) : Bool := decide (x.length ≤ 5) && ((decide (1 ≤ x.length) && x.all digit) && (decide (x = [48]) || decide (x.headD 0 ≠ 48)))
def sp_is_number : Sp := fun vs H Q _ => ∃ x : Bytes, vs = [vS x] ∧ x.length ≤ 200 ∧ x.all okC = true ∧ Q (.bl (isNum x)) H
theorem sc_is_number : FnScope ["word"] ["word"] (defScope s_is_number) := ⟨rfl, rfl, rfl, by decide +kernel, rfl, by decide +kernel, by decide +kernel⟩
theorem ok_is_number (g : Good w K mg) : FnOk P w K mg base CX0 1 (He.ga K "is_number") (fdA K (He.ga K "is_number")) ["word"] sp_is_number := by
  refine (F_is_number g).ok sc_is_number (fun vs H Q E h => ?_) (fun cdv A outer s H vs Q E hr h => ⟨_, PSs.nox (pss_one (ps_ret (pe_and (pe_cmpR op_le (pe_callB call_len rfl (fr_len g) (by decide +kernel) (pa_cons (pv 0) pa_nil)) (pe_gI rfl (i_LONGEST_NUMBER g)) (nomark _)) (pe_and (pe_m0 PySem.F.slot_str_isdigit PySem.F.type_str_isdigit mt_isdigit (pv 0)) (pe_one (pe_or (pe_cmpR op_eq (pv 0) pe_str (nomark _)) (pe_one (pe_cmpR op_ne (pe_ix ix_str (pv 0) pe_int (fun _ _ => rfl)) pe_str (nomark _))))))))), ?_⟩)
  · obtain ⟨x, rfl, _⟩ := h; rfl
  · obtain ⟨x, rfl, hl, ho, k⟩ := h
    refine ⟨_, rfl, _, _, rfl, ⟨by rw [S_len]; exact sz200 hl, rfl⟩, _, _, rfl, rfl, _, rfl, ?_⟩
    rw [S_len]
    unfold isNum at k
    by_cases c : x.length ≤ 5
    · rw [decide_eq_true (by omega : (x.length : Int) ≤ 5)]
      refine iteT ⟨_, rfl, ⟨_, rfl⟩, _, rfl, rfl, trivial, _, rfl, ?_⟩
      rw [isdigit_S ho]
      rw [decide_eq_true c, Bool.true_and] at k
      cases e : (decide (1 ≤ x.length) && x.all digit) with
      | false => rw [e] at k; exact iteF k
      | true =>
        rw [e, Bool.true_and] at k
        refine iteT ⟨_, rfl, rfl, _, rfl, ?_⟩
        rw [show (("0" : String) : Str) = S [48] from S_of "0", S_dec]
        by_cases c2 : x = [48]
        · rw [decide_eq_true c2] at k ⊢; exact iteT k
        · rw [decide_eq_false c2] at k ⊢
          have hne : x ≠ [] := by
            intro z; subst z; simp at e
          obtain ⟨a, q, rfl⟩ := List.exists_cons_of_ne_nil hne
          refine iteF ⟨_, rfl, _, 0, a, rfl, rfl, (by rw [S_len]; exact sz200 hl), atI_nat (xs := a :: q) (j := 0) rfl, rfl, ?_⟩
          show Q (.bl (!decide (vS [a] = vS [48]))) H
          rw [S_dec]
          have e3 : (!decide ([a] = [48])) = decide ((a :: q).headD 0 ≠ 48) := by
            show (!decide ([a] = [48])) = decide (a ≠ 48)
            by_cases z : a = 48
            · subst z; rfl
            · rw [decide_eq_false (by simpa using z), decide_eq_true z]; rfl
          rw [e3]
          exact k
    · rw [decide_eq_false (by omega : ¬ (x.length : Int) ≤ 5)]
      rw [decide_eq_false c, Bool.false_and] at k
      exact iteF k
end
end Hw
end

/-! ## part P2 -/
section
set_option Elab.async false
set_option linter.all false
set_option maxRecDepth 100000
set_option maxHeartbeats 2000000
namespace Hw
open PySem PySem.Spec PyProof.Rows L2
open Hr01 (Bytes Words Term Sum Cond ascii isName num? term? digit small)
/-! ### numbers -/
def numVal (w : Bytes) : Nat := w.foldl (fun n c => 10 * n + (c - 48)) 0
theorem num_is (lo hi : Nat) (w : Bytes) : num? lo hi w = if isNum w = true ∧ lo ≤ numVal w ∧ numVal w ≤ hi then some (numVal w) else none := by
  unfold num?
  by_cases c : w = [] ∨ 5 < w.length ∨ w.all digit = false ∨ (1 < w.length ∧ w.headD 0 = 48)
  · rw [if_pos c]
    have e : isNum w = false := by
      unfold isNum
      rcases c with c | c | c | ⟨c1, c2⟩
      · subst c; rfl
      · rw [decide_eq_false (by omega : ¬ w.length ≤ 5)]; rfl
      · rw [c]; simp
      · rw [decide_eq_false (fun z : w = [48] => by subst z; simp at c1), decide_eq_false (fun z : w.headD 0 ≠ 48 => z c2)]; simp
    rw [if_neg (by rw [e]; simp)]
  · rw [if_neg c]
    have e : isNum w = true := by
      unfold isNum
      simp only [not_or, not_and, Bool.not_eq_false] at c
      obtain ⟨c1, c2, c3, c4⟩ := c
      have hl : 1 ≤ w.length := by
        cases w with
        | nil => exact absurd rfl c1
        | cons a q => simp
      rw [decide_eq_true (by omega : w.length ≤ 5), decide_eq_true hl, c3]
      simp only [Bool.true_and, Bool.or_eq_true, decide_eq_true_eq]
      by_cases z : 1 < w.length
      · exact .inr (c4 z)
      · match w, hl, z with
        | [a], _, _ =>
          by_cases y : a = 48
          · exact .inl (by rw [y])
          · exact .inr y
        | _ :: _ :: _, _, z => exact absurd (by simp) z
    show (if lo ≤ numVal w ∧ numVal w ≤ hi then some (numVal w) else none) = _
    by_cases d : lo ≤ numVal w ∧ numVal w ≤ hi
    · rw [if_pos d, if_pos ⟨e, d⟩]
    · rw [if_neg d, if_neg fun z => d z.2]
theorem isNum_parts {w : Bytes} (h : isNum w = true) : w.length ≤ 5 ∧ w ≠ [] ∧ w.all digit = true := by
  unfold isNum at h
  simp only [Bool.and_eq_true, decide_eq_true_eq] at h
  obtain ⟨h1, ⟨h2, h3⟩, _⟩ := h
  exact ⟨h1, by intro z; subst z; simp at h2, h3⟩
theorem int_S {w : Bytes} (h : isNum w = true) : PySem.intText? (S w) = some ((numVal w : Nat) : Int) := by
  obtain ⟨h1, h2, h3⟩ := isNum_parts h
  have hd : NumText.AllDigits (S w).cps.toList := by
    intro c hc
    have := List.all_eq_true.mp h3 c hc
    unfold digit at this
    simp only [Bool.and_eq_true, decide_eq_true_eq] at this
    exact this
  rw [PySem.intText_digits hd h2 (by rw [S_len]; omega)]
  have e : ∀ (l : Bytes) (a : Nat), l.foldl (fun acc c => acc * 10 + (c - 48)) a = l.foldl (fun n c => 10 * n + (c - 48)) a := by
    intro l
    induction l with
    | nil => intro a; rfl
    | cons c r ih => intro a; rw [List.foldl_cons, List.foldl_cons, ih, Nat.mul_comm]
  exact congrArg (fun z : Nat => some (z : Int)) (e w 0)
section
variable {P : Program} {w : World} {K : PySem.W.Frag} {mg : Str → Option Value} {base : Heap}
/-! take_name -/
def sp_take_name (K : PySem.W.Frag) (wl : Addr) : Sp := fun vs H Q E => ∃ (r : Addr) (t : Words), vs = [.ref r] ∧ RdAt K wl H r t ∧
  (isName (t.headD []) = false → ∀ H', Fr (At r) H H' → E (cNo K) none H') ∧ ∀ x q, t = x :: q → isName x = true → ∀ H', RdAt K wl H' r q → Fr (At r) H H' → Q (vS x) H'
theorem sc_take_name : FnScope ["reader", "word"] ["reader"] (defScope s_take_name) := ⟨rfl, rfl, rfl, by decide +kernel, rfl, by decide +kernel, by decide +kernel⟩
theorem ok_take_name (g : Good w K mg) (wl : Addr) : FnOk P w K mg base (L2.CX P w) 3 (He.ga K "take_name") (fdA K (He.ga K "take_name")) ["reader"] (sp_take_name K wl) := by
  refine (F_take_name g).ok sc_take_name (fun vs H Q E h => ?_) (fun cdv A outer s H vs Q E hr h => ⟨_, (pss_cons (ps_set (i := 1) sc_take_name.nd rfl (Or.inl rfl) (pe_meth0 (pv 0) (cl_Reader g) (me_Reader_take g) (ok_Reader_take g wl) (hr.mono (by decide)) (b_Reader_take g) .nil pass0)) (pss_cons (ps_if (pt_not (pt_val (pe_call (ok_is_name g) (hr.mono (by decide)) rfl (m_is_name g) (F_is_name g).kp (b_is_name g) .nil pass0 (pa_cons (pv 1) pa_nil)))) (pss_one (ps_raise rfl (takes_of rfl rfl rfl rfl) (pmk_own0 PySem.F.excBase_Exception (xc_NoForm g) (m_NoForm g) (kp_NoForm g) (raises_own (sb_NoForm g) (ty_NoForm g)) rfl))) pss_nil) (pss_one (ps_ret (pv 1))))), ?_⟩)
  · obtain ⟨r, t, rfl, _⟩ := h; rfl
  · obtain ⟨r, t, rfl, R, k0, k⟩ := h
    have R0 := R
    have W := R.ok
    obtain ⟨dx, ws, i, h1, h2, ok, hi, ht⟩ := R
    refine ⟨_, rfl, r, dx, _, rfl, h1, rd_no wl i (by decide +kernel) (by decide +kernel), r, t, rfl, R0, fun e H' f => ?_, fun a q e H' R' f => ?_⟩
    · subst e
      refine ⟨_, rfl, [], rfl, by simp, rfl, _, rfl, ?_⟩
      exact iteT (k0 rfl _ f)
    · subst e
      refine ⟨_, rfl, a, rfl, W.hd.1, W.hd.2, _, rfl, ?_⟩
      cases c : isName a with
      | false => exact iteT (k0 c _ f)
      | true => exact iteF ⟨_, rfl, k a q rfl c _ R' f⟩
/-! take_number -/
def sp_take_number (K : PySem.W.Frag) (wl : Addr) : Sp := fun vs H Q E => ∃ (r : Addr) (t : Words) (lo hi : Nat), vs = [.ref r, .int lo, .int hi] ∧ RdAt K wl H r t ∧
  (num? lo hi (t.headD []) = none → ∀ H', Fr (At r) H H' → E (cNo K) none H') ∧ ∀ x q n, t = x :: q → num? lo hi x = some n → ∀ H', RdAt K wl H' r q → Fr (At r) H H' → Q (.int (n : Nat)) H'
theorem sc_take_number : FnScope ["reader", "least", "most", "word"] ["reader", "least", "most"] (defScope s_take_number) := ⟨rfl, rfl, rfl, by decide +kernel, rfl, by decide +kernel, by decide +kernel⟩
theorem ok_take_number (g : Good w K mg) (wl : Addr) : FnOk P w K mg base (L2.CX P w) 3 (He.ga K "take_number") (fdA K (He.ga K "take_number")) ["reader", "least", "most"] (sp_take_number K wl) := by
  refine (F_take_number g).ok sc_take_number (fun vs H Q E h => ?_) (fun cdv A outer s H vs Q E hr h => ⟨_, (pss_cons (ps_set (i := 3) sc_take_number.nd rfl (Or.inl rfl) (pe_meth0 (pv 0) (cl_Reader g) (me_Reader_take g) (ok_Reader_take g wl) (hr.mono (by decide)) (b_Reader_take g) .nil pass0)) (pss_cons (ps_if (PW.pt (pw_or (pt_not (pt_val (pe_call (ok_is_number g) (hr.mono (by decide)) rfl (m_is_number g) (F_is_number g).kp (b_is_number g) .nil pass0 (pa_cons (pv 3) pa_nil)))) (pw_or1 (pt_not (pt_chain op_le op_le (pv 1) (pe_callTy call_int_str rfl (fr_int g) (by decide +kernel) (pa_cons (pv 3) pa_nil)) (pv 2)))))) (pss_one (ps_raise rfl (takes_of rfl rfl rfl rfl) (pmk_own0 PySem.F.excBase_Exception (xc_NoForm g) (m_NoForm g) (kp_NoForm g) (raises_own (sb_NoForm g) (ty_NoForm g)) rfl))) pss_nil) (pss_one (ps_ret (pe_callTy call_int_str rfl (fr_int g) (by decide +kernel) (pa_cons (pv 3) pa_nil)))))), ?_⟩)
  · obtain ⟨r, t, lo, hi, rfl, _⟩ := h; rfl
  · obtain ⟨r, t, lo, hi, rfl, R, k0, k⟩ := h
    have R0 := R
    have W := R.ok
    obtain ⟨dx, ws, i, h1, h2, ok, hi', ht⟩ := R
    refine ⟨_, rfl, r, dx, _, rfl, h1, rd_no wl i (by decide +kernel) (by decide +kernel), r, t, rfl, R0, fun e H' f => ?_, fun a q e H' R' f => ?_⟩
    · subst e
      refine ⟨_, rfl, [], rfl, by simp, rfl, _, rfl, ?_⟩
      exact iteT (iteT (k0 rfl _ f))
    · subst e
      refine ⟨_, rfl, a, rfl, W.hd.1, W.hd.2, _, rfl, ?_⟩
      cases c : isNum a with
      | false =>
        refine iteT (iteT (k0 ?_ _ f))
        show num? lo hi a = none
        rw [num_is, if_neg (by rw [c]; simp)]
      | true =>
        have hl : (S a).length ≤ 640 := by rw [S_len]; have := (isNum_parts c).1; omega
        refine iteF ⟨_, rfl, _, rfl, _, _, rfl, int_S c, hl, _, _, rfl, rfl, _, rfl, ?_⟩
        by_cases c1 : lo ≤ numVal a
        · rw [decide_eq_true (by omega : (lo : Int) ≤ (numVal a : Nat))]
          refine iteT ⟨_, rfl, _, _, rfl, rfl, _, rfl, ?_⟩
          by_cases c2 : numVal a ≤ hi
          · rw [decide_eq_true (by omega : (numVal a : Int) ≤ (hi : Nat))]
            refine iteF ⟨_, rfl, _, _, rfl, int_S c, hl, ?_⟩
            exact k a q _ rfl (by rw [num_is, if_pos ⟨c, c1, c2⟩]) _ R' f
          · rw [decide_eq_false (by omega : ¬ (numVal a : Int) ≤ (hi : Nat))]
            refine iteT (k0 ?_ _ f)
            show num? lo hi a = none
            rw [num_is, if_neg fun z => c2 z.2.2]
        · rw [decide_eq_false (by omega : ¬ (lo : Int) ≤ (numVal a : Nat))]
          refine iteF ⟨_, rfl, iteT (k0 ?_ _ f)⟩
          show num? lo hi a = none
          rw [num_is, if_neg fun z => c1 z.2.1]
end
end Hw
end

/-! ## part P3 -/
section
set_option Elab.async false
set_option linter.all false
set_option maxRecDepth 100000
set_option maxHeartbeats 2000000
namespace Hw
open PySem PySem.Spec PyProof.Rows L2
open Hr01 (Bytes Words Term Sum Cond ascii isName num? term? digit small sum?)
/-! ### the mathematics of terms -/
theorem fold_lt : ∀ (l : Bytes) (a : Nat), l.all digit = true → l.foldl (fun n c => 10 * n + (c - 48)) a < (a + 1) * 10 ^ l.length
  | [], a, _ => by simp
  | c :: r, a, h => by
    rw [List.all_cons, Bool.and_eq_true] at h
    have hc : c - 48 ≤ 9 := by
      have := h.1
      unfold digit at this
      simp only [Bool.and_eq_true, decide_eq_true_eq] at this
      omega
    have ih := fold_lt r (10 * a + (c - 48)) h.2
    rw [List.foldl_cons, List.length_cons, Nat.pow_succ]
    refine Nat.lt_of_lt_of_le ih ?_
    have : (10 * a + (c - 48) + 1) * 10 ^ r.length ≤ (10 * (a + 1)) * 10 ^ r.length := Nat.mul_le_mul_right _ (by omega)
    refine Nat.le_trans this ?_
    rw [Nat.mul_comm 10 (a + 1), Nat.mul_assoc, Nat.mul_comm 10]
    exact Nat.le_refl _
theorem numVal_le {w : Bytes} (h : isNum w = true) : numVal w ≤ 99999 := by
  obtain ⟨h1, _, h3⟩ := isNum_parts h
  have := fold_lt w 0 h3
  have h4 : 10 ^ w.length ≤ 10 ^ 5 := Nat.pow_le_pow_right (by omega) h1
  unfold numVal
  omega
theorem num_not_small {w : Bytes} (h : isNum w = true) : w.all small = false := by
  obtain ⟨_, h2, h3⟩ := isNum_parts h
  obtain ⟨c, q, rfl⟩ := List.exists_cons_of_ne_nil h2
  rw [List.all_cons, Bool.and_eq_true] at h3
  have hd := h3.1
  unfold digit at hd
  simp only [Bool.and_eq_true, decide_eq_true_eq] at hd
  have hs : small c = false := by unfold small; rw [decide_eq_false (by omega : ¬ 97 ≤ c)]; rfl
  rw [List.all_cons, hs]; rfl
theorem term_num {w : Bytes} (h : isNum w = true) : term? w = some (.num (numVal w)) := by
  have hs := num_not_small h
  unfold term?
  rw [if_neg (fun z => by subst z; exact absurd hs (by decide))]
  have hn : isName w = false := by
    cases e : isName w with
    | false => rfl
    | true => rw [isName_small e] at hs; cases hs
  rw [hn, if_neg Bool.false_ne_true, num_is, if_pos ⟨h, Nat.zero_le _, numVal_le h⟩]
  rfl
theorem term_name {w : Bytes} (h : isName w = true) : term? w = some (.thing w) := by
  unfold term?
  rw [if_neg (fun z => by subst z; exact absurd h (by decide)), h]
  rfl
theorem term_none {w : Bytes} (h1 : isNum w = false) (h2 : w ≠ ascii "time") (h3 : isName w = false) : term? w = none := by
  unfold term?
  rw [if_neg h2, h3, if_neg Bool.false_ne_true, num_is, if_neg (by rw [h1]; simp)]
  rfl
/-! ### terms and sums in the heap -/
def sgn (p : Bool) : Int := if p then 1 else -1
def termV : Bool × Term → List V
  | (p, .num n) => [.int (sgn p), .int (n : Nat), vS []]
  | (p, .thing w) => [.int (sgn p), .int 0, vS w]
  | (p, .time) => [.int (sgn p), .int 0, vS (ascii "time")]
def TermAt (H : Hp) (v : V) (x : Bool × Term) : Prop := ∃ b, v = .ref b ∧ H b = some (.tup (termV x))
def SumAt (H : Hp) (v : V) (s : Sum) : Prop := ∃ a vs, v = .ref a ∧ H a = some (.tup vs) ∧ Paired (TermAt H) vs s
theorem TermAt.keep {H H' : Hp} (t : Tups H H') {v : V} {x : Bool × Term} (h : TermAt H v x) : TermAt H' v x := by
  obtain ⟨b, e, h⟩ := h
  exact ⟨b, e, t _ _ h⟩
theorem SumAt.keep {H H' : Hp} (t : Tups H H') {v : V} {s : Sum} (h : SumAt H v s) : SumAt H' v s := by
  obtain ⟨a, vs, e, h, p⟩ := h
  exact ⟨a, vs, e, t _ _ h, Paired.mapP p fun _ _ => TermAt.keep t⟩
theorem paired_snoc {α β : Type} {F : α → β → Prop} : ∀ {l₁ : List α} {l₂ : List β} {a : α} {b : β}, Paired F l₁ l₂ → F a b → Paired F (l₁ ++ [a]) (l₂ ++ [b])
  | _, _, _, _, .nil, h => .cons h .nil
  | _, _, _, _, .cons r t, h => .cons r (paired_snoc t h)
/-- a frame that keeps tuples -/
theorem Fr.tups {H H' : Hp} {r C dx : Addr} {fs : List (Str × V)} (f : Fr (At r) H H') (h : H r = some (.ins C dx fs)) : Tups H H' := fun b xs e => f b _ e fun z => by
  rw [z, h] at e; cases e
theorem RdAt.tups {K : PySem.W.Frag} {wl : Addr} {H H' : Hp} {r : Addr} {t : Words} (R : RdAt K wl H r t) (f : Fr (At r) H H') : Tups H H' := by
  obtain ⟨dx, ws, i, h1, _⟩ := R
  exact f.tups h1
section
variable {P : Program} {w : World} {K : PySem.W.Frag} {mg : Str → Option Value} {base : Heap}
/-! read_term -/
def sp_read_term (K : PySem.W.Frag) (wl : Addr) : Sp := fun vs H Q E => ∃ (r : Addr) (t : Words) (p : Bool), vs = [.ref r, .int (sgn p)] ∧ RdAt K wl H r t ∧
  (term? (t.headD []) = none → ∀ H', Fr (At r) H H' → E (cNo K) none H') ∧ ∀ x q y, t = x :: q → term? x = some y → ∀ H' v, RdAt K wl H' r q → Fr (At r) H H' → TermAt H' v (p, y) → Q v H'
theorem sc_read_term : FnScope ["reader", "factor", "word"] ["reader", "factor"] (defScope s_read_term) := ⟨rfl, rfl, rfl, by decide +kernel, rfl, by decide +kernel, by decide +kernel⟩
theorem ok_read_term (g : Good w K mg) (wl : Addr) : FnOk P w K mg base (L2.CX P w) 3 (He.ga K "read_term") (fdA K (He.ga K "read_term")) ["reader", "factor"] (sp_read_term K wl) := by
  refine (F_read_term g).ok sc_read_term (fun vs H Q E h => ?_) (fun cdv A outer s H vs Q E hr h => ⟨_, (pss_cons (ps_set (i := 2) sc_read_term.nd rfl (Or.inl rfl) (pe_meth0 (pv 0) (cl_Reader g) (me_Reader_take g) (ok_Reader_take g wl) (hr.mono (by decide)) (b_Reader_take g) .nil pass0)) (pss_cons (ps_if (pt_val (pe_call (ok_is_number g) (hr.mono (by decide)) rfl (m_is_number g) (F_is_number g).kp (b_is_number g) .nil pass0 (pa_cons (pv 2) pa_nil))) (pss_one (ps_ret (pe_tup (pa_cons (pv 1) (pa_cons (pe_callTy call_int_str rfl (fr_int g) (by decide +kernel) (pa_cons (pv 2) pa_nil)) (pa_cons pe_str pa_nil)))))) pss_nil) (pss_cons (ps_if (PW.pt (pw_or (pt_cmpR op_eq (pv 2) pe_str (nomark _)) (pw_or1 (pt_val (pe_call (ok_is_name g) (hr.mono (by decide)) rfl (m_is_name g) (F_is_name g).kp (b_is_name g) .nil pass0 (pa_cons (pv 2) pa_nil)))))) (pss_one (ps_ret (pe_tup (pa_cons (pv 1) (pa_cons pe_int (pa_cons (pv 2) pa_nil)))))) pss_nil) (pss_one (ps_raise rfl (takes_of rfl rfl rfl rfl) (pmk_own0 PySem.F.excBase_Exception (xc_NoForm g) (m_NoForm g) (kp_NoForm g) (raises_own (sb_NoForm g) (ty_NoForm g)) rfl)))))), ?_⟩)
  · obtain ⟨r, t, p, rfl, _⟩ := h; rfl
  · obtain ⟨r, t, p, rfl, R, k0, k⟩ := h
    have R0 := R
    have W := R.ok
    obtain ⟨dx, ws, i, h1, h2, ok, hi', ht⟩ := R
    have et : (("time" : String) : Str) = S (ascii "time") := S_of "time"
    refine ⟨_, rfl, r, dx, _, rfl, h1, rd_no wl i (by decide +kernel) (by decide +kernel), r, t, rfl, R0, fun e H' f => ?_, fun a q e H' R' f => ?_⟩
    · subst e
      refine ⟨_, rfl, [], rfl, by simp, rfl, _, rfl, ?_⟩
      refine iteF ⟨_, rfl, rfl, _, rfl, ?_⟩
      rw [et, S_dec]
      refine iteF ⟨_, rfl, [], rfl, by simp, rfl, _, rfl, ?_⟩
      exact iteF (k0 rfl _ f)
    · subst e
      refine ⟨_, rfl, a, rfl, W.hd.1, W.hd.2, _, rfl, ?_⟩
      cases c : isNum a with
      | true =>
        have hl : (S a).length ≤ 640 := by rw [S_len]; have := (isNum_parts c).1; omega
        refine iteT ⟨_, rfl, _, rfl, _, _, rfl, int_S c, hl, (by show 3 ≤ sizeLine; decide), fun b hb => ?_⟩
        exact k a q _ rfl (term_num c) _ _ (R'.same (same_new hb)) (f.trans (Fr.new hb)) ⟨b, rfl, upd_same⟩
      | false =>
        refine iteF ⟨_, rfl, rfl, _, rfl, ?_⟩
        rw [et, S_dec]
        by_cases c2 : a = ascii "time"
        · rw [decide_eq_true c2]
          refine iteT ⟨_, rfl, _, rfl, (by show 3 ≤ sizeLine; decide), fun b hb => ?_⟩
          subst c2
          exact k _ q .time rfl rfl _ _ (R'.same (same_new hb)) (f.trans (Fr.new hb)) ⟨b, rfl, upd_same⟩
        · rw [decide_eq_false c2]
          refine iteF ⟨_, rfl, a, rfl, W.hd.1, W.hd.2, _, rfl, ?_⟩
          cases c3 : isName a with
          | false => exact iteF (k0 (term_none c c2 c3) _ f)
          | true =>
            refine iteT ⟨_, rfl, _, rfl, (by show 3 ≤ sizeLine; decide), fun b hb => ?_⟩
            exact k a q (.thing a) rfl (term_name c3) _ _ (R'.same (same_new hb)) (f.trans (Fr.new hb)) ⟨b, rfl, upd_same⟩
/-! read_sum -/
theorem test_or {t u : TT} {σ : L2.St} {H : Hp} {Q : Bool → Hp → Prop} {a b : Bool} (h1 : ∀ Q' : Bool → Hp → Prop, Q' a H → t σ H Q') (h2 : ∀ Q' : Bool → Hp → Prop, Q' b H → u σ H Q') (h : Q (a || b) H) : tOr t u σ H Q := by
  refine h1 _ ?_
  cases a with
  | true => exact iteT h
  | false => exact iteF (h2 _ h)
theorem sgn_if {c : Bool} {σ : L2.St} {H : Hp} {Q : VK} (h : Q (.int (sgn c)) H) : if c = true then tC (.int 1) σ H Q else tUn (rU fun i => .int (-i)) (tC (.int 1)) σ H Q := by
  cases c
  · exact iteF ⟨1, rfl, h⟩
  · exact iteT h
/-- a list of objects is not the reader's own list -/
theorem RdAt.putL {K : PySem.W.Frag} {wl : Addr} {H : Hp} {r : Addr} {t : Words} (R : RdAt K wl H r t) {l b : Addr} {vs vs' : List V} (hL : H l = some (.lst (.ref b :: vs))) : RdAt K wl (upd H l (.lst vs')) r t := by
  obtain ⟨dx, ws, i, h1, h2, h3⟩ := R
  refine ⟨dx, ws, i, by rw [upd_ne (ne_of h1 hL (by intro z; cases z))]; exact h1, ?_, h3⟩
  rw [upd_ne (ne_of h2 hL fun z => ?_)]
  · exact h2
  · injection z with z
    cases ws with
    | nil => cases z
    | cons x q => injection z with z1 z2; cases z1
theorem terms_head {H : Hp} : ∀ {vs : List V} {acc : Sum}, Paired (TermAt H) vs acc → 1 ≤ acc.length → ∃ b r, vs = .ref b :: r
  | _, _, .nil, h => by simp at h
  | _, _, .cons (l₁ := r) ⟨b, e, _⟩ _, _ => ⟨b, r, congrArg (fun z => z :: r) e⟩
theorem sumLoop_nil (acc : Sum) : sumLoop acc [] = some (acc, []) := rfl
theorem sumLoop_no {acc : Sum} {s : Bytes} {q : Words} (h : ¬ (s = ascii "+" ∨ s = ascii "-")) : sumLoop acc (s :: q) = some (acc, s :: q) := by
  cases q with
  | nil => unfold sumLoop; rw [if_neg h]
  | cons x q => unfold sumLoop; rw [if_neg h]
theorem sumLoop_yes {acc : Sum} {s : Bytes} {q : Words} (h : s = ascii "+" ∨ s = ascii "-") : sumLoop acc (s :: q) = match term? (q.headD []) with
    | none => none
    | some x => sumLoop (acc ++ [(s == ascii "+", x)]) q.tail := by
  cases q with
  | nil => unfold sumLoop; rw [if_pos h]; rfl
  | cons x q => rw [sumLoop, if_pos h]; rfl
def sp_read_sum (K : PySem.W.Frag) (wl : Addr) : Sp := fun vs H Q E => ∃ (r : Addr) (t : Words), vs = [.ref r] ∧ RdAt K wl H r t ∧
  (sum? t = none → ∀ H', Fr (At r) H H' → E (cNo K) none H') ∧ ∀ x, sum? t = some x → ∀ H' v, RdAt K wl H' r x.2 → Fr (At r) H H' → SumAt H' v x.1 → Q v H'
theorem sc_read_sum : FnScope ["reader", "terms", "factor"] ["reader"] (defScope s_read_sum) := ⟨rfl, rfl, rfl, by decide +kernel, rfl, by decide +kernel, by decide +kernel⟩
theorem ok_read_sum (g : Good w K mg) (wl : Addr) : FnOk P w K mg base (L2.CX P w) 4 (He.ga K "read_sum") (fdA K (He.ga K "read_sum")) ["reader"] (sp_read_sum K wl) := by
  refine (F_read_sum g).ok sc_read_sum (fun vs H Q E h => ?_) (fun cdv A outer s H vs Q E hr h => ⟨_, (pss_cons (ps_set (i := 1) sc_read_sum.nd rfl (Or.inl rfl) (pe_lst (pa_cons (pe_call (ok_read_term g wl) (hr.mono (by decide)) rfl (m_read_term g) (F_read_term g).kp (b_read_term g) .nil (passes_call (takes_of rfl rfl rfl rfl) (fun _ _ _ _ e => e)) (pa_cons (pv 0) (pa_cons pe_int pa_nil))) pa_nil))) (pss_cons (ps_while (passes_of rfl) (PW.pt (pw_or (pt_cmpR op_eq (pe_meth0 (pv 0) (cl_Reader g) (me_Reader_peek g) (ok_Reader_peek g wl) (hr.mono (by decide)) (b_Reader_peek g) .nil pass0) pe_str (nomark _)) (pw_or1 (pt_cmpR op_eq (pe_meth0 (pv 0) (cl_Reader g) (me_Reader_peek g) (ok_Reader_peek g wl) (hr.mono (by decide)) (b_Reader_peek g) .nil pass0) pe_str (nomark _))))) (pss_cons (ps_set (i := 2) sc_read_sum.nd rfl (Or.inl rfl) (pe_ifExp (pt_cmpR op_eq (pe_meth0 (pv 0) (cl_Reader g) (me_Reader_take g) (ok_Reader_take g wl) (hr.mono (by decide)) (b_Reader_take g) .nil pass0) pe_str (nomark _)) pe_int (pe_un un_neg pe_int))) (pss_one (ps_expr (pe_bm PySem.F.plainAttrs_list PySem.F.slot_list_append PySem.F.type_list_append mt_append (pv 1) (pa_cons (pe_call (ok_read_term g wl) (hr.mono (by decide)) rfl (m_read_term g) (F_read_term g).kp (b_read_term g) .nil (passes_call (takes_of rfl rfl rfl rfl) (fun _ _ _ _ e => e)) (pa_cons (pv 0) (pa_cons (pv 2) pa_nil))) pa_nil)))))) (pss_cons (ps_if (pt_cmpR op_gt (pe_callB call_len rfl (fr_len g) (by decide +kernel) (pa_cons (pv 1) pa_nil)) (pe_gI rfl (i_MOST_TERMS g)) (nomark _)) (pss_one (ps_raise rfl (takes_of rfl rfl rfl rfl) (pmk_own0 PySem.F.excBase_Exception (xc_NoForm g) (m_NoForm g) (kp_NoForm g) (raises_own (sb_NoForm g) (ty_NoForm g)) rfl))) pss_nil) (pss_one (ps_ret (pe_callTy call_tuple_of rfl (fr_tuple g) (by decide +kernel) (pa_cons (pv 1) pa_nil))))))), ?_⟩)
  · obtain ⟨r, t, rfl, _⟩ := h; rfl
  · obtain ⟨r, t, rfl, R, k0, k⟩ := h
    have W := R.ok
    have ep : (("+" : String) : Str) = S (ascii "+") := S_of "+"
    have em : (("-" : String) : Str) = S (ascii "-") := S_of "-"
    refine ⟨_, rfl, r, t, true, rfl, R, fun e H' f => k0 ?_ _ f, fun x q y e1 e2 H1 v R1 f1 T1 => ?_⟩
    · cases t with
      | nil => rfl
      | cons x q => rw [sum_loop, show term? x = none from e]
    · subst e1
      refine ⟨by show 1 ≤ sizeLine; decide, fun l hl => ?_⟩
      have l0 : H l = none := by
        cases z : H l with
        | none => rfl
        | some o =>
          by_cases c : l = r
          · obtain ⟨o2, z2⟩ := R1.there
            rw [c, z2] at hl; cases hl
          · rw [f1 l o z c] at hl; cases hl
      refine ⟨fun m σ H' => ∃ (fc : Option V) (t' : Words) (acc : Sum) (vs : List V), m = t'.length ∧ σ = [some (.ref r), some (.ref l), fc] ∧ H' l = some (.lst vs) ∧ Paired (TermAt H') vs acc ∧ RdAt K wl H' r t' ∧ Fr (At r) H H' ∧
        sumLoop [(true, y)] q = sumLoop acc t' ∧ acc.length + t'.length ≤ 201 ∧ 1 ≤ acc.length,
        ⟨_, none, q, [(true, y)], _, rfl, rfl, upd_same, .cons (T1.keep (Tups.of_same (same_new hl))) .nil, R1.same (same_new hl), f1.trans (Fr.new hl), rfl, ?_, Nat.le_refl _⟩, ?_⟩
      · have := W.len
        simp at this ⊢
        omega
      · rintro m σ H' ⟨fc, t', acc, vs, rfl, rfl, hL, hP, hR, hF, hS, hB, hA⟩
        have R' := hR
        have W' := hR.ok
        obtain ⟨dx, ws, i, h1, h2, ok, hi', ht⟩ := hR
        have nolk1 : (fsReader wl i).lookup ("peek" : Str) = none := rd_no wl i (by decide +kernel) (by decide +kernel)
        have nolk2 : (fsReader wl i).lookup ("take" : Str) = none := rd_no wl i (by decide +kernel) (by decide +kernel)
        refine test_or (a := decide (t'.headD [] = ascii "+")) (b := decide (t'.headD [] = ascii "-"))
          (fun Q' z => ⟨_, rfl, r, dx, _, rfl, h1, nolk1, r, t', rfl, R', rfl, _, rfl, by rw [ep, S_dec]; exact z⟩)
          (fun Q' z => ⟨_, rfl, r, dx, _, rfl, h1, nolk1, r, t', rfl, R', rfl, _, rfl, by rw [em, S_dec]; exact z⟩) ?_
        by_cases c : (decide (t'.headD [] = ascii "+") || decide (t'.headD [] = ascii "-")) = true
        · rw [if_pos c]
          have hs : t'.headD [] = ascii "+" ∨ t'.headD [] = ascii "-" := by
            rw [Bool.or_eq_true, decide_eq_true_eq, decide_eq_true_eq] at c; exact c
          cases t' with
          | nil => rcases hs with z | z <;> cases z
          | cons s q' =>
          have hs2 : s = ascii "+" ∨ s = ascii "-" := hs
          refine ⟨fun σ' H'' => ∃ m', m' < (s :: q').length ∧ ∃ (fc : Option V) (t'' : Words) (acc : Sum) (vs : List V), m' = t''.length ∧ σ' = [some (.ref r), some (.ref l), fc] ∧ H'' l = some (.lst vs) ∧ Paired (TermAt H'') vs acc ∧ RdAt K wl H'' r t'' ∧ Fr (At r) H H'' ∧
            sumLoop [(true, y)] q = sumLoop acc t'' ∧ acc.length + t''.length ≤ 201 ∧ 1 ≤ acc.length, fun _ _ z => z, ?_⟩
          refine ⟨_, rfl, r, dx, _, rfl, h1, nolk2, r, _, rfl, R', fun z => (by cases z), fun s2 q2 e H2 R2 f2 => ?_⟩
          obtain ⟨rfl, rfl⟩ := List.cons.inj e
          refine ⟨rfl, _, rfl, ?_⟩
          rw [ep, S_dec]
          have ec : decide (s = ascii "+") = (s == ascii "+") := by
            by_cases d : s = ascii "+"
            · rw [decide_eq_true d, d]; rfl
            · rw [decide_eq_false d, beq_eq_false_iff_ne.mpr d]
          rw [ec]
          refine sgn_if ?_
          have hL2 : H2 l = some (.lst vs) := f2 l _ hL (ne_of hL h1 (by intro z; cases z))
          have hP2 : Paired (TermAt H2) vs acc := Paired.mapP hP fun _ _ => TermAt.keep (R'.tups f2)
          refine ⟨_, rfl, Or.inl ⟨rfl, _, SqL.of hL2⟩, _, rfl, _, rfl, r, q', s == ascii "+", rfl, R2, fun e3 H3 f3 => ?_, fun a q3 y3 e3 e4 H3 v3 R3 f3 T3 => ?_⟩
          · refine k0 ?_ _ ((hF.trans f2).trans f3)
            rw [sum_loop, e2]
            show (sumLoop [(true, y)] q).bind _ = none
            rw [hS, sumLoop_yes hs2, e3]
            rfl
          · subst e3
            have hL3 : H3 l = some (.lst vs) := f3 l _ hL2 (by obtain ⟨_, _, _, h1', _⟩ := R2; exact ne_of hL2 h1' (by intro z; cases z))
            have hP3 : Paired (TermAt H3) vs acc := Paired.mapP hP2 fun _ _ => TermAt.keep (R2.tups f3)
            have tu : Tups H3 (upd H3 l (.lst (vs ++ [v3]))) := fun b xs z => by rw [upd_ne (ne_of z hL3 (by intro z; cases z))]; exact z
            have el : vs.length = acc.length := hP.length
            refine ⟨l, vs, v3, rfl, rfl, hL3, by rw [el, sizeLine_eq]; omega, ?_⟩
            refine ⟨q3.length, by simp; omega, some (.int (sgn (s == ascii "+"))), q3, acc ++ [(s == ascii "+", y3)], vs ++ [v3], rfl, rfl, upd_same, Paired.mapP (paired_snoc hP3 T3) fun _ _ => TermAt.keep tu, ?_, ?_, ?_, ?_, ?_⟩
            · obtain ⟨b0, r0, e0⟩ := terms_head hP3 hA
              rw [e0] at hL3
              exact R3.putL hL3
            · exact fun b o z n => by
                have : b ≠ l := ne_of_none z l0
                rw [upd_ne this]
                exact f3 b o (f2 b o (hF b o z n) n) n
            · rw [hS, sumLoop_yes hs2]
              show (match term? a with | none => none | some x => sumLoop (acc ++ [(s == ascii "+", x)]) q3) = _
              rw [e4]
            · simp at hB ⊢; omega
            · simp
        · rw [if_neg c]
          have hs : ¬ (t'.headD [] = ascii "+" ∨ t'.headD [] = ascii "-") := by
            rw [Bool.or_eq_true, decide_eq_true_eq, decide_eq_true_eq] at c; exact c
          have e : sumLoop [(true, y)] q = some (acc, t') := by
            rw [hS]
            cases t' with
            | nil => rfl
            | cons s q' => exact sumLoop_no hs
          have es : sum? (x :: q) = if acc.length ≤ 4 then some (acc, t') else none := by
            rw [sum_loop, e2]
            show (sumLoop [(true, y)] q).bind _ = _
            rw [e]
            rfl
          have el : vs.length = acc.length := hP.length
          refine ⟨_, rfl, _, _, rfl, Or.inl ⟨_, SqL.of hL, rfl⟩, _, _, rfl, rfl, _, rfl, ?_⟩
          rw [el]
          by_cases c : acc.length ≤ 4
          · rw [decide_eq_false (by omega : ¬ (4 : Int) < (acc.length : Nat))]
            rw [if_pos c] at es
            refine iteF ⟨_, rfl, l, _, rfl, Or.inl ⟨SqL.of hL, fun b hb => ?_⟩⟩
            exact k _ es _ _ (R'.same (same_new hb)) (hF.trans (Fr.new hb)) ⟨b, vs, rfl, upd_same, Paired.mapP hP fun _ _ => TermAt.keep (Tups.of_same (same_new hb))⟩
          · rw [decide_eq_true (by omega : (4 : Int) < (acc.length : Nat))]
            rw [if_neg c] at es
            exact iteT (k0 es _ hF)
end
end Hw
end

/-! ## part P4 -/
section
set_option Elab.async false
set_option linter.all false
set_option maxRecDepth 100000
set_option maxHeartbeats 2000000
namespace Hw
open PySem PySem.Spec PyProof.Rows L2
open Hr01 (Bytes Words Term Sum Cond ascii isName num? term? digit small sum?)
/-! ### conditions in the heap -/
def opC (o : Bool) (a b : Cond) : Cond := if o then .either a b else .both a b
def sgO (o : Bool) : Bytes := if o then ascii "|" else ascii "&"
def CondAt (H : Hp) : Nat → V → Cond → Prop
  | 0, _, _ => False
  | n + 1, v, c => ∃ a, v = .ref a ∧ ((∃ (o : Bool) (l r : V) (x y : Sum), H a = some (.tup [vS (if o then ascii "<" else ascii "="), l, r]) ∧ SumAt H l x ∧ SumAt H r y ∧ c = if o then .less x y else .same x y) ∨
      (∃ (i : V) (x : Cond), H a = some (.tup [vS (ascii "~"), i]) ∧ CondAt H n i x ∧ c = .not x) ∨
      ∃ (o : Bool) (p : Addr) (v0 : V) (vs : List V) (c0 : Cond) (cs : List Cond), H a = some (.tup [vS (sgO o), .ref p]) ∧ H p = some (.tup (v0 :: vs)) ∧ vs ≠ [] ∧ CondAt H n v0 c0 ∧ Paired (CondAt H n) vs cs ∧ c = cs.foldl (opC o) c0)
theorem CondAt.ref {H : Hp} : ∀ {n : Nat} {v : V} {c : Cond}, CondAt H n v c → ∃ a, v = .ref a
  | 0, _, _, h => h.elim
  | n + 1, v, c, ⟨a, e, _⟩ => ⟨a, e⟩
theorem CondAt.keep {H H' : Hp} (t : Tups H H') : ∀ {n : Nat} {v : V} {c : Cond}, CondAt H n v c → CondAt H' n v c
  | 0, _, _, h => h.elim
  | n + 1, v, c, ⟨a, e, h⟩ => by
    refine ⟨a, e, ?_⟩
    rcases h with ⟨o, l, r, x, y, h1, h2, h3, h4⟩ | ⟨i, x, h1, h2, h3⟩ | ⟨o, p, v0, vs, c0, cs, h1, h2, h3, h4, h5, h6⟩
    · exact .inl ⟨o, l, r, x, y, t _ _ h1, h2.keep t, h3.keep t, h4⟩
    · exact .inr (.inl ⟨i, x, t _ _ h1, h2.keep t, h3⟩)
    · exact .inr (.inr ⟨o, p, v0, vs, c0, cs, t _ _ h1, t _ _ h2, h3, h4.keep t, Paired.mapP h5 fun _ _ z => z.keep t, h6⟩)
theorem CondAt.step {H : Hp} : ∀ {n : Nat} {v : V} {c : Cond}, CondAt H n v c → CondAt H (n + 1) v c
  | 0, _, _, h => h.elim
  | n + 1, v, c, ⟨a, e, h⟩ => by
    refine ⟨a, e, ?_⟩
    rcases h with ⟨o, l, r, x, y, h1, h2, h3, h4⟩ | ⟨i, x, h1, h2, h3⟩ | ⟨o, p, v0, vs, c0, cs, h1, h2, h3, h4, h5, h6⟩
    · exact .inl ⟨o, l, r, x, y, h1, h2, h3, h4⟩
    · exact .inr (.inl ⟨i, x, h1, h2.step, h3⟩)
    · exact .inr (.inr ⟨o, p, v0, vs, c0, cs, h1, h2, h3, h4.step, Paired.mapP h5 fun _ _ z => z.step, h6⟩)
theorem CondAt.mono {H : Hp} {n m : Nat} {v : V} {c : Cond} (h : CondAt H n v c) (le : n ≤ m) : CondAt H m v c := by
  obtain ⟨j, rfl⟩ : ∃ j, m = n + j := ⟨m - n, by omega⟩
  clear le
  induction j with
  | zero => exact h
  | succ j ih => exact ih.step
theorem free_back {K : PySem.W.Frag} {wl : Addr} {H H1 : Hp} {r l : Addr} {t : Words} (R1 : RdAt K wl H1 r t) (f1 : Fr (At r) H H1) (hl : H1 l = none) : H l = none := by
  cases z : H l with
  | none => rfl
  | some o =>
    by_cases c : l = r
    · obtain ⟨o2, z2⟩ := R1.there
      rw [c, z2] at hl; cases hl
    · rw [f1 l o z c] at hl; cases hl
section
variable {P : Program} {w : World} {K : PySem.W.Frag} {mg : Str → Option Value} {base : Heap}
theorem asg_if {i : Nat} {v : V} {σ : L2.St} {H : Hp} {c : TT} {a b u : TS} {D : Ends} (h : c (σ.set i (some v)) H fun x H1 => if x = true then a { D with nx := u D } (σ.set i (some v)) H1 else b { D with nx := u D } (σ.set i (some v)) H1) : gName i v σ H (tSeq (tIfS c a b) u D) := h
theorem test_and {t u : TT} {σ : L2.St} {H : Hp} {Q : Bool → Hp → Prop} {a b : Bool} (h1 : ∀ Q' : Bool → Hp → Prop, Q' a H → t σ H Q') (h2 : ∀ Q' : Bool → Hp → Prop, Q' b H → u σ H Q') (h : Q (a && b) H) : tAnd t u σ H Q := by
  refine h1 _ ?_
  cases a with
  | true => exact iteT (h2 _ h)
  | false => exact iteF h
/-! read_comparison -/
def sp_read_comparison (K : PySem.W.Frag) (wl : Addr) : Sp := fun vs H Q E => ∃ (r : Addr) (t : Words), vs = [.ref r] ∧ RdAt K wl H r t ∧
  (cmpP t = none → ∀ H', Fr (At r) H H' → E (cNo K) none H') ∧ ∀ x, cmpP t = some x → ∀ H' v, RdAt K wl H' r x.2 → Fr (At r) H H' → CondAt H' 1 v x.1 → Q v H'
theorem sc_read_comparison : FnScope ["reader", "left", "sign"] ["reader"] (defScope s_read_comparison) := ⟨rfl, rfl, rfl, by decide +kernel, rfl, by decide +kernel, by decide +kernel⟩
theorem ok_read_comparison (g : Good w K mg) (wl : Addr) : FnOk P w K mg base (L2.CX P w) 5 (He.ga K "read_comparison") (fdA K (He.ga K "read_comparison")) ["reader"] (sp_read_comparison K wl) := by
  refine (F_read_comparison g).ok sc_read_comparison (fun vs H Q E h => ?_) (fun cdv A outer s H vs Q E hr h => ⟨_, (pss_cons (ps_set (i := 1) sc_read_comparison.nd rfl (Or.inl rfl) (pe_call (ok_read_sum g wl) (hr.mono (by decide)) rfl (m_read_sum g) (F_read_sum g).kp (b_read_sum g) .nil (passes_call (takes_of rfl rfl rfl rfl) (fun _ _ _ _ e => e)) (pa_cons (pv 0) pa_nil))) (pss_cons (ps_set (i := 2) sc_read_comparison.nd rfl (Or.inl rfl) (pe_meth0 (pv 0) (cl_Reader g) (me_Reader_take g) (ok_Reader_take g wl) (hr.mono (by decide)) (b_Reader_take g) .nil pass0)) (pss_cons (ps_if (PW.pt (pw_and (pt_cmpR op_ne (pv 2) pe_str (nomark _)) (pw_and1 (pt_cmpR op_ne (pv 2) pe_str (nomark _))))) (pss_one (ps_raise rfl (takes_of rfl rfl rfl rfl) (pmk_own0 PySem.F.excBase_Exception (xc_NoForm g) (m_NoForm g) (kp_NoForm g) (raises_own (sb_NoForm g) (ty_NoForm g)) rfl))) pss_nil) (pss_one (ps_ret (pe_tup (pa_cons (pv 2) (pa_cons (pv 1) (pa_cons (pe_call (ok_read_sum g wl) (hr.mono (by decide)) rfl (m_read_sum g) (F_read_sum g).kp (b_read_sum g) .nil (passes_call (takes_of rfl rfl rfl rfl) (fun _ _ _ _ e => e)) (pa_cons (pv 0) pa_nil)) pa_nil))))))))), ?_⟩)
  · obtain ⟨r, t, rfl, _⟩ := h; rfl
  · obtain ⟨r, t, rfl, R, k0, k⟩ := h
    have e1 : (("<" : String) : Str) = S (ascii "<") := S_of "<"
    have e2 : (("=" : String) : Str) = S (ascii "=") := S_of "="
    refine ⟨_, rfl, r, t, rfl, R, fun e H' f => k0 (by unfold cmpP; rw [e]) _ f, fun x ex H1 v1 R1 f1 S1 => ?_⟩
    have R1' := R1
    obtain ⟨dx, ws, i, h1, h2, ok, hi', ht⟩ := R1
    have nolk : (fsReader wl i).lookup ("take" : Str) = none := rd_no wl i (by decide +kernel) (by decide +kernel)
    refine ⟨_, rfl, r, dx, _, rfl, h1, nolk, r, _, rfl, R1', fun z H2 f2 => ?_, fun s q e H2 R2 f2 => ?_⟩
    · refine ⟨_, rfl, rfl, _, rfl, ?_⟩
      rw [e1, S_dec]
      refine iteT ⟨_, rfl, rfl, _, rfl, ?_⟩
      rw [e2, S_dec]
      refine iteT (k0 ?_ _ (f1.trans f2))
      unfold cmpP; rw [ex]; dsimp only; rw [z]
    · refine ⟨_, rfl, rfl, _, rfl, ?_⟩
      rw [e1, S_dec]
      have go : (s = ascii "<" ∨ s = ascii "=") → tRet (tTup (tCons (tVar 2) (tCons (tVar 1) (tCons (tCall (sp_read_sum K wl) [] E (tCons (tVar 0) tNil)) tNil)))) { nx := fun _ H' => Q .non H', rt := Q } [some (.ref r), some v1, some (vS s)] H2 := by
        intro hs
        have hn : ¬ (s ≠ ascii "<" ∧ s ≠ ascii "=") := fun z => hs.elim z.1 z.2
        refine ⟨_, rfl, _, rfl, _, rfl, r, q, rfl, R2, fun e3 H3 f3 => k0 ?_ _ ((f1.trans f2).trans f3), fun y ey H3 v3 R3 f3 S3 => ⟨by show 3 ≤ sizeLine; decide, fun b hb => ?_⟩⟩
        · unfold cmpP; rw [ex]; dsimp only; rw [e]; dsimp only; rw [if_neg hn, e3]
        · have sm := same_new (o := HO.tup [vS s, v1, v3]) hb
          have tu : Tups H1 (upd H3 b (.tup [vS s, v1, v3])) := ((R1'.tups f2).trans (R2.tups f3)).trans (Tups.of_same sm)
          have ec : cmpP t = some (if s = ascii "<" then .less x.1 y.1 else .same x.1 y.1, y.2) := by
            unfold cmpP; rw [ex]; dsimp only; rw [e]; dsimp only; rw [if_neg hn, ey]
          refine k _ ec _ _ (R3.same sm) (((f1.trans f2).trans f3).trans (Fr.new hb)) ⟨b, rfl, .inl ⟨decide (s = ascii "<"), v1, v3, x.1, y.1, ?_, S1.keep tu, S3.keep (Tups.of_same sm), ?_⟩⟩
          · rw [upd_same]
            by_cases c : s = ascii "<"
            · rw [decide_eq_true c, c]; rfl
            · rw [decide_eq_false c, hs.resolve_left c]; rfl
          · by_cases c : s = ascii "<"
            · rw [decide_eq_true c, if_pos c]; rfl
            · rw [decide_eq_false c, if_neg c]; rfl
      by_cases c : s = ascii "<"
      · rw [decide_eq_true c]
        exact iteF (iteF (go (.inl c)))
      · rw [decide_eq_false c]
        refine iteT ⟨_, rfl, rfl, _, rfl, ?_⟩
        rw [e2, S_dec]
        by_cases c2 : s = ascii "="
        · rw [decide_eq_true c2]; exact iteF (go (.inr c2))
        · rw [decide_eq_false c2]
          refine iteT (k0 ?_ _ (f1.trans f2))
          unfold cmpP; rw [ex]; dsimp only; rw [e]; dsimp only; rw [if_pos ⟨c, c2⟩]
def sp_read_single (K : PySem.W.Frag) (wl : Addr) (n : Nat) : Sp := fun vs H Q E => ∃ (r : Addr) (t : Words) (d : Nat), vs = [.ref r, .int (d : Nat)] ∧ d ≤ 8 ∧ 8 < d + n ∧ RdAt K wl H r t ∧
  (oneP d t = none → ∀ H', Fr (At r) H H' → E (cNo K) none H') ∧ ∀ x, oneP d t = some x → ∀ H' v, RdAt K wl H' r x.2 → Fr (At r) H H' → CondAt H' (2 * n) v x.1 → Q v H'
/-! read_conjunction -/
def sp_read_conjunction (K : PySem.W.Frag) (wl : Addr) (n : Nat) : Sp := fun vs H Q E => ∃ (r : Addr) (t : Words) (d : Nat), vs = [.ref r, .int (d : Nat)] ∧ d ≤ 8 ∧ 8 < d + n ∧ RdAt K wl H r t ∧
  (allP d t = none → ∀ H', Fr (At r) H H' → E (cNo K) none H') ∧ ∀ x, allP d t = some x → ∀ H' v, RdAt K wl H' r x.2 → Fr (At r) H H' → CondAt H' (2 * n + 1) v x.1 → Q v H'
theorem sc_read_conjunction : FnScope ["reader", "depth", "parts"] ["reader", "depth"] (defScope s_read_conjunction) := ⟨rfl, rfl, rfl, by decide +kernel, rfl, by decide +kernel, by decide +kernel⟩
theorem ok_conjunction (g : Good w K mg) (wl : Addr) {n : Nat} (h : FnOk P w K mg base (L2.CX P w) (3 * n + 3) (He.ga K "read_single") (fdA K (He.ga K "read_single")) ["reader", "depth"] (sp_read_single K wl n)) :
    FnOk P w K mg base (L2.CX P w) (3 * n + 4) (He.ga K "read_conjunction") (fdA K (He.ga K "read_conjunction")) ["reader", "depth"] (sp_read_conjunction K wl n) := by
  refine (F_read_conjunction g).ok sc_read_conjunction (fun vs H Q E h => ?_) (fun cdv A outer s H vs Q E hr hh => ⟨_, (pss_cons (ps_set (i := 2) sc_read_conjunction.nd rfl (Or.inl rfl) (pe_lst (pa_cons (pe_call h (hr.mono (by omega)) rfl (m_read_single g) (F_read_single g).kp (b_read_single g) .nil (passes_call (takes_of rfl rfl rfl rfl) (fun _ _ _ _ e => e)) (pa_cons (pv 0) (pa_cons (pv 1) pa_nil))) pa_nil))) (pss_cons (ps_while (passes_of rfl) (pt_cmpR op_eq (pe_meth0 (pv 0) (cl_Reader g) (me_Reader_peek g) (ok_Reader_peek g wl) (hr.mono (by omega)) (b_Reader_peek g) .nil pass0) pe_str (nomark _)) (pss_cons (ps_expr (pe_meth0 (pv 0) (cl_Reader g) (me_Reader_take g) (ok_Reader_take g wl) (hr.mono (by omega)) (b_Reader_take g) .nil pass0)) (pss_one (ps_expr (pe_bm PySem.F.plainAttrs_list PySem.F.slot_list_append PySem.F.type_list_append mt_append (pv 2) (pa_cons (pe_call h (hr.mono (by omega)) rfl (m_read_single g) (F_read_single g).kp (b_read_single g) .nil (passes_call (takes_of rfl rfl rfl rfl) (fun _ _ _ _ e => e)) (pa_cons (pv 0) (pa_cons (pv 1) pa_nil))) pa_nil)))))) (pss_one (ps_ret (pe_ifExp (pt_cmpR op_gt (pe_callB call_len rfl (fr_len g) (by decide +kernel) (pa_cons (pv 2) pa_nil)) pe_int (nomark _)) (pe_tup (pa_cons pe_str (pa_cons (pe_callTy call_tuple_of rfl (fr_tuple g) (by decide +kernel) (pa_cons (pv 2) pa_nil)) pa_nil))) (pe_ix ix_list (pv 2) pe_int (fun _ _ => rfl))))))), ?_⟩)
  · obtain ⟨r, t, d, rfl, _⟩ := h; rfl
  · obtain ⟨r, t, d, rfl, hd, hn, R, k0, k⟩ := hh
    have W := R.ok
    have ep : (("&" : String) : Str) = S (ascii "&") := S_of "&"
    refine ⟨_, rfl, _, rfl, r, t, d, rfl, hd, hn, R, fun e H' f => k0 (by rw [allP_eq, e]) _ f, fun x e1 H1 v R1 f1 C1 => ?_⟩
    refine ⟨by show 1 ≤ sizeLine; decide, fun l hl => ?_⟩
    have l0 : H l = none := free_back R1 f1 hl
    have xl := oneP_len e1
    have tl := W.len
    obtain ⟨b1, eb1⟩ := C1.ref
    subst eb1
    refine ⟨fun m σ H' => ∃ (t' : Words) (vs : List V) (cs : List Cond), m = t'.length ∧ σ = [some (.ref r), some (.int (d : Nat)), some (.ref l)] ∧ H' l = some (.lst (.ref b1 :: vs)) ∧ CondAt H' (2 * n) (.ref b1) x.1 ∧ Paired (CondAt H' (2 * n)) vs cs ∧ RdAt K wl H' r t' ∧ Fr (At r) H H' ∧
      allsP d x.1 x.2 = allsP d (cs.foldl (opC false) x.1) t' ∧ cs.length + t'.length ≤ 200,
      ⟨_, x.2, [], [], rfl, rfl, upd_same, C1.keep (Tups.of_same (same_new hl)), .nil, R1.same (same_new hl), f1.trans (Fr.new hl), rfl, by simp; omega⟩, ?_⟩
    rintro m σ H' ⟨t', vs, cs, rfl, rfl, hL, hC, hP, hR, hF, hS, hB⟩
    have R' := hR
    obtain ⟨dx, ws, i, h1, h2, ok, hi', ht⟩ := hR
    have nolk1 : (fsReader wl i).lookup ("peek" : Str) = none := rd_no wl i (by decide +kernel) (by decide +kernel)
    have nolk2 : (fsReader wl i).lookup ("take" : Str) = none := rd_no wl i (by decide +kernel) (by decide +kernel)
    refine ⟨_, rfl, r, dx, _, rfl, h1, nolk1, r, t', rfl, R', rfl, _, rfl, ?_⟩
    rw [ep, S_dec]
    have el : vs.length = cs.length := hP.length
    by_cases c : t'.headD [] = ascii "&"
    · rw [decide_eq_true c]
      refine iteT ?_
      cases t' with
      | nil => cases c
      | cons s q' =>
      have c2 : s = ascii "&" := c
      refine ⟨fun σ' H'' => ∃ m', m' < (s :: q').length ∧ ∃ (t' : Words) (vs : List V) (cs : List Cond), m' = t'.length ∧ σ' = [some (.ref r), some (.int (d : Nat)), some (.ref l)] ∧ H'' l = some (.lst (.ref b1 :: vs)) ∧ CondAt H'' (2 * n) (.ref b1) x.1 ∧ Paired (CondAt H'' (2 * n)) vs cs ∧ RdAt K wl H'' r t' ∧ Fr (At r) H H'' ∧
        allsP d x.1 x.2 = allsP d (cs.foldl (opC false) x.1) t' ∧ cs.length + t'.length ≤ 200, fun _ _ z => z, ?_⟩
      refine ⟨_, rfl, r, dx, _, rfl, h1, nolk2, r, _, rfl, R', fun z => (by cases z), fun s2 q2 e H2 R2 f2 => ?_⟩
      obtain ⟨rfl, rfl⟩ := List.cons.inj e
      have hL2 := f2 l _ hL (ne_of hL h1 (by intro z; cases z))
      have tu2 := R'.tups f2
      refine ⟨_, rfl, Or.inl ⟨rfl, _, SqL.of hL2⟩, _, rfl, _, rfl, r, q', d, rfl, hd, hn, R2, fun e3 H3 f3 => ?_, fun y e4 H3 v3 R3 f3 T3 => ?_⟩
      · refine k0 ?_ _ ((hF.trans f2).trans f3)
        rw [allP_eq, e1]
        show allsP d x.1 x.2 = none
        rw [hS, allsP_c, if_pos c2, e3]
      · obtain ⟨_, _, _, h1', _⟩ := id R2
        have hL3 := f3 l _ hL2 (ne_of hL2 h1' (by intro z; cases z))
        have tu3 := R2.tups f3
        have yl := oneP_len e4
        have tu : Tups H3 (upd H3 l (.lst (.ref b1 :: vs ++ [v3]))) := fun b xs z => by rw [upd_ne (ne_of z hL3 (by intro z; cases z))]; exact z
        simp only [List.length_cons] at hB
        refine ⟨l, _, v3, rfl, rfl, hL3, by rw [sizeLine_eq]; simp; omega, ?_⟩
        refine ⟨y.2.length, by simp; omega, y.2, vs ++ [v3], cs ++ [y.1], rfl, rfl, upd_same, hC.keep ((tu2.trans tu3).trans tu),
          paired_snoc (Paired.mapP hP fun _ _ => CondAt.keep ((tu2.trans tu3).trans tu)) (T3.keep tu), R3.putL hL3, ?_, ?_, by simp; omega⟩
        · exact fun b o z n => by
            rw [upd_ne (ne_of_none z l0)]
            exact f3 b o (f2 b o (hF b o z n) n) n
        · rw [hS, allsP_c, if_pos c2, e4, List.foldl_append]
          rfl
    · rw [decide_eq_false c]
      refine iteF ?_
      have es : allP d t = some (cs.foldl (opC false) x.1, t') := by
        rw [allP_eq, e1]
        show allsP d x.1 x.2 = _
        rw [hS]
        cases t' with
        | nil => exact allsP_nil _ _
        | cons s q' => rw [allsP_c, if_neg (show ¬ s = ascii "&" from c)]
      refine ⟨_, rfl, _, _, rfl, Or.inl ⟨_, SqL.of hL, rfl⟩, _, _, rfl, rfl, _, rfl, ?_⟩
      cases vs with
      | nil =>
        cases hP
        rw [decide_eq_false (by simp)]
        refine iteF ⟨_, rfl, l, _, 0, _, rfl, rfl, SqL.of hL, atI_nat (j := 0) rfl, ?_⟩
        exact k _ es _ _ R' hF (hC.mono (by omega))
      | cons v1 vs =>
        rw [decide_eq_true (by simp; omega)]
        refine iteT ⟨_, rfl, l, _, rfl, Or.inl ⟨SqL.of hL, fun a ha => ⟨by show 2 ≤ sizeLine; decide, fun b hb => ?_⟩⟩⟩
        have s1 := same_new (o := HO.tup (.ref b1 :: v1 :: vs)) ha
        have s2 := same_new (o := HO.tup [vS (ascii "&"), .ref a]) hb
        have tt := (Tups.of_same s1).trans (Tups.of_same s2)
        refine k _ es _ _ ((R'.same s1).same s2) ((hF.trans (Fr.new ha)).trans (Fr.new hb)) ⟨b, rfl, .inr (.inr ⟨false, a, .ref b1, v1 :: vs, x.1, cs, upd_same, ?_, by simp, hC.keep tt, Paired.mapP hP fun _ _ => CondAt.keep tt, rfl⟩)⟩
        exact s2 _ _ upd_same
/-! read_condition -/
def sp_read_condition (K : PySem.W.Frag) (wl : Addr) (n : Nat) : Sp := fun vs H Q E => ∃ (r : Addr) (t : Words) (d : Nat), vs = [.ref r, .int (d : Nat)] ∧ d ≤ 8 ∧ 8 < d + n ∧ RdAt K wl H r t ∧
  (altP d t = none → ∀ H', Fr (At r) H H' → E (cNo K) none H') ∧ ∀ x, altP d t = some x → ∀ H' v, RdAt K wl H' r x.2 → Fr (At r) H H' → CondAt H' (2 * n + 2) v x.1 → Q v H'
theorem sc_read_condition : FnScope ["reader", "depth", "parts"] ["reader", "depth"] (defScope s_read_condition) := ⟨rfl, rfl, rfl, by decide +kernel, rfl, by decide +kernel, by decide +kernel⟩
theorem ok_condition (g : Good w K mg) (wl : Addr) {n : Nat} (h : FnOk P w K mg base (L2.CX P w) (3 * n + 4) (He.ga K "read_conjunction") (fdA K (He.ga K "read_conjunction")) ["reader", "depth"] (sp_read_conjunction K wl n)) :
    FnOk P w K mg base (L2.CX P w) (3 * n + 5) (He.ga K "read_condition") (fdA K (He.ga K "read_condition")) ["reader", "depth"] (sp_read_condition K wl n) := by
  refine (F_read_condition g).ok sc_read_condition (fun vs H Q E h => ?_) (fun cdv A outer s H vs Q E hr hh => ⟨_, (pss_cons (ps_set (i := 2) sc_read_condition.nd rfl (Or.inl rfl) (pe_lst (pa_cons (pe_call h (hr.mono (by omega)) rfl (m_read_conjunction g) (F_read_conjunction g).kp (b_read_conjunction g) .nil (passes_call (takes_of rfl rfl rfl rfl) (fun _ _ _ _ e => e)) (pa_cons (pv 0) (pa_cons (pv 1) pa_nil))) pa_nil))) (pss_cons (ps_while (passes_of rfl) (pt_cmpR op_eq (pe_meth0 (pv 0) (cl_Reader g) (me_Reader_peek g) (ok_Reader_peek g wl) (hr.mono (by omega)) (b_Reader_peek g) .nil pass0) pe_str (nomark _)) (pss_cons (ps_expr (pe_meth0 (pv 0) (cl_Reader g) (me_Reader_take g) (ok_Reader_take g wl) (hr.mono (by omega)) (b_Reader_take g) .nil pass0)) (pss_one (ps_expr (pe_bm PySem.F.plainAttrs_list PySem.F.slot_list_append PySem.F.type_list_append mt_append (pv 2) (pa_cons (pe_call h (hr.mono (by omega)) rfl (m_read_conjunction g) (F_read_conjunction g).kp (b_read_conjunction g) .nil (passes_call (takes_of rfl rfl rfl rfl) (fun _ _ _ _ e => e)) (pa_cons (pv 0) (pa_cons (pv 1) pa_nil))) pa_nil)))))) (pss_one (ps_ret (pe_ifExp (pt_cmpR op_gt (pe_callB call_len rfl (fr_len g) (by decide +kernel) (pa_cons (pv 2) pa_nil)) pe_int (nomark _)) (pe_tup (pa_cons pe_str (pa_cons (pe_callTy call_tuple_of rfl (fr_tuple g) (by decide +kernel) (pa_cons (pv 2) pa_nil)) pa_nil))) (pe_ix ix_list (pv 2) pe_int (fun _ _ => rfl))))))), ?_⟩)
  · obtain ⟨r, t, d, rfl, _⟩ := h; rfl
  · obtain ⟨r, t, d, rfl, hd, hn, R, k0, k⟩ := hh
    have W := R.ok
    have ep : (("|" : String) : Str) = S (ascii "|") := S_of "|"
    refine ⟨_, rfl, _, rfl, r, t, d, rfl, hd, hn, R, fun e H' f => k0 (by rw [altP_eq, e]) _ f, fun x e1 H1 v R1 f1 C1 => ?_⟩
    refine ⟨by show 1 ≤ sizeLine; decide, fun l hl => ?_⟩
    have l0 : H l = none := free_back R1 f1 hl
    have xl := allP_len e1
    have tl := W.len
    obtain ⟨b1, eb1⟩ := C1.ref
    subst eb1
    refine ⟨fun m σ H' => ∃ (t' : Words) (vs : List V) (cs : List Cond), m = t'.length ∧ σ = [some (.ref r), some (.int (d : Nat)), some (.ref l)] ∧ H' l = some (.lst (.ref b1 :: vs)) ∧ CondAt H' (2 * n + 1) (.ref b1) x.1 ∧ Paired (CondAt H' (2 * n + 1)) vs cs ∧ RdAt K wl H' r t' ∧ Fr (At r) H H' ∧
      altsP d x.1 x.2 = altsP d (cs.foldl (opC true) x.1) t' ∧ cs.length + t'.length ≤ 200,
      ⟨_, x.2, [], [], rfl, rfl, upd_same, C1.keep (Tups.of_same (same_new hl)), .nil, R1.same (same_new hl), f1.trans (Fr.new hl), rfl, by simp; omega⟩, ?_⟩
    rintro m σ H' ⟨t', vs, cs, rfl, rfl, hL, hC, hP, hR, hF, hS, hB⟩
    have R' := hR
    obtain ⟨dx, ws, i, h1, h2, ok, hi', ht⟩ := hR
    have nolk1 : (fsReader wl i).lookup ("peek" : Str) = none := rd_no wl i (by decide +kernel) (by decide +kernel)
    have nolk2 : (fsReader wl i).lookup ("take" : Str) = none := rd_no wl i (by decide +kernel) (by decide +kernel)
    refine ⟨_, rfl, r, dx, _, rfl, h1, nolk1, r, t', rfl, R', rfl, _, rfl, ?_⟩
    rw [ep, S_dec]
    have el : vs.length = cs.length := hP.length
    by_cases c : t'.headD [] = ascii "|"
    · rw [decide_eq_true c]
      refine iteT ?_
      cases t' with
      | nil => cases c
      | cons s q' =>
      have c2 : s = ascii "|" := c
      refine ⟨fun σ' H'' => ∃ m', m' < (s :: q').length ∧ ∃ (t' : Words) (vs : List V) (cs : List Cond), m' = t'.length ∧ σ' = [some (.ref r), some (.int (d : Nat)), some (.ref l)] ∧ H'' l = some (.lst (.ref b1 :: vs)) ∧ CondAt H'' (2 * n + 1) (.ref b1) x.1 ∧ Paired (CondAt H'' (2 * n + 1)) vs cs ∧ RdAt K wl H'' r t' ∧ Fr (At r) H H'' ∧
        altsP d x.1 x.2 = altsP d (cs.foldl (opC true) x.1) t' ∧ cs.length + t'.length ≤ 200, fun _ _ z => z, ?_⟩
      refine ⟨_, rfl, r, dx, _, rfl, h1, nolk2, r, _, rfl, R', fun z => (by cases z), fun s2 q2 e H2 R2 f2 => ?_⟩
      obtain ⟨rfl, rfl⟩ := List.cons.inj e
      have hL2 := f2 l _ hL (ne_of hL h1 (by intro z; cases z))
      have tu2 := R'.tups f2
      refine ⟨_, rfl, Or.inl ⟨rfl, _, SqL.of hL2⟩, _, rfl, _, rfl, r, q', d, rfl, hd, hn, R2, fun e3 H3 f3 => ?_, fun y e4 H3 v3 R3 f3 T3 => ?_⟩
      · refine k0 ?_ _ ((hF.trans f2).trans f3)
        rw [altP_eq, e1]
        show altsP d x.1 x.2 = none
        rw [hS, altsP_c, if_pos c2, e3]
      · obtain ⟨_, _, _, h1', _⟩ := id R2
        have hL3 := f3 l _ hL2 (ne_of hL2 h1' (by intro z; cases z))
        have tu3 := R2.tups f3
        have yl := allP_len e4
        have tu : Tups H3 (upd H3 l (.lst (.ref b1 :: vs ++ [v3]))) := fun b xs z => by rw [upd_ne (ne_of z hL3 (by intro z; cases z))]; exact z
        simp only [List.length_cons] at hB
        refine ⟨l, _, v3, rfl, rfl, hL3, by rw [sizeLine_eq]; simp; omega, ?_⟩
        refine ⟨y.2.length, by simp; omega, y.2, vs ++ [v3], cs ++ [y.1], rfl, rfl, upd_same, hC.keep ((tu2.trans tu3).trans tu),
          paired_snoc (Paired.mapP hP fun _ _ => CondAt.keep ((tu2.trans tu3).trans tu)) (T3.keep tu), R3.putL hL3, ?_, ?_, by simp; omega⟩
        · exact fun b o z n => by
            rw [upd_ne (ne_of_none z l0)]
            exact f3 b o (f2 b o (hF b o z n) n) n
        · rw [hS, altsP_c, if_pos c2, e4, List.foldl_append]
          rfl
    · rw [decide_eq_false c]
      refine iteF ?_
      have es : altP d t = some (cs.foldl (opC true) x.1, t') := by
        rw [altP_eq, e1]
        show altsP d x.1 x.2 = _
        rw [hS]
        cases t' with
        | nil => exact altsP_nil _ _
        | cons s q' => rw [altsP_c, if_neg (show ¬ s = ascii "|" from c)]
      refine ⟨_, rfl, _, _, rfl, Or.inl ⟨_, SqL.of hL, rfl⟩, _, _, rfl, rfl, _, rfl, ?_⟩
      cases vs with
      | nil =>
        cases hP
        rw [decide_eq_false (by simp)]
        refine iteF ⟨_, rfl, l, _, 0, _, rfl, rfl, SqL.of hL, atI_nat (j := 0) rfl, ?_⟩
        exact k _ es _ _ R' hF (hC.mono (by omega))
      | cons v1 vs =>
        rw [decide_eq_true (by simp; omega)]
        refine iteT ⟨_, rfl, l, _, rfl, Or.inl ⟨SqL.of hL, fun a ha => ⟨by show 2 ≤ sizeLine; decide, fun b hb => ?_⟩⟩⟩
        have s1 := same_new (o := HO.tup (.ref b1 :: v1 :: vs)) ha
        have s2 := same_new (o := HO.tup [vS (ascii "|"), .ref a]) hb
        have tt := (Tups.of_same s1).trans (Tups.of_same s2)
        refine k _ es _ _ ((R'.same s1).same s2) ((hF.trans (Fr.new ha)).trans (Fr.new hb)) ⟨b, rfl, .inr (.inr ⟨true, a, .ref b1, v1 :: vs, x.1, cs, upd_same, ?_, by simp, hC.keep tt, Paired.mapP hP fun _ _ => CondAt.keep tt, rfl⟩)⟩
        exact s2 _ _ upd_same
/-! read_single -/
theorem sc_read_single : FnScope ["reader", "depth", "sign", "inner"] ["reader", "depth"] (defScope s_read_single) := ⟨rfl, rfl, rfl, by decide +kernel, rfl, by decide +kernel, by decide +kernel⟩
theorem ok_single (g : Good w K mg) (wl : Addr) {n : Nat} (h1 : FnOk P w K mg base (L2.CX P w) (3 * n + 3) (He.ga K "read_single") (fdA K (He.ga K "read_single")) ["reader", "depth"] (sp_read_single K wl n))
    (h2 : FnOk P w K mg base (L2.CX P w) (3 * n + 5) (He.ga K "read_condition") (fdA K (He.ga K "read_condition")) ["reader", "depth"] (sp_read_condition K wl n)) :
    FnOk P w K mg base (L2.CX P w) (3 * n + 6) (He.ga K "read_single") (fdA K (He.ga K "read_single")) ["reader", "depth"] (sp_read_single K wl (n + 1)) := by
  refine (F_read_single g).ok sc_read_single (fun vs H Q E h => ?_) (fun cdv A outer s H vs Q E hr hh => ⟨_, (pss_cons (ps_set (i := 2) sc_read_single.nd rfl (Or.inl rfl) (pe_meth0 (pv 0) (cl_Reader g) (me_Reader_peek g) (ok_Reader_peek g wl) (hr.mono (by omega)) (b_Reader_peek g) .nil pass0)) (pss_cons (ps_if (PW.pt (pw_and (pt_cmpR op_ne (pv 2) pe_str (nomark _)) (pw_and1 (pt_cmpR op_ne (pv 2) pe_str (nomark _))))) (pss_one (ps_ret (pe_call (ok_read_comparison g wl) (hr.mono (by omega)) rfl (m_read_comparison g) (F_read_comparison g).kp (b_read_comparison g) .nil (passes_call (takes_of rfl rfl rfl rfl) (fun _ _ _ _ e => e)) (pa_cons (pv 0) pa_nil)))) pss_nil) (pss_cons (ps_if (pt_cmpR op_eq (pv 1) (pe_gI rfl (i_MOST_NESTED g)) (nomark _)) (pss_one (ps_raise rfl (takes_of rfl rfl rfl rfl) (pmk_own0 PySem.F.excBase_Exception (xc_NoForm g) (m_NoForm g) (kp_NoForm g) (raises_own (sb_NoForm g) (ty_NoForm g)) rfl))) pss_nil) (pss_cons (ps_expr (pe_meth0 (pv 0) (cl_Reader g) (me_Reader_take g) (ok_Reader_take g wl) (hr.mono (by omega)) (b_Reader_take g) .nil pass0)) (pss_cons (ps_if (pt_cmpR op_eq (pv 2) pe_str (nomark _)) (pss_one (ps_ret (pe_tup (pa_cons pe_str (pa_cons (pe_call h1 (hr.mono (by omega)) rfl (m_read_single g) (F_read_single g).kp (b_read_single g) .nil (passes_call (takes_of rfl rfl rfl rfl) (fun _ _ _ _ e => e)) (pa_cons (pv 0) (pa_cons (pe_op op_add (pv 1) pe_int) pa_nil))) pa_nil))))) pss_nil) (pss_cons (ps_set (i := 3) sc_read_single.nd rfl (Or.inl rfl) (pe_call h2 (hr.mono (by omega)) rfl (m_read_condition g) (F_read_condition g).kp (b_read_condition g) .nil (passes_call (takes_of rfl rfl rfl rfl) (fun _ _ _ _ e => e)) (pa_cons (pv 0) (pa_cons (pe_op op_add (pv 1) pe_int) pa_nil)))) (pss_cons (ps_expr (pe_meth (pv 0) (cl_Reader g) (me_Reader_expect g) (ok_Reader_expect g wl) (hr.mono (by omega)) (b_Reader_expect g) .nil (passes_call (takes_of rfl rfl rfl rfl) (fun _ _ _ _ e => e)) (pa_cons pe_str pa_nil))) (pss_one (ps_ret (pv 3)))))))))), ?_⟩)
  · obtain ⟨r, t, d, rfl, _⟩ := h; rfl
  · obtain ⟨r, t, d, rfl, hd, hn, R, k0, k⟩ := hh
    have W := R.ok
    have R' := R
    obtain ⟨dx, ws, i, q1, q2, ok, hi', ht⟩ := R
    have en : (("~" : String) : Str) = S (ascii "~") := S_of "~"
    have eo : (("(" : String) : Str) = S (ascii "(") := S_of "("
    have ec : ((")" : String) : Str) = S (ascii ")") := S_of ")"
    have nolk1 : (fsReader wl i).lookup ("peek" : Str) = none := rd_no wl i (by decide +kernel) (by decide +kernel)
    have nolk2 : (fsReader wl i).lookup ("take" : Str) = none := rd_no wl i (by decide +kernel) (by decide +kernel)
    refine ⟨_, rfl, r, dx, _, rfl, q1, nolk1, r, t, rfl, R', ?_⟩
    dsimp only [gName, tSeq, tIfS]
    refine test_and (a := !decide (t.headD [] = ascii "~")) (b := !decide (t.headD [] = ascii "("))
      (fun Q' z => ⟨_, rfl, rfl, _, rfl, by rw [en, S_dec]; exact z⟩)
      (fun Q' z => ⟨_, rfl, rfl, _, rfl, by rw [eo, S_dec]; exact z⟩) ?_
    by_cases c1 : t.headD [] = ascii "~"
    · rw [decide_eq_true c1]
      refine iteF ?_
      cases t with
      | nil => cases c1
      | cons s q =>
      have c2 : s = ascii "~" := c1
      refine ⟨_, rfl, rfl, _, rfl, ?_⟩
      rw [dec_int]
      by_cases c8 : d = 8
      · subst c8
        rw [show ((((8 : Nat) : Int)) == 8) = true from rfl]
        refine iteT (k0 ?_ _ Fr.refl)
        rw [oneP_c, if_pos c2]; rfl
      · rw [beq_eq_false_iff_ne.mpr (by omega : (d : Int) ≠ 8)]
        have h8 : ¬ Hr01.DEEP ≤ d := by unfold Hr01.DEEP; omega
        refine iteF ⟨_, rfl, r, dx, _, rfl, q1, nolk2, r, _, rfl, R', fun z => (by cases z), fun s2 q2 e H2 R2 f2 => ?_⟩
        obtain ⟨rfl, rfl⟩ := List.cons.inj e
        refine ⟨_, rfl, rfl, _, rfl, ?_⟩
        rw [en, S_dec, decide_eq_true c1]
        refine iteT ⟨_, rfl, _, rfl, _, _, rfl, rfl, r, q, d + 1, rfl, by omega, by omega, R2, fun e3 H3 f3 => k0 ?_ _ (f2.trans f3), fun x ex H3 v R3 f3 C3 => ⟨by show 2 ≤ sizeLine; decide, fun b hb => ?_⟩⟩
        · rw [oneP_c, if_pos c2, if_neg h8, e3]; rfl
        · have sm := same_new (o := HO.tup [vS (ascii "~"), v]) hb
          refine k (.not x.1, x.2) ?_ _ _ (R3.same sm) ((f2.trans f3).trans (Fr.new hb)) ⟨b, rfl, .inr (.inl ⟨v, x.1, upd_same, (C3.keep (Tups.of_same sm)).step, rfl⟩)⟩
          rw [oneP_c, if_pos c2, if_neg h8, ex]; rfl
    · rw [decide_eq_false c1]
      by_cases c3 : t.headD [] = ascii "("
      · rw [decide_eq_true c3]
        refine iteF ?_
        cases t with
        | nil => cases c3
        | cons s q =>
        have c2 : s = ascii "(" := c3
        have c1' : ¬ s = ascii "~" := c1
        refine ⟨_, rfl, rfl, _, rfl, ?_⟩
        rw [dec_int]
        by_cases c8 : d = 8
        · subst c8
          rw [show ((((8 : Nat) : Int)) == 8) = true from rfl]
          refine iteT (k0 ?_ _ Fr.refl)
          rw [oneP_c, if_neg c1', if_pos c2]; rfl
        · rw [beq_eq_false_iff_ne.mpr (by omega : (d : Int) ≠ 8)]
          have h8 : ¬ Hr01.DEEP ≤ d := by unfold Hr01.DEEP; omega
          refine iteF ⟨_, rfl, r, dx, _, rfl, q1, nolk2, r, _, rfl, R', fun z => (by cases z), fun s2 q2 e H2 R2 f2 => ?_⟩
          obtain ⟨rfl, rfl⟩ := List.cons.inj e
          refine ⟨_, rfl, rfl, _, rfl, ?_⟩
          rw [en, S_dec, decide_eq_false c1]
          refine iteF ⟨_, rfl, _, rfl, _, _, rfl, rfl, r, q, d + 1, rfl, by omega, by omega, R2, fun e3 H3 f3 => k0 ?_ _ (f2.trans f3), fun x ex H3 v R3 f3 C3 => ?_⟩
          · rw [oneP_c, if_neg c1', if_pos c2, if_neg h8, e3]
          · have R3' := R3
            obtain ⟨dx3, ws3, i3, q13, _⟩ := R3
            refine ⟨_, rfl, r, dx3, _, rfl, q13, rd_no wl i3 (by decide +kernel) (by decide +kernel), r, x.2, ascii ")", by rw [ec]; rfl, R3', by decide, fun z H4 f4 => k0 ?_ _ ((f2.trans f3).trans f4), fun q4 e4 H4 R4 f4 => ⟨_, rfl, ?_⟩⟩
            · rw [oneP_c, if_neg c1', if_pos c2, if_neg h8, ex]
              dsimp only
              cases e5 : x.2 with
              | nil => rfl
              | cons y q5 => rw [e5] at z; exact if_neg z
            · refine k (x.1, q4) ?_ _ _ R4 ((f2.trans f3).trans f4) ((C3.keep (R3'.tups f4)).mono (by omega))
              rw [oneP_c, if_neg c1', if_pos c2, if_neg h8, ex]
              dsimp only
              rw [e4]
              exact if_pos rfl
      · rw [decide_eq_false c3]
        refine iteT ⟨_, rfl, r, t, rfl, R', fun e H' f => k0 ?_ _ f, fun x ex H' v R3 f3 C3 => k x ?_ _ _ R3 f3 (C3.mono (by omega))⟩
        · cases t with
          | nil => exact oneP_nil _
          | cons s q => rw [oneP_c, if_neg (show ¬ s = ascii "~" from c1), if_neg (show ¬ s = ascii "(" from c3)]; exact e
        · cases t with
          | nil => cases ex
          | cons s q => rw [oneP_c, if_neg (show ¬ s = ascii "~" from c1), if_neg (show ¬ s = ascii "(" from c3)]; exact ex
theorem ok_conds (g : Good w K mg) (wl : Addr) : ∀ n : Nat, FnOk P w K mg base (L2.CX P w) (3 * n + 3) (He.ga K "read_single") (fdA K (He.ga K "read_single")) ["reader", "depth"] (sp_read_single K wl n) ∧
    FnOk P w K mg base (L2.CX P w) (3 * n + 5) (He.ga K "read_condition") (fdA K (He.ga K "read_condition")) ["reader", "depth"] (sp_read_condition K wl n)
  | 0 => by
    have h : FnOk P w K mg base (L2.CX P w) 3 (He.ga K "read_single") (fdA K (He.ga K "read_single")) ["reader", "depth"] (sp_read_single K wl 0) :=
      ⟨fun vs H Q E ⟨r, t, d, _, h1, h2, _⟩ => absurd h2 (by omega), fun A outer s H args us vs Q E _ _ _ _ ⟨r, t, d, _, h1, h2, _⟩ => absurd h2 (by omega)⟩
    exact ⟨h, ok_condition g wl (ok_conjunction g wl h)⟩
  | n + 1 => by
    obtain ⟨h1, h2⟩ := ok_conds g wl n
    have h := ok_single g wl h1 h2
    exact ⟨h, ok_condition g wl (ok_conjunction (n := n + 1) g wl h)⟩
/-- read_condition(reader, 0) -/
theorem ok_read_condition (g : Good w K mg) (wl : Addr) : FnOk P w K mg base (L2.CX P w) 32 (He.ga K "read_condition") (fdA K (He.ga K "read_condition")) ["reader", "depth"] (sp_read_condition K wl 9) := (ok_conds g wl 9).2
end
end Hw
end

/-! ## part P5 -/
section
set_option Elab.async false
set_option linter.all false
set_option maxRecDepth 100000
set_option maxHeartbeats 2000000
namespace Hw
open PySem PySem.Spec PyProof.Rows L2
open Hr01 (Bytes Words Term Sum Cond ascii isName num? term? digit small sum? parted Cmd Rule)
/-! ### the tables of the top -/
section
variable {w : World} {K : PySem.W.Frag} {mg : Str → Option Value}
theorem Good.tab (g : Good w K mg) (i : Nat) {t : He.Tab} (h : ts[i]? = some t) : He.dicW K (t.1 K) = some (He.keysIn w.params t.2) := by
  have e : ts.map (fun t => He.dicW K (t.1 K)) = ts.map fun t => some (He.keysIn w.params t.2) := congrArg (fun z : He.AlT => z.2) g.t
  have e2 : (ts.map fun t => He.dicW K (t.1 K))[i]? = (ts.map fun t => some (He.keysIn w.params t.2))[i]? := by rw [e]
  rw [List.getElem?_map, List.getElem?_map, h] at e2
  exact Option.some.inj e2
theorem keys_find {P : Params} {z : Str} : ∀ {l : List DictEntry} {ks : List Str}, l.map He.keyOf = He.keysIn P ks → z ∉ ks → l.find? (·.key.isStr z) = none ∧ l.any (·.refKey) = false
  | [], _, _, _ => ⟨rfl, rfl⟩
  | e :: r, [], h, _ => by cases h
  | e :: r, k :: ks, h, hz => by
    have h1 : He.keyOf e :: r.map He.keyOf = some (k, PyData.keyHash P k) :: He.keysIn P ks := h
    injection h1 with h2 h3
    obtain ⟨i1, i2⟩ := keys_find (z := z) h3 fun m => hz (List.mem_cons_of_mem _ m)
    unfold He.keyOf at h2
    split at h2
    · rename_i x t q
      have hx : x = k := (Prod.mk.inj (Option.some.inj h2)).1
      have n1 : e.key.isStr z = false := by
        rw [q]
        show (x == z) = false
        exact beq_eq_false_iff_ne.mpr fun y => hz (by rw [← y, hx]; exact List.mem_cons_self ..)
      have n2 : e.refKey = false := by
        unfold DictEntry.refKey
        rw [q]
      rw [List.find?_cons, n1, List.any_cons, n2]
      exact ⟨i1, i2⟩
    · cases h2
theorem tab_none {a : Addr} {ks : List Str} (h : He.dicW K a = some (He.keysIn w.params ks)) {z : Str} (hz : z ∉ ks) : PySem.W.nsIn K a z = some none := by
  unfold He.dicW at h
  unfold PySem.W.nsIn
  cases q : K.lookup a with
  | none => rw [q] at h; cases h
  | some o =>
    obtain ⟨oc, od, dt, osl⟩ := o
    rw [q] at h
    cases oc with
    | type c =>
      cases od with
      | none =>
        cases dt with
        | dict es n =>
          dsimp only at h ⊢
          split at h
          · obtain ⟨i1, i2⟩ := keys_find (Option.some.inj h) hz
            rw [i1, i2]
            rfl
          · cases h
        | _ => cases h
      | some b => cases dt <;> cases h
    | _ => cases od <;> cases dt <;> cases h
theorem kdct_of {a b : Addr} {ks : List Str} {k : Str} (h : He.dicW K a = some (He.keysIn w.params ks)) (e : PySem.W.nsIn K a k = some (some (.ref b))) : KDct K w a k (.ref b) := by
  obtain ⟨es, n, D⟩ := He.dicW_ok h
  exact ⟨es, n, _, D.at_, D.lit, e, rfl⟩
/-- a tuple that a dict of the top holds -/
theorem dtB_ok {x k : Str} {us : List He.Dv} (h : dtB K x k us = true) : PySem.W.nsIn K (He.ga K x) k = some (some (.ref (dAt x k K))) ∧ ∀ H : Hp, SqT K H (dAt x k K) (us.map fun u => u.v K) := by
  obtain ⟨h1, h2⟩ := He.ba (show (He.eqO (PySem.W.nsIn K (He.ga K x) k) (some (some (.ref (dAt x k K)))) && _) = true from h)
  refine ⟨He.eqO_ok h1, fun H => ?_⟩
  cases q : K.lookup (dAt x k K) with
  | none => rw [q] at h2; cases h2
  | some o =>
    obtain ⟨oc, od, dt, osl⟩ := o
    rw [q] at h2
    cases oc with
    | type c =>
      cases dt with
      | seq its n =>
        obtain ⟨h3, h4⟩ := He.ba (show (decide (c = "tuple") && (decide (its.size ≤ sizeLine) && He.relAll (us.map fun u => u.v K) its.toList)) = true from h2)
        obtain ⟨h5, h6⟩ := He.ba h4
        exact .inr ⟨_, its, n, q, congrArg Value.type (of_decide_eq_true h3), rfl, of_decide_eq_true h5, He.relAll_ok h6⟩
      | _ => cases h2
    | _ => cases dt <;> cases h2
end
/-! ### RANGES and FORMS, in the words of M3 -/
def KINDS : List (Bytes × (Nat × Nat)) := [(ascii "value", (0, 999)), (ascii "rank", (0, 9)), (ascii "delay", (0, 20)), (ascii "length", (1, 999)), (ascii "minutes", (1, 500)), (ascii "minute", (0, 99999)), (ascii "ahead", (1, 100))]
def argV : Arg → V
  | .name x => vS x
  | .num n => .int (n : Nat)
section
variable {P : Program} {w : World} {K : PySem.W.Frag} {mg : Str → Option Value} {base : Heap}
theorem ranges (g : Good w K mg) {k : Bytes} {lo hi : Nat} (h : (k, (lo, hi)) ∈ KINDS) : ∃ b, KDct K w (He.ga K "RANGES") (S k) (.ref b) ∧ ∀ H : Hp, SqT K H b [.int (lo : Nat), .int (hi : Nat)] := by
  have T := g.tab 2 rfl
  simp only [KINDS, List.mem_cons, Prod.mk.injEq, List.not_mem_nil, or_false] at h
  rcases h with ⟨rfl, rfl, rfl⟩ | ⟨rfl, rfl, rfl⟩ | ⟨rfl, rfl, rfl⟩ | ⟨rfl, rfl, rfl⟩ | ⟨rfl, rfl, rfl⟩ | ⟨rfl, rfl, rfl⟩ | ⟨rfl, rfl, rfl⟩
  · obtain ⟨h1, h2⟩ := dtB_ok (g.x 3 (b := dtB K "RANGES" "value" [.int 0, .int 999]) rfl)
    rw [← S_of]; exact ⟨_, kdct_of T h1, h2⟩
  · obtain ⟨h1, h2⟩ := dtB_ok (g.x 4 (b := dtB K "RANGES" "rank" [.int 0, .int 9]) rfl)
    rw [← S_of]; exact ⟨_, kdct_of T h1, h2⟩
  · obtain ⟨h1, h2⟩ := dtB_ok (g.x 5 (b := dtB K "RANGES" "delay" [.int 0, .int 20]) rfl)
    rw [← S_of]; exact ⟨_, kdct_of T h1, h2⟩
  · obtain ⟨h1, h2⟩ := dtB_ok (g.x 6 (b := dtB K "RANGES" "length" [.int 1, .int 999]) rfl)
    rw [← S_of]; exact ⟨_, kdct_of T h1, h2⟩
  · obtain ⟨h1, h2⟩ := dtB_ok (g.x 7 (b := dtB K "RANGES" "minutes" [.int 1, .int 500]) rfl)
    rw [← S_of]; exact ⟨_, kdct_of T h1, h2⟩
  · obtain ⟨h1, h2⟩ := dtB_ok (g.x 8 (b := dtB K "RANGES" "minute" [.int 0, .int 99999]) rfl)
    rw [← S_of]; exact ⟨_, kdct_of T h1, h2⟩
  · obtain ⟨h1, h2⟩ := dtB_ok (g.x 9 (b := dtB K "RANGES" "ahead" [.int 1, .int 100]) rfl)
    rw [← S_of]; exact ⟨_, kdct_of T h1, h2⟩
/-- a kind's word -/
def KindIs (k : Bytes) (kd : Kind) : Prop := (k = ascii "name" ∧ kd = none) ∨ ∃ r, kd = some r ∧ (k, r) ∈ KINDS
theorem nameP_none {t : Words} (h : isName (t.headD []) = false) : nameP t = none := by
  cases t with
  | nil => rfl
  | cons x q => exact if_neg (by rw [show isName x = false from h]; simp)
theorem nameP_of {x : Bytes} {q : Words} (h : isName x = true) : nameP (x :: q) = some (x, q) := if_pos h
theorem numP_none {lo hi : Nat} {t : Words} (h : num? lo hi (t.headD []) = none) : numP lo hi t = none := by
  cases t with
  | nil => rfl
  | cons x q => show (num? lo hi x).map _ = none; rw [show num? lo hi x = none from h]; rfl
theorem numP_of {lo hi n : Nat} {x : Bytes} {q : Words} (h : num? lo hi x = some n) : numP lo hi (x :: q) = some (n, q) := by
  show (num? lo hi x).map _ = _
  rw [h]; rfl
theorem wordP_none {k : Bytes} {t : Words} (h : t.headD [] ≠ k) : wordP k t = none := by
  cases t with
  | nil => rfl
  | cons x q => exact if_neg h
theorem wordP_of (k : Bytes) (q : Words) : wordP k (k :: q) = some q := if_pos rfl
/-! take_argument -/
def sp_take_argument (K : PySem.W.Frag) (wl : Addr) : Sp := fun vs H Q E => ∃ (r : Addr) (t : Words) (k : Bytes) (kd : Kind), vs = [.ref r, vS k] ∧ KindIs k kd ∧ RdAt K wl H r t ∧
  (argP kd t = none → ∀ H', Fr (At r) H H' → E (cNo K) none H') ∧ ∀ x, argP kd t = some x → ∀ H', RdAt K wl H' r x.2 → Fr (At r) H H' → Q (argV x.1) H'
theorem sc_take_argument : FnScope ["reader", "kind", "ends"] ["reader", "kind"] (defScope s_take_argument) := ⟨rfl, rfl, rfl, by decide +kernel, rfl, by decide +kernel, by decide +kernel⟩
theorem kinds_ne {k : Bytes} {r : Nat × Nat} (h : (k, r) ∈ KINDS) : k ≠ ascii "name" := by
  have e : ∀ p ∈ KINDS, p.1 ≠ ascii "name" := by decide
  exact e _ h
theorem ok_take_argument (g : Good w K mg) (wl : Addr) : FnOk P w K mg base (L2.CX P w) 4 (He.ga K "take_argument") (fdA K (He.ga K "take_argument")) ["reader", "kind"] (sp_take_argument K wl) := by
  refine (F_take_argument g).ok sc_take_argument (fun vs H Q E h => ?_) (fun cdv A outer s H vs Q E hr h => ⟨_, (pss_cons (ps_if (pt_cmpR op_eq (pv 1) pe_str (nomark _)) (pss_one (ps_ret (pe_call (ok_take_name g wl) (hr.mono (by decide)) rfl (m_take_name g) (F_take_name g).kp (b_take_name g) .nil (passes_call (takes_of rfl rfl rfl rfl) (fun _ _ _ _ e => e)) (pa_cons (pv 0) pa_nil)))) pss_nil) (pss_cons (ps_set (i := 2) sc_take_argument.nd rfl (Or.inl rfl) (pe_ix ix_kdict (pe_gR rfl (m_RANGES g)) (pv 1) (fun _ _ => rfl))) (pss_one (ps_ret (pe_call (ok_take_number g wl) (hr.mono (by decide)) rfl (m_take_number g) (F_take_number g).kp (b_take_number g) .nil (passes_call (takes_of rfl rfl rfl rfl) (fun _ _ _ _ e => e)) (pa_cons (pv 0) (pa_cons (pe_ix ix_tup (pv 2) pe_int (fun _ _ => rfl)) (pa_cons (pe_ix ix_tup (pv 2) pe_int (fun _ _ => rfl)) pa_nil)))))))), ?_⟩)
  · obtain ⟨r, t, k, kd, rfl, _⟩ := h; rfl
  · obtain ⟨r, t, k, kd, rfl, hk, R, k0, k1⟩ := h
    have en : (("name" : String) : Str) = S (ascii "name") := S_of "name"
    refine ⟨_, rfl, rfl, _, rfl, ?_⟩
    rw [en, S_dec]
    rcases hk with ⟨rfl, rfl⟩ | ⟨rg, rfl, hm⟩
    · rw [decide_eq_true rfl]
      refine iteT ⟨_, rfl, r, t, rfl, R, fun e H' f => k0 (by show (nameP t).map _ = none; rw [nameP_none e]; rfl) _ f, fun x q e hx H' R' f => ?_⟩
      subst e
      exact k1 (.name x, q) (by show (nameP (x :: q)).map _ = _; rw [nameP_of hx]; rfl) _ R' f
    · rw [decide_eq_false (kinds_ne hm)]
      obtain ⟨lo, hi⟩ := rg
      obtain ⟨b, hD, hT⟩ := ranges g hm
      refine iteF ⟨_, rfl, _, _, _, rfl, rfl, hD, ?_⟩
      refine ⟨_, rfl, _, rfl, b, _, _, _, rfl, rfl, hT _, atI_nat (j := 0) rfl, _, rfl, b, _, _, _, rfl, rfl, hT _, atI_nat (j := 1) rfl, r, t, lo, hi, rfl, R, fun e H' f => k0 ?_ _ f, fun x q n e hx H' R' f => ?_⟩
      · show (numP lo hi t).map _ = none
        rw [numP_none e]; rfl
      · subst e
        exact k1 (.num n, q) (by show (numP lo hi (x :: q)).map _ = _; rw [numP_of hx]; rfl) _ R' f
end
end Hw
end

/-! ## part P6 -/
section
set_option Elab.async false
set_option linter.all false
set_option maxRecDepth 100000
set_option maxHeartbeats 2000000
namespace Hw
open PySem PySem.Spec PyProof.Rows L2
open Hr01 (Bytes Words Term Sum Cond ascii isName num? term? digit small sum? parted Cmd Rule)
section
variable {P : Program} {w : World} {K : PySem.W.Frag} {mg : Str → Option Value} {base : Heap}
/-! take_rule -/
/-- the six arguments of a rule -/
def RuleArgs (H : Hp) (vs : List V) (r : Rule) : Prop := r.held = 0 ∧ ∃ vc va, vs = [vS r.name, .int (r.rank : Nat), .int (r.after : Nat), vc, vS r.thing, va] ∧ CondAt H 20 vc r.cond ∧ SumAt H va r.value
def sp_take_rule (K : PySem.W.Frag) (wl : Addr) : Sp := fun vs H Q E => ∃ (r : Addr) (t : Words), vs = [.ref r] ∧ RdAt K wl H r t ∧
  (ruleP t = none → ∀ H', Fr (At r) H H' → E (cNo K) none H') ∧ ∀ x, ruleP t = some x → ∀ H' p vs, RdAt K wl H' r x.2 → Fr (At r) H H' → H p = none → H' p = some (.lst vs) → RuleArgs H' vs x.1 → Q (.ref p) H'
theorem sc_take_rule : FnScope ["reader", "name", "rank", "delay", "condition", "thing"] ["reader"] (defScope s_take_rule) := ⟨rfl, rfl, rfl, by decide +kernel, rfl, by decide +kernel, by decide +kernel⟩
theorem RdAt.not {K : PySem.W.Frag} {wl : Addr} {H : Hp} {r : Addr} {t : Words} (R : RdAt K wl H r t) {m : Str} (h1 : (m == ("words" : Str)) = false) (h2 : (m == ("place" : Str)) = false) : ∃ dx fs, H r = some (.ins (cReader K) dx fs) ∧ fs.lookup m = none := by
  obtain ⟨dx, ws, i, q1, _⟩ := R
  exact ⟨dx, _, q1, rd_no wl i h1 h2⟩
theorem ok_take_rule (g : Good w K mg) (wl : Addr) : FnOk P w K mg base (L2.CX P w) 33 (He.ga K "take_rule") (fdA K (He.ga K "take_rule")) ["reader"] (sp_take_rule K wl) := by
  refine (F_take_rule g).ok sc_take_rule (fun vs H Q E h => ?_) (fun cdv A outer s H vs Q E hr h => ⟨_, (pss_cons (ps_set (i := 1) sc_take_rule.nd rfl (Or.inl rfl) (pe_call (ok_take_name g wl) (hr.mono (by decide)) rfl (m_take_name g) (F_take_name g).kp (b_take_name g) .nil (passes_call (takes_of rfl rfl rfl rfl) (fun _ _ _ _ e => e)) (pa_cons (pv 0) pa_nil))) (pss_cons (ps_set (i := 2) sc_take_rule.nd rfl (Or.inl rfl) (pe_call (ok_take_argument g wl) (hr.mono (by decide)) rfl (m_take_argument g) (F_take_argument g).kp (b_take_argument g) .nil (passes_call (takes_of rfl rfl rfl rfl) (fun _ _ _ _ e => e)) (pa_cons (pv 0) (pa_cons pe_str pa_nil)))) (pss_cons (ps_expr (pe_meth (pv 0) (cl_Reader g) (me_Reader_expect g) (ok_Reader_expect g wl) (hr.mono (by decide)) (b_Reader_expect g) .nil (passes_call (takes_of rfl rfl rfl rfl) (fun _ _ _ _ e => e)) (pa_cons pe_str pa_nil))) (pss_cons (ps_set (i := 3) sc_take_rule.nd rfl (Or.inl rfl) (pe_call (ok_take_argument g wl) (hr.mono (by decide)) rfl (m_take_argument g) (F_take_argument g).kp (b_take_argument g) .nil (passes_call (takes_of rfl rfl rfl rfl) (fun _ _ _ _ e => e)) (pa_cons (pv 0) (pa_cons pe_str pa_nil)))) (pss_cons (ps_expr (pe_meth (pv 0) (cl_Reader g) (me_Reader_expect g) (ok_Reader_expect g wl) (hr.mono (by decide)) (b_Reader_expect g) .nil (passes_call (takes_of rfl rfl rfl rfl) (fun _ _ _ _ e => e)) (pa_cons pe_str pa_nil))) (pss_cons (ps_set (i := 4) sc_take_rule.nd rfl (Or.inl rfl) (pe_call (ok_read_condition g wl) (hr.mono (by decide)) rfl (m_read_condition g) (F_read_condition g).kp (b_read_condition g) .nil (passes_call (takes_of rfl rfl rfl rfl) (fun _ _ _ _ e => e)) (pa_cons (pv 0) (pa_cons pe_int pa_nil)))) (pss_cons (ps_expr (pe_meth (pv 0) (cl_Reader g) (me_Reader_expect g) (ok_Reader_expect g wl) (hr.mono (by decide)) (b_Reader_expect g) .nil (passes_call (takes_of rfl rfl rfl rfl) (fun _ _ _ _ e => e)) (pa_cons pe_str pa_nil))) (pss_cons (ps_set (i := 5) sc_take_rule.nd rfl (Or.inl rfl) (pe_call (ok_take_name g wl) (hr.mono (by decide)) rfl (m_take_name g) (F_take_name g).kp (b_take_name g) .nil (passes_call (takes_of rfl rfl rfl rfl) (fun _ _ _ _ e => e)) (pa_cons (pv 0) pa_nil))) (pss_cons (ps_expr (pe_meth (pv 0) (cl_Reader g) (me_Reader_expect g) (ok_Reader_expect g wl) (hr.mono (by decide)) (b_Reader_expect g) .nil (passes_call (takes_of rfl rfl rfl rfl) (fun _ _ _ _ e => e)) (pa_cons pe_str pa_nil))) (pss_one (ps_ret (pe_lst (pa_cons (pv 1) (pa_cons (pv 2) (pa_cons (pv 3) (pa_cons (pv 4) (pa_cons (pv 5) (pa_cons (pe_call (ok_read_sum g wl) (hr.mono (by decide)) rfl (m_read_sum g) (F_read_sum g).kp (b_read_sum g) .nil (passes_call (takes_of rfl rfl rfl rfl) (fun _ _ _ _ e => e)) (pa_cons (pv 0) pa_nil)) pa_nil)))))))))))))))))), ?_⟩)
  · obtain ⟨r, t, rfl, _⟩ := h; rfl
  · obtain ⟨r, t, rfl, R, k0, k⟩ := h
    unfold ruleP at k0 k
    have w1 : (("rank" : String) : Str) = S (ascii "rank") := S_of "rank"
    have w2 : (("after" : String) : Str) = S (ascii "after") := S_of "after"
    have w3 : (("delay" : String) : Str) = S (ascii "delay") := S_of "delay"
    have w4 : (("if" : String) : Str) = S (ascii "if") := S_of "if"
    have w5 : (("then" : String) : Str) = S (ascii "then") := S_of "then"
    have w6 : (("is" : String) : Str) = S (ascii "is") := S_of "is"
    -- name
    refine ⟨_, rfl, r, t, rfl, R, fun e H' f => k0 (by rw [nameP_none e]; rfl) _ f, fun n t1 e hn H1 R1 f1 => ?_⟩
    subst e
    rw [nameP_of hn] at k0 k
    simp only [Option.bind_some] at k0 k
    -- rank
    refine ⟨_, rfl, r, t1, ascii "rank", some (0, 9), by rw [w1]; rfl, .inr ⟨_, rfl, by decide⟩, R1, fun e H' f => k0 (by rw [Option.map_eq_none_iff.mp (show (numP 0 9 t1).map _ = none from e)]; rfl) _ (f1.trans f), fun x e H2 R2 f2 => ?_⟩
    obtain ⟨⟨p, t2⟩, e2, rfl⟩ := Option.map_eq_some_iff.mp (show (numP 0 9 t1).map _ = some x from e)
    rw [e2] at k0 k
    simp only [Option.bind_some] at k0 k
    -- after
    obtain ⟨d2, fs2, q2, n2⟩ := R2.not (m := "expect") (by decide +kernel) (by decide +kernel)
    refine ⟨_, rfl, r, d2, fs2, rfl, q2, n2, r, t2, ascii "after", by rw [w2]; rfl, R2, by decide, fun z H' f => k0 (by rw [wordP_none z]; rfl) _ ((f1.trans f2).trans f), fun t3 e3 H3 R3 f3 => ?_⟩
    subst e3
    rw [wordP_of] at k0 k
    simp only [Option.bind_some] at k0 k
    -- delay
    refine ⟨_, rfl, r, t3, ascii "delay", some (0, 20), by rw [w3]; rfl, .inr ⟨_, rfl, by decide⟩, R3, fun e H' f => k0 (by rw [Option.map_eq_none_iff.mp (show (numP 0 20 t3).map _ = none from e)]; rfl) _ (((f1.trans f2).trans f3).trans f), fun x e H4 R4 f4 => ?_⟩
    obtain ⟨⟨m, t4⟩, e4, rfl⟩ := Option.map_eq_some_iff.mp (show (numP 0 20 t3).map _ = some x from e)
    rw [e4] at k0 k
    simp only [Option.bind_some] at k0 k
    have F4 := ((f1.trans f2).trans f3).trans f4
    -- if
    obtain ⟨d4, fs4, q4, n4⟩ := R4.not (m := "expect") (by decide +kernel) (by decide +kernel)
    refine ⟨_, rfl, r, d4, fs4, rfl, q4, n4, r, t4, ascii "if", by rw [w4]; rfl, R4, by decide, fun z H' f => k0 (by rw [wordP_none z]; rfl) _ (F4.trans f), fun t5 e5 H5 R5 f5 => ?_⟩
    subst e5
    rw [wordP_of] at k0 k
    simp only [Option.bind_some] at k0 k
    have F5 := F4.trans f5
    -- the condition
    refine ⟨_, rfl, r, t5, 0, rfl, by omega, by omega, R5, fun e H' f => k0 (by rw [e]; rfl) _ (F5.trans f), fun x e H6 v6 R6 f6 C6 => ?_⟩
    rw [e] at k0 k
    simp only [Option.bind_some] at k0 k
    have F6 := F5.trans f6
    -- then
    obtain ⟨d6, fs6, q6, n6⟩ := R6.not (m := "expect") (by decide +kernel) (by decide +kernel)
    refine ⟨_, rfl, r, d6, fs6, rfl, q6, n6, r, x.2, ascii "then", by rw [w5]; rfl, R6, by decide, fun z H' f => k0 (by rw [wordP_none z]; rfl) _ (F6.trans f), fun t7 e7 H7 R7 f7 => ?_⟩
    rw [e7, wordP_of] at k0 k
    simp only [Option.bind_some] at k0 k
    have F7 := F6.trans f7
    -- the thing
    refine ⟨_, rfl, r, t7, rfl, R7, fun e H' f => k0 (by rw [nameP_none e]; rfl) _ (F7.trans f), fun th t8 e8 hth H8 R8 f8 => ?_⟩
    subst e8
    rw [nameP_of hth] at k0 k
    simp only [Option.bind_some] at k0 k
    have F8 := F7.trans f8
    -- is
    obtain ⟨d8, fs8, q8, n8⟩ := R8.not (m := "expect") (by decide +kernel) (by decide +kernel)
    refine ⟨_, rfl, r, d8, fs8, rfl, q8, n8, r, t8, ascii "is", by rw [w6]; rfl, R8, by decide, fun z H' f => k0 (by rw [wordP_none z]; rfl) _ (F8.trans f), fun t9 e9 H9 R9 f9 => ?_⟩
    subst e9
    rw [wordP_of] at k0 k
    simp only [Option.bind_some] at k0 k
    have F9 := F8.trans f9
    -- the sum
    refine ⟨_, rfl, _, rfl, _, rfl, _, rfl, _, rfl, _, rfl, r, t9, rfl, R9, fun e H' f => k0 (by rw [e]; rfl) _ (F9.trans f), fun y ey H10 v10 R10 f10 S10 => ⟨by show 6 ≤ sizeLine; decide, fun l hl => ?_⟩⟩
    rw [ey] at k
    simp only [Option.bind_some] at k
    have tu : Tups H6 H10 := ((R6.tups f7).trans (R7.tups f8)).trans ((R8.tups f9).trans (R9.tups f10))
    have sm := same_new (o := HO.lst [vS n, .int (p : Nat), .int (m : Nat), v6, vS th, v10]) hl
    refine k _ rfl _ l _ (R10.same sm) ((F9.trans f10).trans (Fr.new hl)) (free_back R10 (F9.trans f10) hl) upd_same ⟨rfl, v6, v10, rfl, (C6.keep tu).keep (Tups.of_same sm), S10.keep (Tups.of_same sm)⟩
end
end Hw
end

/-! ## part P7 -/
section
set_option Elab.async false
set_option linter.all false
set_option maxRecDepth 100000
set_option maxHeartbeats 2000000
namespace Hw
open PySem PySem.Spec PyProof.Rows L2
open Hr01 (Bytes Words Term Sum Cond ascii isName num? term? digit small sum? parted Cmd Rule cmd?)
/-! ### what the arguments of a command are -/
abbrev Out := _root_.Sum (List Arg) Rule
def outP (x : Bytes) (t : Words) : Option (Out × Words) := if x = ascii "rule" then (ruleP t).map fun y => (.inr y.1, y.2) else match FORMSL.lookup x with
  | none => none
  | some ks => (argsP ks t).map fun y => (.inl y.1, y.2)
def outCmd (x : Bytes) : Out → Option Cmd
  | .inl as => cmdOf x as
  | .inr r => some (.rule r)
def OutAt (H : Hp) (vs : List V) : Out → Prop
  | .inl as => vs = as.map argV
  | .inr r => RuleArgs H vs r
theorem lookup_mem {α : Type} {x : Bytes} {v : α} : ∀ {l : List (Bytes × α)}, l.lookup x = some v → (x, v) ∈ l
  | [], h => by cases h
  | (k, y) :: r, h => by
    rw [List.lookup_cons] at h
    cases e : (x == k) with
    | true =>
      rw [e] at h
      have : y = v := Option.some.inj h
      rw [eq_of_beq e, this]; exact List.mem_cons_self ..
    | false =>
      rw [e] at h
      exact List.mem_cons_of_mem _ (lookup_mem h)
theorem lookup_none {α : Type} {x : Bytes} : ∀ {l : List (Bytes × α)}, l.lookup x = none → x ∉ l.map (·.1)
  | [], _ => by simp
  | (k, y) :: r, h => by
    rw [List.lookup_cons] at h
    cases e : (x == k) with
    | true => rw [e] at h; cases h
    | false =>
      rw [e] at h
      have := lookup_none h
      rw [List.map_cons, List.mem_cons, not_or]
      exact ⟨fun z => (by rw [z, beq_self_eq_true] at e; cases e), this⟩
theorem cmd_forms {x : Bytes} {ks : List Kind} (h : (x, ks) ∈ FORMSL) (t : Words) : cmd? (x :: t) = (argsP ks t).bind fun y => if y.2 = [] then cmdOf x y.1 else none := by
  simp only [FORMSL, List.mem_cons, Prod.mk.injEq, List.not_mem_nil, or_false] at h
  rcases h with ⟨rfl, rfl⟩ | ⟨rfl, rfl⟩ | ⟨rfl, rfl⟩ | ⟨rfl, rfl⟩ | ⟨rfl, rfl⟩ | ⟨rfl, rfl⟩ | ⟨rfl, rfl⟩ | ⟨rfl, rfl⟩ | ⟨rfl, rfl⟩ | ⟨rfl, rfl⟩ | ⟨rfl, rfl⟩ | ⟨rfl, rfl⟩ | ⟨rfl, rfl⟩ | ⟨rfl, rfl⟩ | ⟨rfl, rfl⟩ | ⟨rfl, rfl⟩ | ⟨rfl, rfl⟩ | ⟨rfl, rfl⟩
  · exact cmd_sensor t
  · exact cmd_thing t
  · exact cmd_set t
  · exact cmd_deaf t
  · exact cmd_hears t
  · exact cmd_hand t
  · exact cmd_hold t
  · exact cmd_free t
  · exact cmd_drop t
  · exact cmd_tick t
  · exact cmd_state t
  · exact cmd_was t
  · exact cmd_list t
  · exact cmd_why t
  · exact cmd_whynot t
  · exact cmd_rings t
  · exact cmd_rest t
  · exact cmd_try t
theorem cmd_out (x : Bytes) (t : Words) : cmd? (x :: t) = (outP x t).bind fun y => if y.2 = [] then outCmd x y.1 else none := by
  unfold outP
  by_cases c : x = ascii "rule"
  · rw [if_pos c, c, cmd_rule]
    cases ruleP t <;> rfl
  · rw [if_neg c]
    cases e : FORMSL.lookup x with
    | none => rw [cmd_other (lookup_none e) c]; rfl
    | some ks =>
      rw [cmd_forms (lookup_mem e)]
      show _ = ((argsP ks t).map fun y => ((.inl y.1 : Out), y.2)).bind _
      cases argsP ks t <;> rfl
/-! ### .. and that they make one -/
def fits : List Kind → List Arg → Bool
  | [], [] => true
  | none :: ks, .name _ :: as => fits ks as
  | some _ :: ks, .num _ :: as => fits ks as
  | _, _ => false
theorem argsP_fits : ∀ {ks : List Kind} {t : Words} {y : List Arg × Words}, argsP ks t = some y → fits ks y.1 = true
  | [], t, y, h => by cases h; rfl
  | k :: ks, t, y, h => by
    unfold argsP at h
    obtain ⟨x, hx, h2⟩ := Option.bind_eq_some_iff.mp h
    obtain ⟨z, hz, rfl⟩ := Option.map_eq_some_iff.mp h2
    have ih := argsP_fits hz
    cases k with
    | none =>
      obtain ⟨n, hn, rfl⟩ := Option.map_eq_some_iff.mp (show (nameP t).map _ = some x from hx)
      exact ih
    | some r =>
      obtain ⟨n, hn, rfl⟩ := Option.map_eq_some_iff.mp (show (numP r.1 r.2 t).map _ = some x from hx)
      exact ih
theorem fit0 {as : List Arg} (h : fits [] as = true) : as = [] := by
  cases as with
  | nil => rfl
  | cons a r => cases h
theorem fitN {ks : List Kind} {as : List Arg} (h : fits (none :: ks) as = true) : ∃ a r, as = .name a :: r ∧ fits ks r = true := by
  cases as with
  | nil => cases h
  | cons a r =>
    cases a with
    | name x => exact ⟨x, r, rfl, h⟩
    | num n => cases h
theorem fitV {ks : List Kind} {q : Nat × Nat} {as : List Arg} (h : fits (some q :: ks) as = true) : ∃ a r, as = .num a :: r ∧ fits ks r = true := by
  cases as with
  | nil => cases h
  | cons a r =>
    cases a with
    | name x => cases h
    | num n => exact ⟨n, r, rfl, h⟩
theorem forms_cmd {x : Bytes} {ks : List Kind} (h : (x, ks) ∈ FORMSL) {as : List Arg} (f0 : fits ks as = true) : ∃ c, cmdOf x as = some c := by
  simp only [FORMSL, List.mem_cons, Prod.mk.injEq, List.not_mem_nil, or_false] at h
  rcases h with ⟨rfl, rfl⟩ | ⟨rfl, rfl⟩ | ⟨rfl, rfl⟩ | ⟨rfl, rfl⟩ | ⟨rfl, rfl⟩ | ⟨rfl, rfl⟩ | ⟨rfl, rfl⟩ | ⟨rfl, rfl⟩ | ⟨rfl, rfl⟩ | ⟨rfl, rfl⟩ | ⟨rfl, rfl⟩ | ⟨rfl, rfl⟩ | ⟨rfl, rfl⟩ | ⟨rfl, rfl⟩ | ⟨rfl, rfl⟩ | ⟨rfl, rfl⟩ | ⟨rfl, rfl⟩ | ⟨rfl, rfl⟩
  · obtain ⟨y0, r0, rfl, f1⟩ := fitN f0; obtain ⟨y1, r1, rfl, f2⟩ := fitV f1; cases fit0 f2; exact ⟨_, rfl⟩
  · obtain ⟨y0, r0, rfl, f1⟩ := fitN f0; obtain ⟨y1, r1, rfl, f2⟩ := fitV f1; cases fit0 f2; exact ⟨_, rfl⟩
  · obtain ⟨y0, r0, rfl, f1⟩ := fitN f0; obtain ⟨y1, r1, rfl, f2⟩ := fitV f1; cases fit0 f2; exact ⟨_, rfl⟩
  · obtain ⟨y0, r0, rfl, f1⟩ := fitN f0; cases fit0 f1; exact ⟨_, rfl⟩
  · obtain ⟨y0, r0, rfl, f1⟩ := fitN f0; cases fit0 f1; exact ⟨_, rfl⟩
  · obtain ⟨y0, r0, rfl, f1⟩ := fitN f0; obtain ⟨y1, r1, rfl, f2⟩ := fitV f1; cases fit0 f2; exact ⟨_, rfl⟩
  · obtain ⟨y0, r0, rfl, f1⟩ := fitN f0; obtain ⟨y1, r1, rfl, f2⟩ := fitV f1; obtain ⟨y2, r2, rfl, f3⟩ := fitV f2; obtain ⟨y3, r3, rfl, f4⟩ := fitV f3; cases fit0 f4; exact ⟨_, rfl⟩
  · obtain ⟨y0, r0, rfl, f1⟩ := fitN f0; cases fit0 f1; exact ⟨_, rfl⟩
  · obtain ⟨y0, r0, rfl, f1⟩ := fitN f0; cases fit0 f1; exact ⟨_, rfl⟩
  · obtain ⟨y0, r0, rfl, f1⟩ := fitV f0; cases fit0 f1; exact ⟨_, rfl⟩
  · cases fit0 f0; exact ⟨_, rfl⟩
  · obtain ⟨y0, r0, rfl, f1⟩ := fitN f0; obtain ⟨y1, r1, rfl, f2⟩ := fitV f1; cases fit0 f2; exact ⟨_, rfl⟩
  · cases fit0 f0; exact ⟨_, rfl⟩
  · obtain ⟨y0, r0, rfl, f1⟩ := fitN f0; cases fit0 f1; exact ⟨_, rfl⟩
  · obtain ⟨y0, r0, rfl, f1⟩ := fitN f0; cases fit0 f1; exact ⟨_, rfl⟩
  · cases fit0 f0; exact ⟨_, rfl⟩
  · cases fit0 f0; exact ⟨_, rfl⟩
  · obtain ⟨y0, r0, rfl, f1⟩ := fitN f0; obtain ⟨y1, r1, rfl, f2⟩ := fitV f1; obtain ⟨y2, r2, rfl, f3⟩ := fitV f2; cases fit0 f3; exact ⟨_, rfl⟩
section
variable {P : Program} {w : World} {K : PySem.W.Frag} {mg : Str → Option Value} {base : Heap}
theorem forms (g : Good w K mg) {x : Bytes} {ks : List Kind} (h : (x, ks) ∈ FORMSL) : ∃ b kws, KDct K w (He.ga K "FORMS") (S x) (.ref b) ∧ (∀ H : Hp, SqT K H b (kws.map vS)) ∧ Paired KindIs kws ks := by
  have T := g.tab 3 rfl
  simp only [FORMSL, List.mem_cons, Prod.mk.injEq, List.not_mem_nil, or_false] at h
  rcases h with ⟨rfl, rfl⟩ | ⟨rfl, rfl⟩ | ⟨rfl, rfl⟩ | ⟨rfl, rfl⟩ | ⟨rfl, rfl⟩ | ⟨rfl, rfl⟩ | ⟨rfl, rfl⟩ | ⟨rfl, rfl⟩ | ⟨rfl, rfl⟩ | ⟨rfl, rfl⟩ | ⟨rfl, rfl⟩ | ⟨rfl, rfl⟩ | ⟨rfl, rfl⟩ | ⟨rfl, rfl⟩ | ⟨rfl, rfl⟩ | ⟨rfl, rfl⟩ | ⟨rfl, rfl⟩ | ⟨rfl, rfl⟩
  · obtain ⟨h1, h2⟩ := dtB_ok (g.x 10 (b := dtB K "FORMS" "sensor" [.str "name", .str "value"]) rfl)
    refine ⟨_, [ascii "name", ascii "value"], by rw [← S_of]; exact kdct_of T h1, fun H => ?_, (.cons (.inl ⟨rfl, rfl⟩) (.cons (.inr ⟨_, rfl, by decide⟩) .nil))⟩
    have e : ([V.str (Str.ofString "name"), V.str (Str.ofString "value")] : List V) = [V.str (S (ascii "name")), V.str (S (ascii "value"))] := by rw [S_of, S_of]
    show SqT K H _ [V.str (S (ascii "name")), V.str (S (ascii "value"))]
    rw [← e]
    exact h2 H
  · obtain ⟨h1, h2⟩ := dtB_ok (g.x 11 (b := dtB K "FORMS" "thing" [.str "name", .str "value"]) rfl)
    refine ⟨_, [ascii "name", ascii "value"], by rw [← S_of]; exact kdct_of T h1, fun H => ?_, (.cons (.inl ⟨rfl, rfl⟩) (.cons (.inr ⟨_, rfl, by decide⟩) .nil))⟩
    have e : ([V.str (Str.ofString "name"), V.str (Str.ofString "value")] : List V) = [V.str (S (ascii "name")), V.str (S (ascii "value"))] := by rw [S_of, S_of]
    show SqT K H _ [V.str (S (ascii "name")), V.str (S (ascii "value"))]
    rw [← e]
    exact h2 H
  · obtain ⟨h1, h2⟩ := dtB_ok (g.x 12 (b := dtB K "FORMS" "set" [.str "name", .str "value"]) rfl)
    refine ⟨_, [ascii "name", ascii "value"], by rw [← S_of]; exact kdct_of T h1, fun H => ?_, (.cons (.inl ⟨rfl, rfl⟩) (.cons (.inr ⟨_, rfl, by decide⟩) .nil))⟩
    have e : ([V.str (Str.ofString "name"), V.str (Str.ofString "value")] : List V) = [V.str (S (ascii "name")), V.str (S (ascii "value"))] := by rw [S_of, S_of]
    show SqT K H _ [V.str (S (ascii "name")), V.str (S (ascii "value"))]
    rw [← e]
    exact h2 H
  · obtain ⟨h1, h2⟩ := dtB_ok (g.x 13 (b := dtB K "FORMS" "deaf" [.str "name"]) rfl)
    refine ⟨_, [ascii "name"], by rw [← S_of]; exact kdct_of T h1, fun H => ?_, (.cons (.inl ⟨rfl, rfl⟩) .nil)⟩
    have e : ([V.str (Str.ofString "name")] : List V) = [V.str (S (ascii "name"))] := by rw [S_of]
    show SqT K H _ [V.str (S (ascii "name"))]
    rw [← e]
    exact h2 H
  · obtain ⟨h1, h2⟩ := dtB_ok (g.x 14 (b := dtB K "FORMS" "hears" [.str "name"]) rfl)
    refine ⟨_, [ascii "name"], by rw [← S_of]; exact kdct_of T h1, fun H => ?_, (.cons (.inl ⟨rfl, rfl⟩) .nil)⟩
    have e : ([V.str (Str.ofString "name")] : List V) = [V.str (S (ascii "name"))] := by rw [S_of]
    show SqT K H _ [V.str (S (ascii "name"))]
    rw [← e]
    exact h2 H
  · obtain ⟨h1, h2⟩ := dtB_ok (g.x 15 (b := dtB K "FORMS" "hand" [.str "name", .str "value"]) rfl)
    refine ⟨_, [ascii "name", ascii "value"], by rw [← S_of]; exact kdct_of T h1, fun H => ?_, (.cons (.inl ⟨rfl, rfl⟩) (.cons (.inr ⟨_, rfl, by decide⟩) .nil))⟩
    have e : ([V.str (Str.ofString "name"), V.str (Str.ofString "value")] : List V) = [V.str (S (ascii "name")), V.str (S (ascii "value"))] := by rw [S_of, S_of]
    show SqT K H _ [V.str (S (ascii "name")), V.str (S (ascii "value"))]
    rw [← e]
    exact h2 H
  · obtain ⟨h1, h2⟩ := dtB_ok (g.x 16 (b := dtB K "FORMS" "hold" [.str "name", .str "value", .str "rank", .str "length"]) rfl)
    refine ⟨_, [ascii "name", ascii "value", ascii "rank", ascii "length"], by rw [← S_of]; exact kdct_of T h1, fun H => ?_, (.cons (.inl ⟨rfl, rfl⟩) (.cons (.inr ⟨_, rfl, by decide⟩) (.cons (.inr ⟨_, rfl, by decide⟩) (.cons (.inr ⟨_, rfl, by decide⟩) .nil))))⟩
    have e : ([V.str (Str.ofString "name"), V.str (Str.ofString "value"), V.str (Str.ofString "rank"), V.str (Str.ofString "length")] : List V) = [V.str (S (ascii "name")), V.str (S (ascii "value")), V.str (S (ascii "rank")), V.str (S (ascii "length"))] := by rw [S_of, S_of, S_of, S_of]
    show SqT K H _ [V.str (S (ascii "name")), V.str (S (ascii "value")), V.str (S (ascii "rank")), V.str (S (ascii "length"))]
    rw [← e]
    exact h2 H
  · obtain ⟨h1, h2⟩ := dtB_ok (g.x 17 (b := dtB K "FORMS" "free" [.str "name"]) rfl)
    refine ⟨_, [ascii "name"], by rw [← S_of]; exact kdct_of T h1, fun H => ?_, (.cons (.inl ⟨rfl, rfl⟩) .nil)⟩
    have e : ([V.str (Str.ofString "name")] : List V) = [V.str (S (ascii "name"))] := by rw [S_of]
    show SqT K H _ [V.str (S (ascii "name"))]
    rw [← e]
    exact h2 H
  · obtain ⟨h1, h2⟩ := dtB_ok (g.x 18 (b := dtB K "FORMS" "drop" [.str "name"]) rfl)
    refine ⟨_, [ascii "name"], by rw [← S_of]; exact kdct_of T h1, fun H => ?_, (.cons (.inl ⟨rfl, rfl⟩) .nil)⟩
    have e : ([V.str (Str.ofString "name")] : List V) = [V.str (S (ascii "name"))] := by rw [S_of]
    show SqT K H _ [V.str (S (ascii "name"))]
    rw [← e]
    exact h2 H
  · obtain ⟨h1, h2⟩ := dtB_ok (g.x 19 (b := dtB K "FORMS" "tick" [.str "minutes"]) rfl)
    refine ⟨_, [ascii "minutes"], by rw [← S_of]; exact kdct_of T h1, fun H => ?_, (.cons (.inr ⟨_, rfl, by decide⟩) .nil)⟩
    have e : ([V.str (Str.ofString "minutes")] : List V) = [V.str (S (ascii "minutes"))] := by rw [S_of]
    show SqT K H _ [V.str (S (ascii "minutes"))]
    rw [← e]
    exact h2 H
  · obtain ⟨h1, h2⟩ := dtB_ok (g.x 20 (b := dtB K "FORMS" "state" []) rfl)
    refine ⟨_, [], by rw [← S_of]; exact kdct_of T h1, fun H => ?_, .nil⟩
    have e : ([] : List V) = [] := by rfl
    show SqT K H _ []
    rw [← e]
    exact h2 H
  · obtain ⟨h1, h2⟩ := dtB_ok (g.x 21 (b := dtB K "FORMS" "was" [.str "name", .str "minute"]) rfl)
    refine ⟨_, [ascii "name", ascii "minute"], by rw [← S_of]; exact kdct_of T h1, fun H => ?_, (.cons (.inl ⟨rfl, rfl⟩) (.cons (.inr ⟨_, rfl, by decide⟩) .nil))⟩
    have e : ([V.str (Str.ofString "name"), V.str (Str.ofString "minute")] : List V) = [V.str (S (ascii "name")), V.str (S (ascii "minute"))] := by rw [S_of, S_of]
    show SqT K H _ [V.str (S (ascii "name")), V.str (S (ascii "minute"))]
    rw [← e]
    exact h2 H
  · obtain ⟨h1, h2⟩ := dtB_ok (g.x 22 (b := dtB K "FORMS" "list" []) rfl)
    refine ⟨_, [], by rw [← S_of]; exact kdct_of T h1, fun H => ?_, .nil⟩
    have e : ([] : List V) = [] := by rfl
    show SqT K H _ []
    rw [← e]
    exact h2 H
  · obtain ⟨h1, h2⟩ := dtB_ok (g.x 23 (b := dtB K "FORMS" "why" [.str "name"]) rfl)
    refine ⟨_, [ascii "name"], by rw [← S_of]; exact kdct_of T h1, fun H => ?_, (.cons (.inl ⟨rfl, rfl⟩) .nil)⟩
    have e : ([V.str (Str.ofString "name")] : List V) = [V.str (S (ascii "name"))] := by rw [S_of]
    show SqT K H _ [V.str (S (ascii "name"))]
    rw [← e]
    exact h2 H
  · obtain ⟨h1, h2⟩ := dtB_ok (g.x 24 (b := dtB K "FORMS" "whynot" [.str "name"]) rfl)
    refine ⟨_, [ascii "name"], by rw [← S_of]; exact kdct_of T h1, fun H => ?_, (.cons (.inl ⟨rfl, rfl⟩) .nil)⟩
    have e : ([V.str (Str.ofString "name")] : List V) = [V.str (S (ascii "name"))] := by rw [S_of]
    show SqT K H _ [V.str (S (ascii "name"))]
    rw [← e]
    exact h2 H
  · obtain ⟨h1, h2⟩ := dtB_ok (g.x 25 (b := dtB K "FORMS" "rings" []) rfl)
    refine ⟨_, [], by rw [← S_of]; exact kdct_of T h1, fun H => ?_, .nil⟩
    have e : ([] : List V) = [] := by rfl
    show SqT K H _ []
    rw [← e]
    exact h2 H
  · obtain ⟨h1, h2⟩ := dtB_ok (g.x 26 (b := dtB K "FORMS" "rest" []) rfl)
    refine ⟨_, [], by rw [← S_of]; exact kdct_of T h1, fun H => ?_, .nil⟩
    have e : ([] : List V) = [] := by rfl
    show SqT K H _ []
    rw [← e]
    exact h2 H
  · obtain ⟨h1, h2⟩ := dtB_ok (g.x 27 (b := dtB K "FORMS" "try" [.str "name", .str "value", .str "ahead"]) rfl)
    refine ⟨_, [ascii "name", ascii "value", ascii "ahead"], by rw [← S_of]; exact kdct_of T h1, fun H => ?_, (.cons (.inl ⟨rfl, rfl⟩) (.cons (.inr ⟨_, rfl, by decide⟩) (.cons (.inr ⟨_, rfl, by decide⟩) .nil)))⟩
    have e : ([V.str (Str.ofString "name"), V.str (Str.ofString "value"), V.str (Str.ofString "ahead")] : List V) = [V.str (S (ascii "name")), V.str (S (ascii "value")), V.str (S (ascii "ahead"))] := by rw [S_of, S_of, S_of]
    show SqT K H _ [V.str (S (ascii "name")), V.str (S (ascii "value")), V.str (S (ascii "ahead"))]
    rw [← e]
    exact h2 H
def FKEYS : List Str := ["sensor", "thing", "set", "deaf", "hears", "hand", "hold", "free", "drop", "tick", "state", "was", "list", "why", "whynot", "rings", "rest", "try"]
theorem FKEYS_eq : FKEYS = (FORMSL.map (·.1)).map S := by
  show [Str.ofString "sensor", Str.ofString "thing", Str.ofString "set", Str.ofString "deaf", Str.ofString "hears", Str.ofString "hand", Str.ofString "hold", Str.ofString "free", Str.ofString "drop", Str.ofString "tick", Str.ofString "state", Str.ofString "was", Str.ofString "list", Str.ofString "why", Str.ofString "whynot", Str.ofString "rings", Str.ofString "rest", Str.ofString "try"] = [S (ascii "sensor"), S (ascii "thing"), S (ascii "set"), S (ascii "deaf"), S (ascii "hears"), S (ascii "hand"), S (ascii "hold"), S (ascii "free"), S (ascii "drop"), S (ascii "tick"), S (ascii "state"), S (ascii "was"), S (ascii "list"), S (ascii "why"), S (ascii "whynot"), S (ascii "rings"), S (ascii "rest"), S (ascii "try")]
  rw [S_of, S_of, S_of, S_of, S_of, S_of, S_of, S_of, S_of, S_of, S_of, S_of, S_of, S_of, S_of, S_of, S_of, S_of]
/-! take_arguments -/
def sp_take_arguments (K : PySem.W.Frag) (wl : Addr) : Sp := fun vs H Q E => ∃ (r : Addr) (t : Words) (x : Bytes), vs = [.ref r, vS x] ∧ RdAt K wl H r t ∧
  (outP x t = none → ∀ H', Fr (At r) H H' → E (cNo K) none H') ∧ ∀ y, outP x t = some y → ∀ H' p vs, RdAt K wl H' r y.2 → Fr (At r) H H' → H p = none → H' p = some (.lst vs) → OutAt H' vs y.1 → Q (.ref p) H'
theorem sc_take_arguments : FnScope ["reader", "word", "kind"] ["reader", "word"] (defScope s_take_arguments) := ⟨rfl, rfl, rfl, by decide +kernel, rfl, by decide +kernel, by decide +kernel⟩
theorem ok_take_arguments (g : Good w K mg) (wl : Addr) : FnOk P w K mg base (L2.CX P w) 34 (He.ga K "take_arguments") (fdA K (He.ga K "take_arguments")) ["reader", "word"] (sp_take_arguments K wl) := by
  have T : He.dicW K (He.ga K "FORMS") = some (He.keysIn w.params FKEYS) := g.tab 3 rfl
  obtain ⟨es, n, D⟩ := He.dicW_ok T
  refine (F_take_arguments g).ok sc_take_arguments (fun vs H Q E h => ?_) (fun cdv A outer s H vs Q E hr h => ⟨_, (pss_cons (ps_if (pt_cmpR op_eq (pv 1) pe_str (nomark _)) (pss_one (ps_ret (pe_call (ok_take_rule g wl) (hr.mono (by decide)) rfl (m_take_rule g) (F_take_rule g).kp (b_take_rule g) .nil (passes_call (takes_of rfl rfl rfl rfl) (fun _ _ _ _ e => e)) (pa_cons (pv 0) pa_nil)))) pss_nil) (pss_cons (ps_if (pt_cmpR (op_notIn_kd D) (pv 1) (pe_gR rfl (m_FORMS g)) rfl) (pss_one (ps_raise rfl (takes_of rfl rfl rfl rfl) (pmk_own0 PySem.F.excBase_Exception (xc_NoForm g) (m_NoForm g) (kp_NoForm g) (raises_own (sb_NoForm g) (ty_NoForm g)) rfl))) pss_nil) (pss_one (ps_ret (pe_lcX (own := [("kind", 2)]) (takes_of rfl rfl rfl rfl) (fun _ _ _ _ e => e) rfl rfl rfl sc_take_arguments.nd (pi_tup (pe_ix ix_kdict (pe_gR rfl (m_FORMS g)) (pv 1) (fun _ _ => rfl))) (blkOk_by (own := [("kind", 2)]) (N := ["reader", "word", "kind"]) (sc := defScope s_take_arguments) (by decide +kernel)) (fun _ _ _ _ _ => pg_name (i := 2) sc_take_arguments.nd rfl (Or.inl rfl)) (fun _ _ _ _ _ xe hp => pe_call (ok_take_argument g wl) (hr.mono (by decide)) rfl (m_take_argument g) (F_take_argument g).kp (b_take_argument g) .nil hp (pa_cons (pv 0) (pa_cons (pv 2) pa_nil)))))))), ?_⟩)
  · obtain ⟨r, t, x, rfl, _⟩ := h; rfl
  · obtain ⟨r, t, x, rfl, R, k0, k⟩ := h
    obtain ⟨_, _, _, _, hwl, _⟩ := id R
    have e1 : (("rule" : String) : Str) = S (ascii "rule") := S_of "rule"
    refine ⟨_, rfl, rfl, _, rfl, ?_⟩
    rw [e1, S_dec]
    unfold outP at k0 k
    by_cases c : x = ascii "rule"
    · rw [decide_eq_true c]
      rw [if_pos c] at k0 k
      refine iteT ⟨_, rfl, r, t, rfl, R, fun e H' f => k0 (by rw [e]; rfl) _ f, fun y e H' p vs R' f np hp ra => ?_⟩
      exact k (.inr y.1, y.2) (by rw [e]; rfl) _ p vs R' f np hp ra
    · rw [decide_eq_false c]
      rw [if_neg c] at k0 k
      refine iteF ?_
      cases e : FORMSL.lookup x with
      | none =>
        rw [e] at k0
        have hz : S x ∉ FKEYS := fun z => by
          rw [FKEYS_eq] at z
          obtain ⟨y, hy, ey⟩ := List.mem_map.mp z
          exact lookup_none e (by rw [← S_inj ey]; exact hy)
        refine ⟨_, rfl, _, none, rfl, rfl, tab_none T hz, _, rfl, ?_⟩
        exact iteT (k0 rfl _ Fr.refl)
      | some ks =>
        rw [e] at k0 k
        dsimp only at k0 k
        obtain ⟨b, kws, hD, hT, hK⟩ := forms g (lookup_mem e)
        obtain ⟨es', n', u', q1, q2, q3, q4⟩ := id hD
        refine ⟨_, rfl, _, some u', rfl, rfl, q3, _, rfl, ?_⟩
        refine iteF ⟨_, rfl, _, _, _, rfl, rfl, hD, b, rfl, ⟨_, hT _⟩, fun L hL => ?_⟩
        refine lc_tup (K := K) (a := b) (xs := kws.map vS) (fun i H' => ∃ as t', RdAt K wl H' r t' ∧ Fr (At r) H H' ∧ H' L = some (.lst (as.map argV)) ∧ as.length = i ∧ argsP ks t = (argsP (ks.drop i) t').map fun y => (as ++ y.1, y.2))
          ⟨[], t, R.same (same_new hL), Fr.new hL, upd_same, rfl, by rw [List.drop_zero]; cases argsP ks t <;> rfl⟩ (fun i H' _ _ => hT H') ?_ ?_
        · rintro i y H' hi ⟨as, t', R', f', hL', hlen, hA⟩
          rw [List.getElem?_map] at hi
          obtain ⟨kw, hkw, rfl⟩ := Option.map_eq_some_iff.mp hi
          obtain ⟨kd, hkd, hki⟩ := paired_get hK hkw
          have hlt : i < ks.length := (List.getElem?_eq_some_iff.mp hkd).1
          have ed : ks.drop i = kd :: ks.drop (i + 1) := by
            rw [List.drop_eq_getElem_cons hlt]; rw [List.getElem?_eq_getElem hlt] at hkd; rw [Option.some.inj hkd]
          refine ⟨rfl, ?_⟩
          dsimp only [tYes]
          refine iteT ⟨_, rfl, _, rfl, r, t', kw, kd, rfl, hki, R', fun en H2 f2 => ?_, fun z ez H2 R2 f2 => ?_⟩
          · refine k0 ?_ _ (f'.trans f2)
            rw [hA, ed]
            show (((argP kd t').bind _).map _).map _ = none
            rw [en]; rfl
          · have hL2 : H2 L = some (.lst (as.map argV)) := f2 L _ hL' (by obtain ⟨_, _, _, q1, _⟩ := R'; exact ne_of hL' q1 (by intro z; cases z))
            have small : ks.length ≤ 4 := by
              have e4 : ∀ q ∈ FORMSL, q.2.length ≤ 4 := by decide
              exact e4 _ (lookup_mem e)
            refine ⟨_, hL2, by rw [List.length_map, sizeLine_eq]; omega, as ++ [z.1], z.2, ?_, ?_, ?_, by simp [hlen], ?_⟩
            · obtain ⟨dx, ws, j, q1, q2, q3⟩ := R2
              refine ⟨dx, ws, j, by rw [upd_ne (ne_of q1 hL2 (by intro z; cases z))]; exact q1, ?_, q3⟩
              rw [upd_ne (ne_of_none hwl hL)]
              exact q2
            · exact fun b o z n => by
                rw [upd_ne (ne_of_none z hL)]
                exact f2 b o (f' b o z n) n
            · rw [upd_same, List.map_append]; rfl
            · rw [hA, ed]
              show (((argP kd t').bind fun x => (argsP (ks.drop (i + 1)) x.2).map fun y => (x.1 :: y.1, y.2)).map _) = _
              rw [ez]
              simp only [Option.bind_some]
              cases argsP (ks.drop (i + 1)) z.2 <;> simp
        · rintro H' ⟨as, t', R', f', hL', hlen, hA⟩
          have ek : ks.drop (kws.map vS).length = [] := List.drop_eq_nil_of_le (by rw [List.length_map, hK.length]; exact Nat.le_refl _)
          rw [ek] at hA
          refine k (.inl as, t') ?_ _ L _ R' f' hL hL' rfl
          rw [hA]
          show some ((.inl (as ++ []) : Out), t') = _
          rw [List.append_nil]
/-! read_arguments -/
/-- the list of a command's arguments -/
def CmdAt (H : Hp) (vs : List V) (x : Bytes) (c : Cmd) : Prop := (∃ as, vs = as.map argV ∧ cmdOf x as = some c ∧ x ≠ ascii "rule") ∨ ∃ r, x = ascii "rule" ∧ c = .rule r ∧ RuleArgs H vs r
def sp_read_arguments (K : PySem.W.Frag) : Sp := fun vs H Q E => ∃ (wl : Addr) (x : Bytes) (t : Words), vs = [.ref wl] ∧ H wl = some (.lst ((x :: t).map vS)) ∧ WOk (x :: t) ∧
  (cmd? (x :: t) = none → ∀ H', Same H H' → E (cNo K) none H') ∧ ∀ c, cmd? (x :: t) = some c → ∀ H' p vs, Same H H' → H p = none → H' p = some (.lst vs) → CmdAt H' vs x c → Q (.ref p) H'
theorem outP_cmd {x : Bytes} {t : Words} {y : Out × Words} (h : outP x t = some y) : ∃ c, outCmd x y.1 = some c := by
  unfold outP at h
  by_cases c : x = ascii "rule"
  · rw [if_pos c] at h
    obtain ⟨z, _, rfl⟩ := Option.map_eq_some_iff.mp h
    exact ⟨_, rfl⟩
  · rw [if_neg c] at h
    cases e : FORMSL.lookup x with
    | none => rw [e] at h; cases h
    | some ks =>
      rw [e] at h
      obtain ⟨z, hz, rfl⟩ := Option.map_eq_some_iff.mp (show (argsP ks t).map _ = some y from h)
      exact forms_cmd (lookup_mem e) (argsP_fits hz)
theorem outP_at {H : Hp} {vs : List V} {x : Bytes} {t : Words} {y : Out × Words} {c : Cmd} (h : outP x t = some y) (hc : outCmd x y.1 = some c) (o : OutAt H vs y.1) : CmdAt H vs x c := by
  unfold outP at h
  by_cases e : x = ascii "rule"
  · rw [if_pos e] at h
    obtain ⟨z, _, rfl⟩ := Option.map_eq_some_iff.mp h
    exact .inr ⟨z.1, e, (Option.some.inj hc).symm, o⟩
  · rw [if_neg e] at h
    cases e2 : FORMSL.lookup x with
    | none => rw [e2] at h; cases h
    | some ks =>
      rw [e2] at h
      obtain ⟨z, hz, rfl⟩ := Option.map_eq_some_iff.mp (show (argsP ks t).map _ = some y from h)
      exact .inl ⟨z.1, o, hc, e⟩
theorem sc_read_arguments : FnScope ["words", "reader", "arguments"] ["words"] (defScope s_read_arguments) := ⟨rfl, rfl, rfl, by decide +kernel, rfl, by decide +kernel, by decide +kernel⟩
theorem fr_new_same {H H0 H' : Hp} {r : Addr} (hr : H r = none) (s : Same H H0) (f : Fr (At r) H0 H') : Same H H' := fun b o e => f b o (s b o e) (ne_of_none e hr)
theorem ok_read_arguments (g : Good w K mg) : FnOk P w K mg base (L2.CX P w) 35 (He.ga K "read_arguments") (fdA K (He.ga K "read_arguments")) ["words"] (sp_read_arguments K) := by
  refine (F_read_arguments g).ok sc_read_arguments (fun vs H Q E h => ?_) (fun cdv A outer s H vs Q E hr h => ?_)
  · obtain ⟨wl, x, t, rfl, _⟩ := h; rfl
  · obtain ⟨wl, x, t, rfl, hw, W, k0, k⟩ := h
    refine ⟨_, (pss_cons (ps_set (i := 1) sc_read_arguments.nd rfl (Or.inl rfl) (pe_make (mk_Reader g) (ok_Reader_init g) (hr.mono (by decide)) rfl (m_Reader g) (b_Reader_init g) .nil pass0 (pa_cons (pv 0) pa_nil))) (pss_cons (ps_set (i := 2) sc_read_arguments.nd rfl (Or.inl rfl) (pe_call (ok_take_arguments g wl) (hr.mono (by decide)) rfl (m_take_arguments g) (F_take_arguments g).kp (b_take_arguments g) .nil (passes_call (takes_of rfl rfl rfl rfl) (fun _ _ _ _ e => e)) (pa_cons (pv 1) (pa_cons (pe_meth0 (pv 1) (cl_Reader g) (me_Reader_take g) (ok_Reader_take g wl) (hr.mono (by decide)) (b_Reader_take g) .nil pass0) pa_nil)))) (pss_cons (ps_expr (pe_meth0 (pv 1) (cl_Reader g) (me_Reader_finish g) (ok_Reader_finish g wl) (hr.mono (by decide)) (b_Reader_finish g) .nil (passes_call (takes_of rfl rfl rfl rfl) (fun _ _ _ _ e => e)))) (pss_one (ps_ret (pv 2)))))), ?_⟩
    refine ⟨_, rfl, fun r dx nr nd ne => ?_⟩
    refine ⟨r, dx, wl, rfl, upd_same, fun H1 h1 f1 => ⟨rfl, ?_⟩⟩
    have s1 : Same H H1 := Same.made nr nd fun b o e n => f1 b o e n
    have R1 : RdAt K wl H1 r (x :: t) := ⟨dx, x :: t, 0, h1, s1 _ _ hw, W, Nat.zero_le _, rfl⟩
    obtain ⟨d1, fs1, q1, n1⟩ := R1.not (m := "take") (by decide +kernel) (by decide +kernel)
    refine ⟨_, rfl, _, rfl, r, d1, fs1, rfl, q1, n1, r, _, rfl, R1, fun z => (by cases z), fun a q e H2 R2 f2 => ?_⟩
    obtain ⟨rfl, rfl⟩ := List.cons.inj e
    have s2 := fr_new_same nr s1 f2
    refine ⟨r, t, x, rfl, R2, fun e H3 f3 => k0 (by rw [cmd_out, e]; rfl) _ (fr_new_same nr s2 f3), fun y e H3 p vs R3 f3 np hp ho => ?_⟩
    have s3 := fr_new_same nr s2 f3
    obtain ⟨d3, fs3, q3, n3⟩ := R3.not (m := "finish") (by decide +kernel) (by decide +kernel)
    refine ⟨_, rfl, r, d3, fs3, rfl, q3, n3, r, y.2, rfl, R3, fun z => k0 ?_ _ s3, fun z => ⟨_, rfl, ?_⟩⟩
    · rw [cmd_out, e]
      show (if y.2 = [] then outCmd x y.1 else none) = none
      rw [if_neg z]
    · obtain ⟨c, hc⟩ := outP_cmd e
      have pn : H p = none := s2.free np
      refine k c ?_ _ p vs s3 pn hp (outP_at e hc ho)
      rw [cmd_out, e]
      show (if y.2 = [] then outCmd x y.1 else none) = _
      rw [if_pos z, hc]
end
end Hw
end

/-! ## part P8 -/
section
set_option Elab.async false
set_option linter.all false
set_option maxRecDepth 100000
set_option maxHeartbeats 2000000
namespace Hw
open PySem PySem.Spec PyProof.Rows L2
open Hr01 (Bytes Words Term Sum Cond ascii isName num? term? digit small sum? parted Cmd Rule cmd?)
/-! ### the words of a text -/
def SIGNSs : String := " ?????&?()?+?-??0123456789??<=???????????????????????????????????abcdefghijklmnopqrstuvwxyz?|?~"
theorem signs_tab : ∀ c, c < 127 → 32 ≤ c → (PySem.Str.ofString SIGNSs).cps.toList[c - 32]? = some (sg c) := by decide +kernel
theorem signs_len : (PySem.Str.ofString SIGNSs).length ≤ sizeLine := by decide +kernel
theorem spl_parted : ∀ (l acc : Bytes), TL.spl [32] 0 acc l = match parted 32 l with
    | [] => [acc]
    | x :: r => (acc ++ x) :: r
  | [], acc => by rw [TL.spl_nil]; show [acc] = [acc ++ []]; rw [List.append_nil]
  | c :: r, acc => by
    by_cases h : c = 32
    · subst h
      rw [TL.spl_hit (by rfl)]
      show acc :: TL.spl [32] 0 [] r = _
      rw [spl_parted r []]
      have e32 : parted 32 (32 :: r) = [] :: parted 32 r := if_pos rfl
      rw [e32]
      show _ = (acc ++ []) :: parted 32 r
      rw [List.append_nil]
      cases e : parted 32 r with
      | nil =>
        exfalso
        cases r with
        | nil => cases e
        | cons d q =>
          unfold parted at e
          split at e
          · cases e
          · split at e <;> cases e
      | cons x q => rfl
    · have hp : TL.pre [32] (c :: r) = false := TL.pre_of_head [] r h
      rw [TL.spl_miss hp, spl_parted r]
      show _ = match (if c = 32 then [] :: parted 32 r else match parted 32 r with | [] => [[c]] | w :: r => (c :: w) :: r) with | [] => [acc] | x :: r => (acc ++ x) :: r
      rw [if_neg h]
      cases parted 32 r with
      | nil => rfl
      | cons x q => show ((acc ++ [c]) ++ x) :: q = (acc ++ c :: x) :: q; rw [List.append_assoc]; rfl
theorem parted_ne (l : Bytes) : parted 32 l ≠ [] := by
  cases l with
  | nil => intro z; cases z
  | cons d q =>
    intro e
    unfold parted at e
    split at e
    · cases e
    · split at e <;> cases e
theorem split_S (l : Bytes) : Txt.split (S l) (PySem.Str.ofString " ") = (parted 32 l).map S := by
  refine TL.map_tl_inj ?_
  have e : PySem.Str.ofString " " = S [32] := S_of " "
  rw [e, TL.split_spl (S l) (S [32]) (by decide) (TL.kind_ok (by decide +kernel))]
  show TL.spl [32] 0 [] l = _
  rw [spl_parted, List.map_map]
  have e2 : (TL.tl ∘ S) = id := by funext x; rfl
  rw [e2, List.map_id]
  cases h : parted 32 l with
  | nil => exact absurd h (parted_ne l)
  | cons x q => rfl
theorem join_S (l : Bytes) : Txt.join (PySem.Str.ofString "") (l.map fun c => S [c]) = S l := by
  refine TL.ext_tl ?_
  rw [TL.join_eq, TL.tl_join]
  have e : TL.tl (PySem.Str.ofString "") = [] := by decide
  rw [e]
  show TL.joinL [] _ = l
  rw [List.map_map]
  induction l with
  | nil => rfl
  | cons c r ih =>
    cases r with
    | nil => rfl
    | cons d q =>
      show [c] ++ ([] ++ TL.joinL [] ((d :: q).map _)) = _
      rw [ih]; rfl
theorem okC_sg (c : Nat) : okC (sg c) = true := by
  unfold okC
  rcases sg_or c with h | ⟨h, h2⟩
  · unfold sg at h ⊢
    split
    · rename_i hg; rw [hg]; rfl
    · rfl
  · rw [h]; rfl
theorem parted_mem : ∀ (l : Bytes) (x : Bytes), x ∈ parted 32 l → (∀ c ∈ x, c ∈ l) ∧ x.length ≤ l.length
  | [], x, h => by
    have : x = [] := by simpa [parted] using h
    subst this; simp
  | c :: r, x, h => by
    unfold parted at h
    split at h
    · rcases List.mem_cons.mp h with rfl | h
      · simp
      · obtain ⟨h1, h2⟩ := parted_mem r x h
        exact ⟨fun d hd => List.mem_cons_of_mem _ (h1 d hd), by simp; omega⟩
    · cases e : parted 32 r with
      | nil => exact absurd e (parted_ne r)
      | cons y q =>
        rw [e] at h
        rcases List.mem_cons.mp h with rfl | h
        · obtain ⟨h1, h2⟩ := parted_mem r y (by rw [e]; exact List.mem_cons_self ..)
          exact ⟨fun d hd => by
            rcases List.mem_cons.mp hd with rfl | hd
            · exact List.mem_cons_self ..
            · exact List.mem_cons_of_mem _ (h1 d hd), by simp; omega⟩
        · obtain ⟨h1, h2⟩ := parted_mem r x (by rw [e]; exact List.mem_cons_of_mem _ h)
          exact ⟨fun d hd => List.mem_cons_of_mem _ (h1 d hd), by simp; omega⟩
theorem parted_len : ∀ l : Bytes, (parted 32 l).length ≤ l.length + 1
  | [] => by simp [parted]
  | c :: r => by
    have ih := parted_len r
    unfold parted
    split
    · simp; omega
    · cases e : parted 32 r with
      | nil => simp
      | cons y q => rw [e] at ih; simp at ih ⊢; omega
theorem words_ok {l : Bytes} (h : l.length ≤ 160) : WOk (parted 32 (sgs l)) := by
  have hl : (sgs l).length ≤ 160 := by rw [sgs_len]; exact h
  refine ⟨Nat.le_trans (parted_len _) (by omega), fun x hx => ?_⟩
  obtain ⟨h1, h2⟩ := parted_mem _ x hx
  refine ⟨by omega, List.all_eq_true.mpr fun c hc => ?_⟩
  obtain ⟨d, _, rfl⟩ := List.mem_map.mp (h1 c hc)
  exact okC_sg d
section
variable {P : Program} {w : World} {K : PySem.W.Frag} {mg : Str → Option Value} {base : Heap}
def sp_words_of (K : PySem.W.Frag) : Sp := fun vs H Q _ => ∃ (a : Addr) (l : Bytes), vs = [.ref a] ∧ SqL K H a (l.map fun (c : Nat) => V.int (c : Nat)) ∧ l.length ≤ 160 ∧ (∀ c ∈ l, 32 ≤ c ∧ c ≤ 126) ∧
  ∀ H' p, Same H H' → H p = none → H' p = some (.lst ((parted 32 (sgs l)).map vS)) → Q (.ref p) H'
theorem sc_words_of : FnScope ["command", "text", "byte"] ["command"] (defScope s_words_of) := ⟨rfl, rfl, rfl, by decide +kernel, rfl, by decide +kernel, by decide +kernel⟩
theorem ok_words_of (g : Good w K mg) : FnOk P w K mg base CX0 1 (He.ga K "words_of") (fdA K (He.ga K "words_of")) ["command"] (sp_words_of K) := by
  refine (F_words_of g).ok sc_words_of (fun vs H Q E h => ?_) (fun cdv A outer s H vs Q E hr h => ⟨_, PSs.nox (pss_cons (ps_set (i := 1) sc_words_of.nd rfl (Or.inl rfl) (pe_join pe_str (pe_lc (own := [("byte", 2)]) rfl sc_words_of.nd (pi_list (pv 0)) (blkOk_by (own := [("byte", 2)]) (N := ["command", "text", "byte"]) (sc := defScope s_words_of) (by decide +kernel)) (fun _ _ _ _ _ => (pg_name (i := 2) sc_words_of.nd rfl (Or.inl rfl))) (fun _ _ _ _ _ => pts_nil) (fun _ _ _ _ _ => (pe_ix ix_str (pe_gS rfl (i_SIGNS g)) (pe_op op_sub (pv 2) pe_int) (fun _ _ => rfl)))))) (pss_one (ps_ret (pe_split (pv 1) pe_str)))), ?_⟩)
  · obtain ⟨a, l, rfl, _⟩ := h; rfl
  · obtain ⟨a, l, rfl, hS, hl, hc, k⟩ := h
    refine ⟨⟨_, rfl⟩, _, rfl, a, rfl, ⟨_, hS⟩, fun D hD => ?_⟩
    refine lc_list (K := K) (a := a) (xs := l.map fun (c : Nat) => V.int (c : Nat)) (fun i H' => Same H H' ∧ H' D = some (.lst (((l.take i).map fun c => S [sg c]).map V.str)))
      ⟨same_new hD, upd_same⟩ (fun i H' _ ⟨z, _⟩ => z.seq hS) ?_ ?_
    · rintro i x H' hi ⟨sm, hL⟩
      rw [List.getElem?_map] at hi
      obtain ⟨c, hci, rfl⟩ := Option.map_eq_some_iff.mp hi
      have hm := hc c (List.mem_of_getElem? hci)
      refine ⟨rfl, ?_⟩
      dsimp only [tYes]
      refine iteT ⟨_, rfl, _, _, rfl, rfl, _, _, sg c, rfl, rfl, signs_len, ?_, ?_⟩
      · have e : ((c : Int) - 32) = ((c - 32 : Nat) : Int) := by omega
        rw [e]
        exact atI_nat (signs_tab c (by omega) hm.1)
      · refine ⟨_, hL, ?_, ?_, ?_⟩
        · rw [List.length_map, List.length_map, List.length_take, sizeLine_eq]; omega
        · exact fun b o z => by rw [upd_ne (ne_of_none z hD)]; exact sm b o z
        · rw [upd_same, List.take_succ, hci]
          show _ = some (HO.lst ((((l.take i) ++ [c]).map fun c => S [sg c]).map V.str))
          rw [List.map_append, List.map_append]; rfl
    · rintro H' ⟨sm, hL⟩
      rw [List.length_map, List.take_length] at hL
      have ej : (l.map fun c => S [sg c]) = (sgs l).map fun c => S [c] := by rw [sgs, List.map_map]; rfl
      rw [ej] at hL
      refine ⟨_, D, _, rfl, rfl, Or.inl (SqL.of hL), ?_, ?_⟩
      · have e0 : (PySem.Str.ofString "").length = 0 := by decide
        rw [e0, Nat.mul_zero]
        have : (((sgs l).map fun c => S [c]).map (·.length)).sum = (sgs l).length := by
          generalize sgs l = q
          induction q with
          | nil => rfl
          | cons c r ih => rw [List.map_cons, List.map_cons, List.sum_cons, ih]; show 1 + _ = _; simp; omega
        rw [this, sgs_len]; omega
      · rw [join_S]
        refine ⟨_, rfl, ⟨_, rfl⟩, _, _, rfl, rfl, by decide, by rw [S_len, sgs_len, sizeLine_eq]; omega, fun p hp => ?_⟩
        rw [split_S]
        refine k _ p (fun b o z => by rw [upd_ne (ne_of_none (sm b o z) hp)]; exact sm b o z) (sm.free hp) ?_
        rw [upd_same, List.map_map]; rfl
end
end Hw
end

/-! ## part Q0 -/
section
set_option Elab.async false
set_option linter.all false
set_option maxRecDepth 100000
set_option maxHeartbeats 2000000
namespace Hw
open PySem PySem.Spec PyProof.Rows L2
open Hr01 (Bytes Words Term Sum Cond ascii isName num? term? digit small sum? parted Cmd Rule cmd? Thing House By byText thingsIn thingsOf valueOf termValue sumValue isSensor thingOf ruleOf)
/-! ### classes and their fields -/
abbrev cHouse (K : PySem.W.Frag) : Addr := He.ga K "House"
abbrev cThing (K : PySem.W.Frag) : Addr := He.ga K "Thing"
abbrev cRule (K : PySem.W.Frag) : Addr := He.ga K "Rule"
abbrev cHold (K : PySem.W.Frag) : Addr := He.ga K "Hold"
def fsHouse (c : Int) (ds dt dr : Addr) : List (Str × V) := [("clock", .int c), ("sensors", .ref ds), ("things", .ref dt), ("rules", .ref dr)]
def fsThing (v t : Int) (o : Addr) (d : Bool) (h : V) (b : Int) (p : Addr) : List (Str × V) := [("value", .int v), ("target", .int t), ("origin", .ref o), ("deaf", .bl d), ("hold", h), ("born", .int b), ("past", .ref p)]
def fsRule (rk de : Int) (c : V) (th : Bytes) (am : V) (ct : Int) : List (Str × V) := [("rank", .int rk), ("delay", .int de), ("condition", c), ("thing", vS th), ("amount", am), ("count", .int ct)]
def fsHold (v p e : Int) : List (Str × V) := [("value", .int v), ("rank", .int p), ("end", .int e)]
theorem lk_House_clock (c : Int) (ds dt dr : Addr) : (fsHouse c ds dt dr).lookup ("clock" : Str) = some (.int c) := lk_here
theorem lk_House_sensors (c : Int) (ds dt dr : Addr) : (fsHouse c ds dt dr).lookup ("sensors" : Str) = some (.ref ds) := ((lk_past (by decide +kernel)).trans lk_here)
theorem lk_House_things (c : Int) (ds dt dr : Addr) : (fsHouse c ds dt dr).lookup ("things" : Str) = some (.ref dt) := ((lk_past (by decide +kernel)).trans ((lk_past (by decide +kernel)).trans lk_here))
theorem lk_House_rules (c : Int) (ds dt dr : Addr) : (fsHouse c ds dt dr).lookup ("rules" : Str) = some (.ref dr) := ((lk_past (by decide +kernel)).trans ((lk_past (by decide +kernel)).trans ((lk_past (by decide +kernel)).trans lk_here)))
theorem lk_Thing_value (v t : Int) (o : Addr) (d : Bool) (h : V) (b : Int) (p : Addr) : (fsThing v t o d h b p).lookup ("value" : Str) = some (.int v) := lk_here
theorem lk_Thing_target (v t : Int) (o : Addr) (d : Bool) (h : V) (b : Int) (p : Addr) : (fsThing v t o d h b p).lookup ("target" : Str) = some (.int t) := ((lk_past (by decide +kernel)).trans lk_here)
theorem lk_Thing_origin (v t : Int) (o : Addr) (d : Bool) (h : V) (b : Int) (p : Addr) : (fsThing v t o d h b p).lookup ("origin" : Str) = some (.ref o) := ((lk_past (by decide +kernel)).trans ((lk_past (by decide +kernel)).trans lk_here))
theorem lk_Thing_deaf (v t : Int) (o : Addr) (d : Bool) (h : V) (b : Int) (p : Addr) : (fsThing v t o d h b p).lookup ("deaf" : Str) = some (.bl d) := ((lk_past (by decide +kernel)).trans ((lk_past (by decide +kernel)).trans ((lk_past (by decide +kernel)).trans lk_here)))
theorem lk_Thing_hold (v t : Int) (o : Addr) (d : Bool) (h : V) (b : Int) (p : Addr) : (fsThing v t o d h b p).lookup ("hold" : Str) = some (h) := ((lk_past (by decide +kernel)).trans ((lk_past (by decide +kernel)).trans ((lk_past (by decide +kernel)).trans ((lk_past (by decide +kernel)).trans lk_here))))
theorem lk_Thing_born (v t : Int) (o : Addr) (d : Bool) (h : V) (b : Int) (p : Addr) : (fsThing v t o d h b p).lookup ("born" : Str) = some (.int b) := ((lk_past (by decide +kernel)).trans ((lk_past (by decide +kernel)).trans ((lk_past (by decide +kernel)).trans ((lk_past (by decide +kernel)).trans ((lk_past (by decide +kernel)).trans lk_here)))))
theorem lk_Thing_past (v t : Int) (o : Addr) (d : Bool) (h : V) (b : Int) (p : Addr) : (fsThing v t o d h b p).lookup ("past" : Str) = some (.ref p) := ((lk_past (by decide +kernel)).trans ((lk_past (by decide +kernel)).trans ((lk_past (by decide +kernel)).trans ((lk_past (by decide +kernel)).trans ((lk_past (by decide +kernel)).trans ((lk_past (by decide +kernel)).trans lk_here))))))
theorem lk_Rule_rank (rk de : Int) (c : V) (th : Bytes) (am : V) (ct : Int) : (fsRule rk de c th am ct).lookup ("rank" : Str) = some (.int rk) := lk_here
theorem lk_Rule_delay (rk de : Int) (c : V) (th : Bytes) (am : V) (ct : Int) : (fsRule rk de c th am ct).lookup ("delay" : Str) = some (.int de) := ((lk_past (by decide +kernel)).trans lk_here)
theorem lk_Rule_condition (rk de : Int) (c : V) (th : Bytes) (am : V) (ct : Int) : (fsRule rk de c th am ct).lookup ("condition" : Str) = some (c) := ((lk_past (by decide +kernel)).trans ((lk_past (by decide +kernel)).trans lk_here))
theorem lk_Rule_thing (rk de : Int) (c : V) (th : Bytes) (am : V) (ct : Int) : (fsRule rk de c th am ct).lookup ("thing" : Str) = some (vS th) := ((lk_past (by decide +kernel)).trans ((lk_past (by decide +kernel)).trans ((lk_past (by decide +kernel)).trans lk_here)))
theorem lk_Rule_amount (rk de : Int) (c : V) (th : Bytes) (am : V) (ct : Int) : (fsRule rk de c th am ct).lookup ("amount" : Str) = some (am) := ((lk_past (by decide +kernel)).trans ((lk_past (by decide +kernel)).trans ((lk_past (by decide +kernel)).trans ((lk_past (by decide +kernel)).trans lk_here))))
theorem lk_Rule_count (rk de : Int) (c : V) (th : Bytes) (am : V) (ct : Int) : (fsRule rk de c th am ct).lookup ("count" : Str) = some (.int ct) := ((lk_past (by decide +kernel)).trans ((lk_past (by decide +kernel)).trans ((lk_past (by decide +kernel)).trans ((lk_past (by decide +kernel)).trans ((lk_past (by decide +kernel)).trans lk_here)))))
theorem lk_Hold_value (v p e : Int) : (fsHold v p e).lookup ("value" : Str) = some (.int v) := lk_here
theorem lk_Hold_rank (v p e : Int) : (fsHold v p e).lookup ("rank" : Str) = some (.int p) := ((lk_past (by decide +kernel)).trans lk_here)
theorem lk_Hold_end (v p e : Int) : (fsHold v p e).lookup ("end" : Str) = some (.int e) := ((lk_past (by decide +kernel)).trans ((lk_past (by decide +kernel)).trans lk_here))
theorem pt_House_clock (c : Int) (ds dt dr : Addr) (y : Int) : putF ("clock" : Str) (.int y) (fsHouse c ds dt dr) = fsHouse y ds dt dr := put_here
theorem pt_Thing_value (v t : Int) (o : Addr) (d : Bool) (h : V) (b : Int) (p : Addr) (y : Int) : putF ("value" : Str) (.int y) (fsThing v t o d h b p) = fsThing y t o d h b p := put_here
theorem pt_Thing_target (v t : Int) (o : Addr) (d : Bool) (h : V) (b : Int) (p : Addr) (y : Int) : putF ("target" : Str) (.int y) (fsThing v t o d h b p) = fsThing v y o d h b p := ((put_past (by decide +kernel)).trans (congrArg _ put_here))
theorem pt_Thing_origin (v t : Int) (o : Addr) (d : Bool) (h : V) (b : Int) (p : Addr) (y : Addr) : putF ("origin" : Str) (.ref y) (fsThing v t o d h b p) = fsThing v t y d h b p := ((put_past (by decide +kernel)).trans (congrArg _ ((put_past (by decide +kernel)).trans (congrArg _ put_here))))
theorem pt_Thing_deaf (v t : Int) (o : Addr) (d : Bool) (h : V) (b : Int) (p : Addr) (y : Bool) : putF ("deaf" : Str) (.bl y) (fsThing v t o d h b p) = fsThing v t o y h b p := ((put_past (by decide +kernel)).trans (congrArg _ ((put_past (by decide +kernel)).trans (congrArg _ ((put_past (by decide +kernel)).trans (congrArg _ put_here))))))
theorem pt_Thing_hold (v t : Int) (o : Addr) (d : Bool) (h : V) (b : Int) (p : Addr) (y : V) : putF ("hold" : Str) (y) (fsThing v t o d h b p) = fsThing v t o d y b p := ((put_past (by decide +kernel)).trans (congrArg _ ((put_past (by decide +kernel)).trans (congrArg _ ((put_past (by decide +kernel)).trans (congrArg _ ((put_past (by decide +kernel)).trans (congrArg _ put_here))))))))
theorem pt_Rule_count (rk de : Int) (c : V) (th : Bytes) (am : V) (ct : Int) (y : Int) : putF ("count" : Str) (.int y) (fsRule rk de c th am ct) = fsRule rk de c th am y := ((put_past (by decide +kernel)).trans (congrArg _ ((put_past (by decide +kernel)).trans (congrArg _ ((put_past (by decide +kernel)).trans (congrArg _ ((put_past (by decide +kernel)).trans (congrArg _ ((put_past (by decide +kernel)).trans (congrArg _ put_here))))))))))
/-! ### a house in the heap -/
structure TL where
  a : Addr
  pa : Addr
  born : Nat
structure Lay where
  h : Addr
  ds : Addr
  dt : Addr
  dr : Addr
  ts : List TL
  rs : List Addr
def HoldAt (K : PySem.W.Frag) (H : Hp) (v : V) : Option (Nat × Nat × Nat) → Prop
  | none => v = .non
  | some h => ∃ a dx, v = .ref a ∧ H a = some (.ins (cHold K) dx (fsHold (h.1 : Nat) (h.2.1 : Nat) (h.2.2 : Nat)))
def ThingAt (K : PySem.W.Frag) (H : Hp) (l : TL) (x : Thing) : Prop := ∃ dx o hv, H l.a = some (.ins (cThing K) dx (fsThing (x.is : Nat) (x.want : Nat) o (!x.hears) hv (l.born : Nat) l.pa)) ∧ H o = some (.tup ((byText x.by_).map vS)) ∧ HoldAt K H hv x.hold
def RuleAt (K : PySem.W.Frag) (H : Hp) (a : Addr) (r : Rule) : Prop := ∃ dx vc va, H a = some (.ins (cRule K) dx (fsRule (r.rank : Nat) (r.after : Nat) vc r.thing va (r.held : Nat))) ∧ CondAt H 20 vc r.cond ∧ SumAt H va r.value
def sensK (l : List (Bytes × Nat)) : List (Key × V) := l.map fun p => (.inr (S p.1), .int (p.2 : Nat))
def thingsK (ts : List TL) (xs : List Thing) : List (Key × V) := List.zipWith (fun l x => (.inr (S x.name), .ref l.a)) ts xs
def rulesK (rs : List Addr) (xs : List Rule) : List (Key × V) := List.zipWith (fun a x => (.inr (S x.name), .ref a)) rs xs
structure HouseAt (K : PySem.W.Frag) (H : Hp) (L : Lay) (s : House) : Prop where
  h : ∃ dx, H L.h = some (.ins (cHouse K) dx (fsHouse (s.clock : Nat) L.ds L.dt L.dr))
  ds : Rd H L.ds (.dK (sensK s.sensors))
  dt : Rd H L.dt (.dK (thingsK L.ts s.things))
  dr : Rd H L.dr (.dK (rulesK L.rs s.rules))
  ts : Paired (ThingAt K H) L.ts s.things
  rs : Paired (RuleAt K H) L.rs s.rules
theorem HoldAt.same {K : PySem.W.Frag} {H H' : Hp} (sm : Same H H') {v : V} : ∀ {h : Option (Nat × Nat × Nat)}, HoldAt K H v h → HoldAt K H' v h
  | none, e => e
  | some _, ⟨a, dx, e, q⟩ => ⟨a, dx, e, sm _ _ q⟩
theorem ThingAt.same {K : PySem.W.Frag} {H H' : Hp} (sm : Same H H') {l : TL} {x : Thing} (h : ThingAt K H l x) : ThingAt K H' l x := by
  obtain ⟨dx, o, hv, h1, h2, h3⟩ := h
  exact ⟨dx, o, hv, sm _ _ h1, sm _ _ h2, h3.same sm⟩
theorem RuleAt.same {K : PySem.W.Frag} {H H' : Hp} (sm : Same H H') {a : Addr} {r : Rule} (h : RuleAt K H a r) : RuleAt K H' a r := by
  obtain ⟨dx, vc, va, h1, h2, h3⟩ := h
  exact ⟨dx, vc, va, sm _ _ h1, h2.keep (Tups.of_same sm), h3.keep (Tups.of_same sm)⟩
theorem rd_same {H H' : Hp} (sm : Same H H') {a : Addr} {u : HO} (h : Rd H a u) : Rd H' a u := by
  rcases h with h | ⟨o, h⟩
  · exact .inl (sm _ _ h)
  · exact .inr ⟨o, sm _ _ h⟩
theorem HouseAt.same {K : PySem.W.Frag} {H H' : Hp} (sm : Same H H') {L : Lay} {s : House} (h : HouseAt K H L s) : HouseAt K H' L s where
  h := let ⟨dx, q⟩ := h.h; ⟨dx, sm _ _ q⟩
  ds := rd_same sm h.ds
  dt := rd_same sm h.dt
  dr := rd_same sm h.dr
  ts := Paired.mapP h.ts fun _ _ => ThingAt.same sm
  rs := Paired.mapP h.rs fun _ _ => RuleAt.same sm
/-! ### what the names stand for -/
def timeS : Key := .inr "time"
def rdg (s : House) : List (Key × V) := putK (s.things.foldl (fun acc x => putK acc (.inr (S x.name)) (.int (x.is : Nat))) (sensK s.sensors)) timeS (.int (s.clock % 1440 : Nat))
/-- the names are names, and each stands for one thing -/
structure Names (s : House) : Prop where
  sn : ∀ p ∈ s.sensors, isName p.1 = true
  tn : ∀ x ∈ s.things, isName x.name = true
  nd : (s.sensors.map (·.1) ++ s.things.map (·.name)).Nodup
def known (s : House) (x : Bytes) : Prop := x ∈ s.sensors.map (·.1) ∨ x ∈ s.things.map (·.name)
theorem key_iff {a b : Bytes} : ((Sum.inr (S a) : Key) = .inr (S b)) ↔ a = b := ⟨fun h => S_inj (Sum.inr.inj h), fun h => by rw [h]⟩
theorem fold_val (xs : List Thing) (j : Key) : ∀ acc : List (Key × V), valV (xs.foldl (fun acc x => putK acc (.inr (S x.name)) (.int (x.is : Nat))) acc) j =
    match (xs.reverse.find? fun x => decide (j = .inr (S x.name))) with
    | some x => some (.int (x.is : Nat))
    | none => valV acc j := by
  induction xs with
  | nil => intro acc; rfl
  | cons x r ih =>
    intro acc
    rw [List.foldl_cons, ih, List.reverse_cons, List.find?_append]
    cases (r.reverse.find? fun x => decide (j = .inr (S x.name))) with
    | some y => rfl
    | none =>
      show valV (putK acc _ _) j = match ([x].find? fun x => decide (j = .inr (S x.name))) with | some x => some (.int (x.is : Nat)) | none => valV acc j
      rw [valV_put]
      by_cases c : j = .inr (S x.name)
      · rw [if_pos c, List.find?_cons, decide_eq_true c]
      · rw [if_neg c, List.find?_cons, decide_eq_false c]; rfl
end Hw
end

/-! ## part Q1 -/
section
set_option Elab.async false
set_option linter.all false
set_option maxRecDepth 100000
set_option maxHeartbeats 2000000
namespace Hw
open PySem PySem.Spec PyProof.Rows L2
open Hr01 (Bytes Words Term Sum Cond ascii isName num? term? digit small sum? parted Cmd Rule cmd? Thing House By byText thingsIn thingsOf valueOf termValue sumValue isSensor thingOf ruleOf)
theorem find_unique {α : Type} {l : List α} {p : α → Bool} {y : α} (hy : y ∈ l) (py : p y = true) (u : ∀ z ∈ l, p z = true → z = y) : l.find? p = some y := by
  cases h : l.find? p with
  | none => exact absurd py (by have := List.find?_eq_none.mp h y hy; simpa using this)
  | some z => rw [u z (List.mem_of_find?_eq_some h) (List.find?_some h)]
theorem name_unique {l : List Thing} (h : (l.map (·.name)).Nodup) {y z : Thing} (hy : y ∈ l) (hz : z ∈ l) (e : z.name = y.name) : z = y := by
  induction l with
  | nil => cases hy
  | cons a r ih =>
    rw [List.map_cons, List.nodup_cons] at h
    rcases List.mem_cons.mp hy with hy1 | hy1
    · rcases List.mem_cons.mp hz with hz1 | hz1
      · rw [hy1, hz1]
      · exact absurd (show a.name ∈ r.map (·.name) from List.mem_map.mpr ⟨z, hz1, by rw [e, hy1]⟩) h.1
    · rcases List.mem_cons.mp hz with hz1 | hz1
      · exact absurd (show a.name ∈ r.map (·.name) from List.mem_map.mpr ⟨y, hy1, by rw [← e, hz1]⟩) h.1
      · exact ih h.2 hy1 hz1
theorem sens_val (x : Bytes) : ∀ l : List (Bytes × Nat), valV (sensK l) (.inr (S x)) = (l.find? fun p => p.1 == x).map fun p => .int (p.2 : Nat)
  | [] => rfl
  | p :: r => by
    have ih := sens_val x r
    by_cases c : p.1 = x
    · rw [List.find?_cons, beq_iff_eq.mpr c]
      exact valV_pos (p := ((Sum.inr (S p.1) : Key), V.int (p.2 : Nat))) (by rw [c])
    · rw [List.find?_cons, beq_eq_false_iff_ne.mpr c]
      exact (valV_neg (p := ((Sum.inr (S p.1) : Key), V.int (p.2 : Nat))) (fun z => c (key_iff.mp z))).trans ih
theorem Names.nt {s : House} (N : Names s) {x : Bytes} (h : known s x) : x ≠ ascii "time" := by
  have hn : isName x = true := by
    rcases h with h | h
    · obtain ⟨p, hp, rfl⟩ := List.mem_map.mp h; exact N.sn p hp
    · obtain ⟨p, hp, rfl⟩ := List.mem_map.mp h; exact N.tn p hp
  intro z
  rw [z] at hn
  exact absurd hn (by decide)
theorem time_key (x : Bytes) : ((Sum.inr (S x) : Key) = timeS) ↔ x = ascii "time" := by
  unfold timeS
  rw [show (("time" : String) : Str) = S (ascii "time") from S_of "time"]
  exact key_iff
theorem rdg_known {s : House} (N : Names s) {x : Bytes} (h : known s x) : valV (rdg s) (.inr (S x)) = some (.int (valueOf s x : Nat)) := by
  unfold rdg
  rw [valV_put, if_neg (fun z => N.nt h ((time_key x).mp z)), fold_val]
  have nd := List.nodup_append.mp N.nd
  by_cases ht : x ∈ s.things.map (·.name)
  · obtain ⟨y, hy, rfl⟩ := List.mem_map.mp ht
    have hs : ∀ p ∈ s.sensors, p.1 ≠ y.name := fun p hp e => nd.2.2 _ (List.mem_map.mpr ⟨p, hp, rfl⟩) _ ht e
    rw [find_unique (y := y) (List.mem_reverse.mpr hy) (decide_eq_true rfl) fun z hz e => name_unique nd.2.1 hy (List.mem_reverse.mp hz) (key_iff.mp (of_decide_eq_true e)).symm]
    have e1 : (s.sensors.find? fun p => p.1 == y.name) = none := List.find?_eq_none.mpr fun p hp => by simpa using hs p hp
    have e2 : thingOf s y.name = some y := find_unique hy (beq_self_eq_true _) fun z hz e => name_unique nd.2.1 hy hz (eq_of_beq e)
    unfold valueOf
    rw [e1, e2]
    rfl
  · have hs : x ∈ s.sensors.map (·.1) := h.resolve_right ht
    have e0 : (s.things.reverse.find? fun z => decide ((Sum.inr (S x) : Key) = .inr (S z.name))) = none := List.find?_eq_none.mpr fun z hz e => ht (by
      rw [key_iff.mp (of_decide_eq_true e)]; exact List.mem_map.mpr ⟨z, List.mem_reverse.mp hz, rfl⟩)
    rw [e0]
    show valV (sensK s.sensors) _ = _
    rw [sens_val]
    unfold valueOf
    cases e : s.sensors.find? fun p => p.1 == x with
    | some p => rfl
    | none =>
      obtain ⟨p, hp, rfl⟩ := List.mem_map.mp hs
      have := List.find?_eq_none.mp e p hp
      simp at this
theorem rdg_time (s : House) : valV (rdg s) timeS = some (.int (s.clock % 1440 : Nat)) := by
  unfold rdg
  rw [valV_put, if_pos rfl]
/-! ### sums -/
theorem sumValue_snoc (s : House) (l : Sum) (p : Bool) (t : Term) : sumValue s (l ++ [(p, t)]) = sumValue s l + sgn p * termValue s t := by
  unfold sumValue
  rw [List.foldl_append]
  show (if p then _ + termValue s t else _ - termValue s t) = _
  unfold sgn
  cases p
  · show _ - _ = _ + (-1) * _; omega
  · show _ + _ = _ + 1 * _; omega
section
variable {P : Program} {w : World} {K : PySem.W.Frag} {mg : Str → Option Value} {base : Heap}
/-- names that are known at s -/
def KnowsS (s : House) (l : Sum) : Prop := ∀ x ∈ thingsIn l, known s x
def KnowsC (s : House) (c : Cond) : Prop := ∀ x ∈ thingsOf c, known s x
theorem KnowsS.at {s : House} {l : Sum} (h : KnowsS s l) {i : Nat} {p : Bool} {x : Bytes} (e : l[i]? = some (p, .thing x)) : known s x :=
  h x (List.mem_filterMap.mpr ⟨_, List.mem_of_getElem? e, rfl⟩)
def sp_total (K : PySem.W.Frag) : Sp := fun vs H Q _ => ∃ (v : V) (ad : Addr) (s : House) (l : Sum), vs = [v, .ref ad] ∧ SumAt H v l ∧ H ad = some (.dK (rdg s)) ∧ Names s ∧ KnowsS s l ∧ Q (.int (sumValue s l)) H
theorem sc_total : FnScope ["terms", "readings", "result", "factor", "number", "name"] ["terms", "readings"] (defScope s_total) := ⟨rfl, rfl, rfl, by decide +kernel, rfl, by decide +kernel, by decide +kernel⟩
theorem ok_total (g : Good w K mg) : FnOk P w K mg base CX0 1 (He.ga K "total") (fdA K (He.ga K "total")) ["terms", "readings"] (sp_total K) := by
  refine (F_total g).ok sc_total (fun vs H Q E h => ?_) (fun cdv A outer s0 H vs Q E hr h => ⟨_, PSs.nox (pss_cons (ps_set (i := 2) sc_total.nd rfl (Or.inl rfl) pe_int) (pss_cons (ps_for PassesOwn.never rfl (pi_tup (pv 0)) (pg_tup rfl (pgs_cons (pg_name (i := 3) sc_total.nd rfl (Or.inl rfl)) (pgs_cons (pg_name (i := 4) sc_total.nd rfl (Or.inl rfl)) (pgs_cons (pg_name (i := 5) sc_total.nd rfl (Or.inl rfl)) pgs_nil)))) (pss_one (ps_aug (i := 2) sc_total.nd rfl (Or.inl rfl) (pe_op op_mul (pv 3) (pe_ifExp (pt_cmpR op_eq (pv 5) pe_str (nomark _)) (pv 4) (pe_dget (hu_of hr) (pv 1) (pv 5) (fun _ _ => rfl)))) ip_add))) (pss_one (ps_ret (pv 2))))), ?_⟩)
  · obtain ⟨v, ad, s, l, rfl, _⟩ := h; rfl
  · obtain ⟨v, ad, s, l, rfl, ⟨a, ts, rfl, ha, hp⟩, hd, N, kn, k⟩ := h
    refine ⟨_, rfl, a, rfl, ⟨_, SqT.of ha⟩, ?_⟩
    refine for_tup (K := K) (a := a) (xs := ts) (fun i σ H' => H' = H ∧ ∃ x y z, σ = [some (.ref a), some (.ref ad), some (.int (sumValue s (l.take i))), x, y, z])
      ⟨rfl, none, none, none, rfl⟩ (fun i σ H' _ z => by rw [z.1]; exact SqT.of ha) ?_ ?_
    · rintro i x σ H' hi ⟨rfl, x1, x2, x3, rfl⟩
      obtain ⟨⟨p, t⟩, ht, b, rfl, hb⟩ := paired_get hp hi
      have el : l.take (i + 1) = l.take i ++ [(p, t)] := by rw [List.take_succ, ht]; rfl
      have cm : CMul (sgn p) (termValue s t) := .inl (by unfold sgn; cases p <;> exact ⟨by decide, by decide⟩)
      have ee : (("" : String) : Str) = S [] := S_of ""
      cases t with
      | num n =>
        refine ⟨b, _, rfl, SqT.of hb, rfl, _, _, rfl, _, _, rfl, _, _, rfl, rfl, ?_⟩
        refine ⟨_, rfl, _, rfl, _, rfl, rfl, _, rfl, ?_⟩
        rw [ee, S_dec]
        refine iteT ⟨_, rfl, _, _, rfl, rfl, cm, _, _, rfl, rfl, rfl, some (.int (sgn p)), some (.int (n : Nat)), some (vS []), ?_⟩
        rw [el, sumValue_snoc]; rfl
      | thing x =>
        have kx := kn.at ht
        refine ⟨b, _, rfl, SqT.of hb, rfl, _, _, rfl, _, _, rfl, _, _, rfl, rfl, ?_⟩
        refine ⟨_, rfl, _, rfl, _, rfl, rfl, _, rfl, ?_⟩
        rw [ee, S_dec, decide_eq_false (fun z : x = [] => by
          subst z
          rcases kx with h | h
          · obtain ⟨q, hq, e⟩ := List.mem_map.mp h; have := N.sn q hq; rw [e] at this; cases this
          · obtain ⟨q, hq, e⟩ := List.mem_map.mp h; have := N.tn q hq; rw [e] at this; cases this)]
        refine iteF ⟨_, rfl, _, rfl, ad, .int (valueOf s x : Nat), rfl, by rw [← rdg_known N kx]; exact DGet.k (k := .inr (S x)) hd, _, _, rfl, rfl, cm, _, _, rfl, rfl, rfl, some (.int (sgn p)), some (.int 0), some (vS x), ?_⟩
        rw [el, sumValue_snoc]; rfl
      | time =>
        refine ⟨b, _, rfl, SqT.of hb, rfl, _, _, rfl, _, _, rfl, _, _, rfl, rfl, ?_⟩
        refine ⟨_, rfl, _, rfl, _, rfl, rfl, _, rfl, ?_⟩
        rw [ee, S_dec, decide_eq_false (by decide : ¬ ascii "time" = [])]
        refine iteF ⟨_, rfl, _, rfl, ad, .int (s.clock % 1440 : Nat), rfl, by rw [← rdg_time s]; exact (by
          have e : vS (ascii "time") = kV timeS := by show V.str _ = V.str _; rw [show (("time" : String) : Str) = S (ascii "time") from S_of "time"]
          rw [e]; exact DGet.k (k := timeS) hd), _, _, rfl, rfl, cm, _, _, rfl, rfl, rfl, some (.int (sgn p)), some (.int 0), some (vS (ascii "time")), ?_⟩
        rw [el, sumValue_snoc]; rfl
    · rintro σ H' ⟨rfl, x1, x2, x3, rfl⟩
      rw [hp.length, List.take_length]
      exact ⟨_, rfl, k⟩
end
end Hw
end

/-! ## part Q2 -/
section
set_option Elab.async false
set_option linter.all false
set_option maxRecDepth 100000
set_option maxHeartbeats 2000000
namespace Hw
open PySem PySem.Spec PyProof.Rows L2
open Hr01 (Bytes Words Term Sum Cond ascii isName num? term? digit small sum? parted Cmd Rule cmd? Thing House By byText thingsIn thingsOf valueOf termValue sumValue isSensor thingOf ruleOf)
/-! ### chains -/
theorem opC_things (o : Bool) (a b : Cond) : thingsOf (opC o a b) = thingsOf a ++ thingsOf b := by cases o <;> rfl
theorem fold_things (o : Bool) (x : Bytes) : ∀ (cs : List Cond) (c0 : Cond), x ∈ thingsOf (cs.foldl (opC o) c0) ↔ x ∈ thingsOf c0 ∨ ∃ c ∈ cs, x ∈ thingsOf c
  | [], c0 => by simp
  | c :: r, c0 => by
    rw [List.foldl_cons, fold_things o x r, opC_things, List.mem_append]
    simp only [List.mem_cons, exists_eq_or_imp, or_assoc]
theorem KnowsC.fst {s : House} {o : Bool} {c0 : Cond} {cs : List Cond} (h : KnowsC s (cs.foldl (opC o) c0)) : KnowsC s c0 := fun x hx => h x ((fold_things o x cs c0).mpr (.inl hx))
theorem KnowsC.of {s : House} {o : Bool} {c0 c : Cond} {cs : List Cond} (h : KnowsC s (cs.foldl (opC o) c0)) (hc : c ∈ cs) : KnowsC s c := fun x hx => h x ((fold_things o x cs c0).mpr (.inr ⟨c, hc, hx⟩))
theorem holds_fold (s : House) (o : Bool) : ∀ (cs : List Cond) (c0 : Cond), Hr01.holds s (cs.foldl (opC o) c0) = if o then (c0 :: cs).any (Hr01.holds s) else (c0 :: cs).all (Hr01.holds s)
  | [], c0 => by cases o <;> simp
  | c :: r, c0 => by
    rw [List.foldl_cons, holds_fold s o r]
    cases o
    · show (opC false c0 c :: r).all (Hr01.holds s) = (c0 :: c :: r).all (Hr01.holds s)
      simp only [List.all_cons]
      show ((Hr01.holds s c0 && Hr01.holds s c) && _) = _
      rw [Bool.and_assoc]
    · show (opC true c0 c :: r).any (Hr01.holds s) = (c0 :: c :: r).any (Hr01.holds s)
      simp only [List.any_cons]
      show ((Hr01.holds s c0 || Hr01.holds s c) || _) = _
      rw [Bool.or_assoc]
/-- as the program goes through the parts: the first that is o settles it -/
theorem holds_settle {s : House} {o : Bool} {l : List Cond} {i : Nat} {c : Cond} (hi : l[i]? = some c) (h : Hr01.holds s c = o) : (if o then l.any (Hr01.holds s) else l.all (Hr01.holds s)) = o := by
  have hm := List.mem_of_getElem? hi
  cases o
  · show l.all _ = false
    exact Bool.eq_false_iff.mpr fun z => by rw [List.all_eq_true] at z; rw [z c hm] at h; cases h
  · exact List.any_eq_true.mpr ⟨c, hm, h⟩
theorem holds_none {s : House} {o : Bool} {l : List Cond} (h : ∀ c ∈ l, Hr01.holds s c = !o) : (if o then l.any (Hr01.holds s) else l.all (Hr01.holds s)) = !o := by
  cases o
  · exact List.all_eq_true.mpr h
  · show l.any _ = false
    exact Bool.eq_false_iff.mpr fun z => by
      obtain ⟨c, hc, e⟩ := List.any_eq_true.mp z
      rw [h c hc] at e; cases e
section
variable {P : Program} {w : World} {K : PySem.W.Frag} {mg : Str → Option Value} {base : Heap}
/-- a comparison in the heap -/
def LeafAt (H : Hp) (v : V) (o : Bool) (x y : Sum) : Prop := ∃ a l r, v = .ref a ∧ H a = some (.tup [vS (if o then ascii "<" else ascii "="), l, r]) ∧ SumAt H l x ∧ SumAt H r y
def leafC (o : Bool) (x y : Sum) : Cond := if o then .less x y else .same x y
def sp_compares (K : PySem.W.Frag) : Sp := fun vs H Q _ => ∃ (v : V) (ad : Addr) (s : House) (o : Bool) (x y : Sum), vs = [v, .ref ad] ∧ LeafAt H v o x y ∧ H ad = some (.dK (rdg s)) ∧ Names s ∧ KnowsC s (leafC o x y) ∧ Q (.bl (Hr01.holds s (leafC o x y))) H
theorem sc_compares : FnScope ["comparison", "readings", "left", "right"] ["comparison", "readings"] (defScope s_compares) := ⟨rfl, rfl, rfl, by decide +kernel, rfl, by decide +kernel, by decide +kernel⟩
theorem ok_compares (g : Good w K mg) : FnOk P w K mg base CX0 2 (He.ga K "compares") (fdA K (He.ga K "compares")) ["comparison", "readings"] (sp_compares K) := by
  refine (F_compares g).ok sc_compares (fun vs H Q E h => ?_) (fun cdv A outer s0 H vs Q E hr h => ⟨_, PSs.nox (pss_cons (ps_set (i := 2) sc_compares.nd rfl (Or.inl rfl) (pe_call (ok_total g) (hr.mono (by decide)) rfl (m_total g) (F_total g).kp (b_total g) .nil pass0 (pa_cons (pe_ix ix_tup (pv 0) pe_int (fun _ _ => rfl)) (pa_cons (pv 1) pa_nil)))) (pss_cons (ps_set (i := 3) sc_compares.nd rfl (Or.inl rfl) (pe_call (ok_total g) (hr.mono (by decide)) rfl (m_total g) (F_total g).kp (b_total g) .nil pass0 (pa_cons (pe_ix ix_tup (pv 0) pe_int (fun _ _ => rfl)) (pa_cons (pv 1) pa_nil)))) (pss_one (ps_ret (pe_ifExp (pt_cmpR op_eq (pe_ix ix_tup (pv 0) pe_int (fun _ _ => rfl)) pe_str (nomark _)) (pe_cmpR op_lt (pv 2) (pv 3) (nomark _)) (pe_cmpR op_eq (pv 2) (pv 3) (nomark _))))))), ?_⟩)
  · obtain ⟨v, ad, s, o, x, y, rfl, _⟩ := h; rfl
  · obtain ⟨v, ad, s, o, x, y, rfl, ⟨a, l, r, rfl, ha, hx, hy⟩, hd, N, kn, k⟩ := h
    have kx : KnowsS s x := fun z hz => kn z (by cases o <;> exact List.mem_append_left _ hz)
    have ky : KnowsS s y := fun z hz => kn z (by cases o <;> exact List.mem_append_right _ hz)
    have el : (("<" : String) : Str) = S (ascii "<") := S_of "<"
    refine ⟨_, rfl, a, _, _, _, rfl, rfl, SqT.of ha, atI_nat (j := 1) rfl, _, rfl, l, ad, s, x, rfl, hx, hd, N, kx, ?_⟩
    refine ⟨_, rfl, a, _, _, _, rfl, rfl, SqT.of ha, atI_nat (j := 2) rfl, _, rfl, r, ad, s, y, rfl, hy, hd, N, ky, ?_⟩
    refine ⟨_, rfl, a, _, _, _, rfl, rfl, SqT.of ha, atI_nat (j := 0) rfl, rfl, _, rfl, ?_⟩
    rw [el, S_dec]
    cases o with
    | true =>
      refine iteT ⟨_, rfl, _, rfl, _, _, rfl, rfl, ?_⟩
      exact k
    | false =>
      refine iteF ⟨_, rfl, _, rfl, rfl, ?_⟩
      rw [dec_int]
      exact k
/-! holds -/
theorem CondAt.cases {H : Hp} {n : Nat} {v : V} {c : Cond} (h : CondAt H (n + 1) v c) : (∃ o x y, LeafAt H v o x y ∧ c = leafC o x y) ∨
    (∃ a i x, v = .ref a ∧ H a = some (.tup [vS (ascii "~"), i]) ∧ CondAt H n i x ∧ c = .not x) ∨
    ∃ a o p v0 vs c0 cs, v = .ref a ∧ H a = some (.tup [vS (sgO o), .ref p]) ∧ H p = some (.tup (v0 :: vs)) ∧ vs ≠ [] ∧ CondAt H n v0 c0 ∧ Paired (CondAt H n) vs cs ∧ c = cs.foldl (opC o) c0 := by
  obtain ⟨a, e, h⟩ := h
  rcases h with ⟨o, l, r, x, y, h1, h2, h3, h4⟩ | ⟨i, x, h1, h2, h3⟩ | ⟨o, p, v0, vs, c0, cs, h1, h2, h3, h4, h5, h6⟩
  · exact .inl ⟨o, x, y, ⟨a, l, r, e, h1, h2, h3⟩, h4⟩
  · exact .inr (.inl ⟨a, i, x, e, h1, h2, h3⟩)
  · exact .inr (.inr ⟨a, o, p, v0, vs, c0, cs, e, h1, h2, h3, h4, h5, h6⟩)
def sp_holds (K : PySem.W.Frag) (n : Nat) : Sp := fun vs H Q _ => ∃ (v : V) (ad : Addr) (s : House) (c : Cond), vs = [v, .ref ad] ∧ CondAt H n v c ∧ H ad = some (.dK (rdg s)) ∧ Names s ∧ KnowsC s c ∧ Q (.bl (Hr01.holds s c)) H
theorem sc_holds : FnScope ["condition", "readings", "sign", "settles", "part"] ["condition", "readings"] (defScope s_holds) := ⟨rfl, rfl, rfl, by decide +kernel, rfl, by decide +kernel, by decide +kernel⟩
theorem ok_holds_step (g : Good w K mg) {n : Nat} (ih : FnOk P w K mg base CX0 (n + 3) (He.ga K "holds") (fdA K (He.ga K "holds")) ["condition", "readings"] (sp_holds K n)) :
    FnOk P w K mg base CX0 (n + 4) (He.ga K "holds") (fdA K (He.ga K "holds")) ["condition", "readings"] (sp_holds K (n + 1)) := by
  refine (F_holds g).ok sc_holds (fun vs H Q E h => ?_) (fun cdv A outer s0 H vs Q E hr h => ⟨_, PSs.nox (pss_cons (ps_set (i := 2) sc_holds.nd rfl (Or.inl rfl) (pe_ix ix_tup (pv 0) pe_int (fun _ _ => rfl))) (pss_cons (ps_if (PW.pt (pw_or (pt_cmpR op_eq (pv 2) pe_str (nomark _)) (pw_or1 (pt_cmpR op_eq (pv 2) pe_str (nomark _))))) (pss_one (ps_ret (pe_call (ok_compares g) (hr.mono (by omega)) rfl (m_compares g) (F_compares g).kp (b_compares g) .nil pass0 (pa_cons (pv 0) (pa_cons (pv 1) pa_nil))))) pss_nil) (pss_cons (ps_if (pt_cmpR op_eq (pv 2) pe_str (nomark _)) (pss_one (ps_ret (pe_not (pe_call ih (hr.mono (by omega)) rfl (m_holds g) (F_holds g).kp (b_holds g) .nil pass0 (pa_cons (pe_ix ix_tup (pv 0) pe_int (fun _ _ => rfl)) (pa_cons (pv 1) pa_nil)))))) pss_nil) (pss_cons (ps_set (i := 3) sc_holds.nd rfl (Or.inl rfl) (pe_cmpR op_eq (pv 2) pe_str (nomark _))) (pss_cons (ps_for PassesOwn.never rfl (pi_tup (pe_ix ix_tup (pv 0) pe_int (fun _ _ => rfl))) (pg_name (i := 4) sc_holds.nd rfl (Or.inl rfl)) (pss_one (ps_if (pt_cmpR op_eq (pe_call ih (hr.mono (by omega)) rfl (m_holds g) (F_holds g).kp (b_holds g) .nil pass0 (pa_cons (pv 4) (pa_cons (pv 1) pa_nil))) (pv 3) (nomark _)) (pss_one (ps_ret (pv 3))) pss_nil))) (pss_one (ps_ret (pe_not (pv 3))))))))), ?_⟩)
  · obtain ⟨v, ad, s, c, rfl, _⟩ := h; rfl
  · obtain ⟨v, ad, s, c, rfl, hc, hd, N, kn, k⟩ := h
    have e1 : (("<" : String) : Str) = S (ascii "<") := S_of "<"
    have e2 : (("=" : String) : Str) = S (ascii "=") := S_of "="
    have e3 : (("~" : String) : Str) = S (ascii "~") := S_of "~"
    have e4 : (("|" : String) : Str) = S (ascii "|") := S_of "|"
    rcases hc.cases with ⟨o, x, y, hl, rfl⟩ | ⟨a, i, x, rfl, ha, hi, rfl⟩ | ⟨a, o, p, v0, vs, c0, cs, rfl, ha, hp, _, h0, hs, rfl⟩
    · have hl' := hl
      obtain ⟨a, l, r, rfl, ha, _, _⟩ := hl
      refine ⟨_, rfl, a, _, _, _, rfl, rfl, SqT.of ha, atI_nat (j := 0) rfl, ?_⟩
      dsimp only [gName, tSeq, tIfS]
      refine test_or (a := o) (b := !o) (fun Q' z => ⟨_, rfl, rfl, _, rfl, by rw [e1, S_dec]; cases o <;> exact z⟩) (fun Q' z => ⟨_, rfl, rfl, _, rfl, by rw [e2, S_dec]; cases o <;> exact z⟩) ?_
      rw [show (o || !o) = true by cases o <;> rfl]
      exact iteT ⟨_, rfl, _, rfl, _, ad, s, o, x, y, rfl, hl', hd, N, kn, k⟩
    · refine ⟨_, rfl, a, _, _, _, rfl, rfl, SqT.of ha, atI_nat (j := 0) rfl, ?_⟩
      dsimp only [gName, tSeq, tIfS]
      refine test_or (a := false) (b := false) (fun Q' z => ⟨_, rfl, rfl, _, rfl, by rw [e1, S_dec]; exact z⟩) (fun Q' z => ⟨_, rfl, rfl, _, rfl, by rw [e2, S_dec]; exact z⟩) ?_
      refine iteF ⟨_, rfl, rfl, _, rfl, ?_⟩
      rw [e3, S_dec]
      exact iteT ⟨_, rfl, a, _, _, _, rfl, rfl, SqT.of ha, atI_nat (j := 1) rfl, _, rfl, i, ad, s, x, rfl, hi, hd, N, kn, _, rfl, k⟩
    · refine ⟨_, rfl, a, _, _, _, rfl, rfl, SqT.of ha, atI_nat (j := 0) rfl, ?_⟩
      dsimp only [gName, tSeq, tIfS]
      refine test_or (a := false) (b := false) (fun Q' z => ⟨_, rfl, rfl, _, rfl, by rw [e1, S_dec]; cases o <;> exact z⟩) (fun Q' z => ⟨_, rfl, rfl, _, rfl, by rw [e2, S_dec]; cases o <;> exact z⟩) ?_
      refine iteF ⟨_, rfl, rfl, _, rfl, ?_⟩
      rw [e3, S_dec, show decide (sgO o = ascii "~") = false by cases o <;> rfl]
      refine iteF ⟨_, rfl, rfl, ?_⟩
      rw [e4, S_dec, show decide (sgO o = ascii "|") = o by cases o <;> rfl]
      refine ⟨_, rfl, a, _, _, _, rfl, rfl, SqT.of ha, atI_nat (j := 1) rfl, p, rfl, ⟨_, SqT.of hp⟩, ?_⟩
      have hall : Paired (CondAt H n) (v0 :: vs) (c0 :: cs) := .cons h0 hs
      rw [holds_fold] at k
      refine for_tup (K := K) (a := p) (xs := v0 :: vs) (fun i σ H' => H' = H ∧ (∃ z, σ = [some (.ref a), some (.ref ad), some (vS (sgO o)), some (.bl o), z]) ∧ ∀ c ∈ (c0 :: cs).take i, Hr01.holds s c = !o)
        ⟨rfl, ⟨none, rfl⟩, by simp⟩ (fun i σ H' _ z => by rw [z.1]; exact SqT.of hp) ?_ ?_
      · rintro i x σ H' hi ⟨rfl, ⟨z, rfl⟩, hb⟩
        obtain ⟨c, hci, hca⟩ := paired_get hall hi
        have kc : KnowsC s c := by
          rcases List.mem_cons.mp (List.mem_of_getElem? hci) with rfl | hm
          · exact kn.fst
          · exact kn.of hm
        refine ⟨_, rfl, _, rfl, x, ad, s, c, rfl, hca, hd, N, kc, _, rfl, rfl, _, rfl, ?_⟩
        rw [dec_bl]
        by_cases e : Hr01.holds s c = o
        · rw [beq_iff_eq.mpr e]
          refine iteT ⟨_, rfl, ?_⟩
          rw [holds_settle hci e] at k
          exact k
        · rw [beq_eq_false_iff_ne.mpr e]
          refine iteF ⟨rfl, ⟨some x, rfl⟩, fun d hd' => ?_⟩
          rw [List.take_succ, hci] at hd'
          rcases List.mem_append.mp hd' with hd' | hd'
          · exact hb d hd'
          · have : d = c := by simpa using hd'
            subst this
            cases o <;> cases h' : Hr01.holds s d <;> simp_all
      · rintro σ H' ⟨rfl, ⟨z, rfl⟩, hb⟩
        rw [hall.length, List.take_length] at hb
        rw [holds_none hb] at k
        exact ⟨_, rfl, _, rfl, k⟩
theorem ok_holds_n (g : Good w K mg) : ∀ n : Nat, FnOk P w K mg base CX0 (n + 3) (He.ga K "holds") (fdA K (He.ga K "holds")) ["condition", "readings"] (sp_holds K n)
  | 0 => ⟨fun vs H Q E ⟨_, _, _, _, _, h, _⟩ => h.elim, fun A outer s H args us vs Q E _ _ _ _ ⟨_, _, _, _, _, h, _⟩ => h.elim⟩
  | n + 1 => ok_holds_step g (ok_holds_n g n)
theorem ok_holds (g : Good w K mg) : FnOk P w K mg base CX0 23 (He.ga K "holds") (fdA K (He.ga K "holds")) ["condition", "readings"] (sp_holds K 20) := ok_holds_n g 20
end
end Hw
end

/-! ## part Q3 -/
section
set_option Elab.async false
set_option linter.all false
set_option maxRecDepth 100000
set_option maxHeartbeats 2000000
namespace Hw
open PySem PySem.Spec PyProof.Rows L2
open Hr01 (Bytes Words Term Sum Cond ascii isName num? term? digit small sum? parted Cmd Rule cmd? Thing House By byText thingsIn thingsOf valueOf termValue sumValue isSensor thingOf ruleOf leaves joined decimal told listed termText sumText condText)
/-! ### numbers and joined texts -/
theorem dec_S (n : Nat) : ((toString ((n : Nat) : Int) : String) : Str) = S (decimal n) := TL.ext_tl (TL.tl_num n)
theorem dec_len {n k : Nat} (hk : 0 < k) (h : n < 10 ^ k) : (decimal n).length ≤ k := TL.numL_len hk h
theorem log_small {n : Nat} (h : n < 2 ^ 64) : ((n : Nat) : Int).natAbs.log2 < 1920 := by
  rw [Int.natAbs_natCast]
  by_cases z : n = 0
  · subst z; decide
  · have : n.log2 < 64 := (Nat.log2_lt z).mpr h
    omega
theorem joinL_joined (c : Nat) : ∀ l : List Bytes, TL.joinL [c] l = joined c l
  | [] => rfl
  | [w] => rfl
  | w :: x :: r => by
    show w ++ ([c] ++ TL.joinL [c] (x :: r)) = w ++ c :: joined c (x :: r)
    rw [joinL_joined c (x :: r)]; rfl
theorem join_sep {sep : Str} {c : Nat} (h : sep = S [c]) (l : List Bytes) : Txt.join sep (l.map S) = S (joined c l) := by
  subst h
  refine TL.ext_tl ?_
  rw [TL.join_eq, TL.tl_join]
  show TL.joinL [c] ((l.map S).map TL.tl) = joined c l
  rw [List.map_map, show (TL.tl ∘ S) = id from rfl, List.map_id, joinL_joined]
theorem sum_lens (l : List Bytes) : ((l.map S).map (·.length)).sum = (l.map (·.length)).sum := by
  rw [List.map_map]
  congr 1
/-- the length of the words, and one for each -/
def wlen (l : Words) : Nat := (l.map (·.length)).sum + l.length
theorem wlen_nil : wlen [] = 0 := rfl
theorem wlen_cons (x : Bytes) (l : Words) : wlen (x :: l) = x.length + 1 + wlen l := by simp [wlen]; omega
theorem wlen_append (a b : Words) : wlen (a ++ b) = wlen a + wlen b := by simp [wlen]; omega
theorem wlen_drop (a : Words) : wlen (a.drop 1) ≤ wlen a := by
  cases a with
  | nil => simp
  | cons x r => rw [wlen_cons]; show wlen r ≤ _; omega
theorem joined_wlen (c : Nat) (l : Words) : (joined c l).length ≤ wlen l := joined_len l
theorem isName_len {x : Bytes} (h : isName x = true) : x.length ≤ 8 := by
  unfold isName at h
  simp only [Bool.and_eq_true, decide_eq_true_eq] at h
  exact h.2.1
theorem termText_len {t : Term} (h : TermOk t) : (termText t).length ≤ 8 := by
  cases t with
  | num n => exact Nat.le_trans (dec_len (k := 5) (by decide) (by have : n ≤ 99999 := h; omega)) (by decide)
  | thing x => exact isName_len h
  | time => decide
theorem termsT_len : ∀ {l : Sum}, (∀ x ∈ l, TermOk x.2) → wlen (termsT l) ≤ 11 * l.length
  | [], _ => by simp [termsT, wlen]
  | x :: r, h => by
    have ih := termsT_len fun y hy => h y (List.mem_cons_of_mem _ hy)
    have e : termsT (x :: r) = signT x.1 :: termText x.2 :: termsT r := rfl
    have h1 := termText_len (h x (List.mem_cons_self ..))
    have h2 : (signT x.1).length = 1 := by unfold signT; cases x.1 <;> rfl
    rw [e, wlen_cons, wlen_cons, List.length_cons]
    omega
theorem sumText_len {l : Sum} (h : SumOk l) : wlen (sumText l) ≤ 44 := by
  rw [sumText_terms]
  have h1 := wlen_drop (termsT l)
  have h2 := termsT_len h.each
  have h3 := h.len
  omega
theorem ascii1 {s : String} {c : Nat} (h : ascii s = [c]) : (ascii s).length = 1 := by rw [h]; rfl
theorem condText_len : ∀ (c : Cond) (k : Nat), CondOk c → wlen (condText c k) ≤ 200 * csize c
  | .less a b, k, h => by
    have h1 := sumText_len h.1; have h2 := sumText_len h.2
    have e : condText (.less a b) k = sumText a ++ ascii "<" :: sumText b := rfl
    rw [e, wlen_append, wlen_cons, show (ascii "<").length = 1 from rfl]; simp only [csize]; omega
  | .same a b, k, h => by
    have h1 := sumText_len h.1; have h2 := sumText_len h.2
    have e : condText (.same a b) k = sumText a ++ ascii "=" :: sumText b := rfl
    rw [e, wlen_append, wlen_cons, show (ascii "=").length = 1 from rfl]; simp only [csize]; omega
  | .not c, k, h => by
    have h1 := condText_len c 2 h
    have e : condText (.not c) k = ascii "~" :: condText c 2 := rfl
    rw [e, wlen_cons, show (ascii "~").length = 1 from rfl]; simp only [csize]; omega
  | .both a b, k, h => by
    have h1 := condText_len a 1 h.1; have h2 := condText_len b 2 h.2
    have e : condText (.both a b) k = if 1 < k then ascii "(" :: (condText a 1 ++ ascii "&" :: condText b 2) ++ [ascii ")"] else condText a 1 ++ ascii "&" :: condText b 2 := rfl
    rw [e]; simp only [csize]
    split
    · rw [wlen_append, wlen_cons, wlen_append, wlen_cons, wlen_cons, wlen_nil, show (ascii "(").length = 1 from rfl, show (ascii ")").length = 1 from rfl, show (ascii "&").length = 1 from rfl]; omega
    · rw [wlen_append, wlen_cons, show (ascii "&").length = 1 from rfl]; omega
  | .either a b, k, h => by
    have h1 := condText_len a 0 h.1; have h2 := condText_len b 1 h.2
    have e : condText (.either a b) k = if 0 < k then ascii "(" :: (condText a 0 ++ ascii "|" :: condText b 1) ++ [ascii ")"] else condText a 0 ++ ascii "|" :: condText b 1 := rfl
    rw [e]; simp only [csize]
    split
    · rw [wlen_append, wlen_cons, wlen_append, wlen_cons, wlen_cons, wlen_nil, show (ascii "(").length = 1 from rfl, show (ascii ")").length = 1 from rfl, show (ascii "|").length = 1 from rfl]; omega
    · rw [wlen_append, wlen_cons, show (ascii "|").length = 1 from rfl]; omega
section
variable {P : Program} {w : World} {K : PySem.W.Frag} {mg : Str → Option Value} {base : Heap}
/-! show_sum -/
def sp_show_sum (K : PySem.W.Frag) : Sp := fun vs H Q _ => ∃ (v : V) (l : Sum), vs = [v] ∧ SumAt H v l ∧ SumOk l ∧ ∀ H', Same H H' → Q (vS (joined 32 (sumText l))) H'
theorem sc_show_sum : FnScope ["terms", "words", "factor", "number", "name"] ["terms"] (defScope s_show_sum) := ⟨rfl, rfl, rfl, by decide +kernel, rfl, by decide +kernel, by decide +kernel⟩
theorem ok_show_sum (g : Good w K mg) : FnOk P w K mg base CX0 1 (He.ga K "show_sum") (fdA K (He.ga K "show_sum")) ["terms"] (sp_show_sum K) := by
  refine (F_show_sum g).ok sc_show_sum (fun vs H Q E h => ?_) (fun cdv A outer s0 H vs Q E hr h => ⟨_, PSs.nox (pss_cons (ps_set (i := 1) sc_show_sum.nd rfl (Or.inl rfl) (pe_lst pa_nil)) (pss_cons (ps_for PassesOwn.never rfl (pi_tup (pv 0)) (pg_tup rfl (pgs_cons (pg_name (i := 2) sc_show_sum.nd rfl (Or.inl rfl)) (pgs_cons (pg_name (i := 3) sc_show_sum.nd rfl (Or.inl rfl)) (pgs_cons (pg_name (i := 4) sc_show_sum.nd rfl (Or.inl rfl)) pgs_nil)))) (pss_cons (ps_expr (pe_bm PySem.F.plainAttrs_list PySem.F.slot_list_append PySem.F.type_list_append mt_append (pv 1) (pa_cons (pe_ifExp (pt_cmpR op_eq (pv 2) pe_int (nomark _)) pe_str pe_str) pa_nil))) (pss_one (ps_expr (pe_bm PySem.F.plainAttrs_list PySem.F.slot_list_append PySem.F.type_list_append mt_append (pv 1) (pa_cons (pe_ifExp (pt_cmpR op_eq (pv 4) pe_str (nomark _)) (pe_callTy call_str_int rfl (fr_str g) (by decide +kernel) (pa_cons (pv 3) pa_nil)) (pv 4)) pa_nil)))))) (pss_one (ps_ret (pe_join pe_str (pe_slice sl_list (pv 1) (po_some pe_int) po_none)))))), ?_⟩)
  · obtain ⟨v, l, rfl, _⟩ := h; rfl
  · obtain ⟨v, l, rfl, ⟨a, ts, rfl, ha, hp⟩, ok, k⟩ := h
    have ep : (("+" : String) : Str) = S (ascii "+") := S_of "+"
    have em : (("-" : String) : Str) = S (ascii "-") := S_of "-"
    have ee : (("" : String) : Str) = S [] := S_of ""
    have es : ((" " : String) : Str) = S [32] := S_of " "
    have lt := hp.length
    refine ⟨by show 0 ≤ sizeLine; decide, fun L hL => ?_⟩
    refine ⟨_, rfl, a, rfl, ⟨_, SqT.of (same_new hL _ _ ha)⟩, ?_⟩
    refine for_tup (K := K) (a := a) (xs := ts) (fun i σ H' => Same H H' ∧ H' L = some (.lst ((termsT (l.take i)).map vS)) ∧ ∃ x y z, σ = [some (.ref a), some (.ref L), x, y, z])
      ⟨same_new hL, upd_same, none, none, none, rfl⟩ (fun i σ H' _ z => SqT.of (z.1 _ _ ha)) ?_ ?_
    · rintro i x σ H' hi ⟨sm, hLi, x1, x2, x3, rfl⟩
      obtain ⟨⟨p, t⟩, ht, b, rfl, hb⟩ := paired_get hp hi
      have hb' := sm _ _ hb
      have tok := ok.each _ (List.mem_of_getElem? ht)
      have il : i < l.length := (List.getElem?_eq_some_iff.mp ht).1
      have el : l.take (i + 1) = l.take i ++ [(p, t)] := by rw [List.take_succ, ht]; rfl
      have ln : (termsT (l.take i)).length ≤ 8 := by
        have e : ∀ q : Sum, (termsT q).length = 2 * q.length := fun q => by
          induction q with
          | nil => rfl
          | cons y r ih => show (signT y.1 :: termText y.2 :: termsT r).length = _; simp [ih]; omega
        rw [e, List.length_take]; have := ok.len; omega
      have et : termsT (l.take (i + 1)) = termsT (l.take i) ++ [signT p] ++ [termText t] := by
        rw [el]; unfold termsT; rw [List.flatMap_append]; simp
      have s1 : ((termsT (l.take i)).map vS).length < sizeLine := by rw [List.length_map, sizeLine_eq]; omega
      have s2 : ((termsT (l.take i)).map vS ++ [vS (signT p)]).length < sizeLine := by rw [List.length_append, List.length_map, sizeLine_eq]; simp; omega
      -- the loop's invariant behind both appends
      have fin : ∀ (f n x : Option V) (y : V), y = vS (termText t) → (fun σ H' => Same H H' ∧ H' L = some (.lst ((termsT (l.take (i + 1))).map vS)) ∧ ∃ x y z, σ = [some (.ref a), some (.ref L), x, y, z]) [some (.ref a), some (.ref L), f, n, x]
          (upd (upd H' L (.lst ((termsT (l.take i)).map vS ++ [vS (signT p)]))) L (.lst ((termsT (l.take i)).map vS ++ [vS (signT p)] ++ [y]))) := by
        intro f n x y ey
        subst ey
        refine ⟨fun b o z => ?_, ?_, f, n, x, rfl⟩
        · have nb := ne_of_none z hL
          rw [upd_ne nb, upd_ne nb]; exact sm b o z
        · rw [upd_same, et, List.map_append, List.map_append]; rfl
      have sg1 : ∀ {σ : L2.St} {H0 : Hp} {Q0 : VK}, Q0 (vS (signT p)) H0 → (if decide (V.int (sgn p) = V.int 1) = true then tC (.str (Str.ofString "+")) σ H0 Q0 else tC (.str (Str.ofString "-")) σ H0 Q0) := by
        intro σ H0 Q0 q
        cases p
        · refine iteF ?_
          show Q0 (.str _) H0
          rw [em]; exact q
        · refine iteT ?_
          show Q0 (.str _) H0
          rw [ep]; exact q
      cases t with
      | num n =>
        refine ⟨b, _, rfl, SqT.of hb', rfl, _, _, rfl, _, _, rfl, _, _, rfl, rfl, ?_⟩
        refine ⟨_, rfl, Or.inl ⟨rfl, _, SqL.of hLi⟩, _, rfl, rfl, _, rfl, sg1 ⟨L, _, _, rfl, rfl, hLi, s1, ?_⟩⟩
        refine ⟨_, rfl, Or.inl ⟨rfl, _, SqL.of upd_same⟩, _, rfl, rfl, _, rfl, ?_⟩
        rw [ee, S_dec]
        refine iteT ⟨_, rfl, _, rfl, log_small (by have : n ≤ 99999 := tok; omega), L, _, _, rfl, rfl, upd_same, s2, fin _ _ _ _ ?_⟩
        show V.str _ = _
        rw [dec_S]; rfl
      | thing x =>
        refine ⟨b, _, rfl, SqT.of hb', rfl, _, _, rfl, _, _, rfl, _, _, rfl, rfl, ?_⟩
        refine ⟨_, rfl, Or.inl ⟨rfl, _, SqL.of hLi⟩, _, rfl, rfl, _, rfl, sg1 ⟨L, _, _, rfl, rfl, hLi, s1, ?_⟩⟩
        refine ⟨_, rfl, Or.inl ⟨rfl, _, SqL.of upd_same⟩, _, rfl, rfl, _, rfl, ?_⟩
        rw [ee, S_dec, decide_eq_false (fun z : x = [] => by subst z; cases tok)]
        exact iteF ⟨_, rfl, L, _, _, rfl, rfl, upd_same, s2, fin _ _ _ _ rfl⟩
      | time =>
        refine ⟨b, _, rfl, SqT.of hb', rfl, _, _, rfl, _, _, rfl, _, _, rfl, rfl, ?_⟩
        refine ⟨_, rfl, Or.inl ⟨rfl, _, SqL.of hLi⟩, _, rfl, rfl, _, rfl, sg1 ⟨L, _, _, rfl, rfl, hLi, s1, ?_⟩⟩
        refine ⟨_, rfl, Or.inl ⟨rfl, _, SqL.of upd_same⟩, _, rfl, rfl, _, rfl, ?_⟩
        rw [ee, S_dec]
        exact iteF ⟨_, rfl, L, _, _, rfl, rfl, upd_same, s2, fin _ _ _ _ rfl⟩
    · rintro σ H' ⟨sm, hLi, x1, x2, x3, rfl⟩
      rw [lt, List.take_length] at hLi
      refine ⟨⟨_, rfl⟩, _, rfl, _, rfl, L, _, rfl, SqL.of hLi, fun q hq => ?_⟩
      have ec : cutV ((termsT l).map vS) (some 1) none = ((sumText l).map S).map V.str := by
        unfold cutV
        rw [HT.sIx_none, sumText_terms]
        have e1 : HT.sIx ((termsT l).map vS).length 0 (some 1) = min 1 ((termsT l).map vS).length := HT.sIx_nat _ _ 1
        rw [e1]
        cases termsT l with
        | nil => rfl
        | cons x r =>
          simp
          exact (List.take_of_length_le (by simp)).trans rfl
      rw [ec]
      have sl := sumText_len ok
      refine ⟨_, q, _, rfl, rfl, Or.inl (SqL.of upd_same), ?_, ?_⟩
      · rw [sum_lens, es, show (S [32]).length = 1 from rfl, List.length_map]
        unfold wlen at sl; omega
      · rw [es, join_sep rfl]
        exact k _ (fun b o z => by rw [upd_ne (ne_of_none (sm b o z) hq)]; exact sm b o z)
end
end Hw
end

/-! ## part Q4 -/
section
set_option Elab.async false
set_option linter.all false
set_option maxRecDepth 100000
set_option maxHeartbeats 2000000
namespace Hw
open PySem PySem.Spec PyProof.Rows L2
open Hr01 (Bytes Words Term Sum Cond ascii isName num? term? digit small sum? parted Cmd Rule cmd? Thing House By byText thingsIn thingsOf valueOf termValue sumValue isSensor thingOf ruleOf leaves joined decimal told listed termText sumText condText)
theorem opC_O : opC = opO := rfl
theorem sgO_T : sgO = sgT := rfl
theorem fold_ok (o : Bool) : ∀ (cs : List Cond) (c0 : Cond), CondOk (cs.foldl (opC o) c0) → CondOk c0 ∧ ∀ c ∈ cs, CondOk c
  | [], c0, h => ⟨h, by simp⟩
  | c :: r, c0, h => by
    obtain ⟨h1, h2⟩ := fold_ok o r _ h
    have h3 : CondOk c0 ∧ CondOk c := by cases o <;> exact h1
    exact ⟨h3.1, fun d hd => by
      rcases List.mem_cons.mp hd with rfl | hd
      · exact h3.2
      · exact h2 d hd⟩
theorem fold_size (o : Bool) : ∀ (cs : List Cond) (c0 : Cond), csize (cs.foldl (opC o) c0) = csize c0 + (cs.map fun c => 1 + csize c).sum
  | [], c0 => by simp
  | c :: r, c0 => by
    rw [List.foldl_cons, fold_size o r]
    have : csize (opC o c0 c) = 1 + csize c0 + csize c := by cases o <;> rfl
    rw [this, List.map_cons, List.sum_cons]; omega
theorem fold_part {o : Bool} {cs : List Cond} {c0 c : Cond} (h : c ∈ cs) : csize c ≤ csize (cs.foldl (opC o) c0) := by
  rw [fold_size]
  have : ∀ l : List Cond, c ∈ l → csize c ≤ (l.map fun c => 1 + csize c).sum := by
    intro l
    induction l with
    | nil => intro h; cases h
    | cons a r ih =>
      intro h
      rw [List.map_cons, List.sum_cons]
      rcases List.mem_cons.mp h with rfl | h
      · omega
      · have := ih h; omega
  have := this cs h
  omega
theorem fold_fst {o : Bool} {cs : List Cond} {c0 : Cond} : csize c0 ≤ csize (cs.foldl (opC o) c0) := by rw [fold_size]; omega
theorem fold_len {o : Bool} {cs : List Cond} {c0 : Cond} : cs.length ≤ csize (cs.foldl (opC o) c0) := by
  rw [fold_size]
  have : ∀ l : List Cond, l.length ≤ (l.map fun c => 1 + csize c).sum := by
    intro l
    induction l with
    | nil => simp
    | cons a r ih => rw [List.map_cons, List.sum_cons, List.length_cons]; omega
  have := this cs
  omega
section
variable {P : Program} {w : World} {K : PySem.W.Frag} {mg : Str → Option Value} {base : Heap}
/-! show_comparison -/
theorem leaf_text (o : Bool) (x y : Sum) (k : Nat) : condText (leafC o x y) k = sumText x ++ (if o then ascii "<" else ascii "=") :: sumText y := by cases o <;> rfl
def sp_show_comparison (K : PySem.W.Frag) : Sp := fun vs H Q _ => ∃ (v : V) (o : Bool) (x y : Sum), vs = [v] ∧ LeafAt H v o x y ∧ SumOk x ∧ SumOk y ∧ ∀ H', Same H H' → Q (vS (joined 32 (condText (leafC o x y) 0))) H'
theorem sc_show_comparison : FnScope ["comparison"] ["comparison"] (defScope s_show_comparison) := ⟨rfl, rfl, rfl, by decide +kernel, rfl, by decide +kernel, by decide +kernel⟩
theorem ok_show_comparison (g : Good w K mg) : FnOk P w K mg base CX0 2 (He.ga K "show_comparison") (fdA K (He.ga K "show_comparison")) ["comparison"] (sp_show_comparison K) := by
  refine (F_show_comparison g).ok sc_show_comparison (fun vs H Q E h => ?_) (fun cdv A outer s0 H vs Q E hr h => ⟨_, PSs.nox (pss_one (ps_ret (pe_join pe_str (pe_lst (pa_cons (pe_call (ok_show_sum g) (hr.mono (by decide)) rfl (m_show_sum g) (F_show_sum g).kp (b_show_sum g) .nil pass0 (pa_cons (pe_ix ix_tup (pv 0) pe_int (fun _ _ => rfl)) pa_nil)) (pa_cons (pe_ix ix_tup (pv 0) pe_int (fun _ _ => rfl)) (pa_cons (pe_call (ok_show_sum g) (hr.mono (by decide)) rfl (m_show_sum g) (F_show_sum g).kp (b_show_sum g) .nil pass0 (pa_cons (pe_ix ix_tup (pv 0) pe_int (fun _ _ => rfl)) pa_nil)) pa_nil))))))), ?_⟩)
  · obtain ⟨v, o, x, y, rfl, _⟩ := h; rfl
  · obtain ⟨v, o, x, y, rfl, ⟨a, l, r, rfl, ha, hx, hy⟩, ox, oy, k⟩ := h
    have es : ((" " : String) : Str) = S [32] := S_of " "
    have l1 := sumText_len ox
    have l2 := sumText_len oy
    have j1 := joined_wlen 32 (sumText x)
    have j2 := joined_wlen 32 (sumText y)
    refine ⟨⟨_, rfl⟩, _, rfl, a, _, _, _, rfl, rfl, SqT.of ha, atI_nat (j := 1) rfl, l, x, rfl, hx, ox, fun H1 s1 => ?_⟩
    refine ⟨_, rfl, a, _, _, _, rfl, rfl, SqT.of (s1 _ _ ha), atI_nat (j := 0) rfl, ?_⟩
    refine ⟨_, rfl, a, _, _, _, rfl, rfl, SqT.of (s1 _ _ ha), atI_nat (j := 2) rfl, r, y, rfl, hy.keep (Tups.of_same s1), oy, fun H2 s2 => ⟨by show 3 ≤ sizeLine; decide, fun p hp => ?_⟩⟩
    have sg1 : (if o then ascii "<" else ascii "=").length = 1 := by cases o <;> rfl
    refine ⟨_, p, [joined 32 (sumText x), if o then ascii "<" else ascii "=", joined 32 (sumText y)].map S, rfl, rfl, Or.inl (SqL.of upd_same), ?_, ?_⟩
    · rw [sum_lens, es, show (S [32]).length = 1 from rfl]
      simp only [List.map_cons, List.map_nil, List.sum_cons, List.sum_nil, List.length_cons, List.length_nil, sg1]
      omega
    · rw [es, join_sep rfl]
      have e : joined 32 [joined 32 (sumText x), if o then ascii "<" else ascii "=", joined 32 (sumText y)] = joined 32 (condText (leafC o x y) 0) := by
        rw [leaf_text]
        have := joined_flat (c := 32) (l := [sumText x, [if o then ascii "<" else ascii "="], sumText y]) (by
          intro z hz
          simp at hz
          rcases hz with rfl | rfl | rfl
          · exact sumText_ne ox.ne
          · simp
          · exact sumText_ne oy.ne)
        simpa [joined] using this
      rw [e]
      exact k _ ((s1.trans s2).trans (same_new hp))
/-! show_condition and its parts -/
def sp_show_condition (K : PySem.W.Frag) (n : Nat) : Sp := fun vs H Q _ => ∃ (v : V) (c : Cond), vs = [v] ∧ CondAt H n v c ∧ CondOk c ∧ csize c ≤ 1000 ∧ ∀ H', Same H H' → Q (vS (joined 32 (condText c 0))) H'
def sp_show_part (K : PySem.W.Frag) (n : Nat) : Sp := fun vs H Q _ => ∃ (v : V) (c : Cond) (k : Nat), vs = [v, .int ((k + 1 : Nat) : Int)] ∧ k ≤ 2 ∧ CondAt H n v c ∧ CondOk c ∧ csize c ≤ 1000 ∧ ∀ H', Same H H' → Q (vS (joined 32 (condText c k))) H'
theorem tight_kd (g : Good w K mg) {k : Str} {i : Int} (h : (k, He.Dv.int i) ∈ t_TIGHTNESS) : KDct K w (He.ga K "TIGHTNESS") k (.int i) := by
  have T : He.dicW K (He.ga K "TIGHTNESS") = some (He.keysIn w.params _) := g.tab 0 rfl
  obtain ⟨es, n, D⟩ := He.dicW_ok T
  obtain ⟨u, e, r⟩ := He.valsB_ok (g.x 1 (b := He.valsB K (He.ga K "TIGHTNESS") t_TIGHTNESS) rfl) h
  exact ⟨es, n, u, D.at_, D.lit, e, r⟩
/-- a condition's tuple begins with its sign -/
theorem tight_of (g : Good w K mg) {H : Hp} {n : Nat} {v : V} {c : Cond} (h : CondAt H n v c) : ∃ a x ys, v = .ref a ∧ H a = some (.tup (vS x :: ys)) ∧ KDct K w (He.ga K "TIGHTNESS") (S x) (.int (tight c : Nat)) := by
  cases n with
  | zero => exact h.elim
  | succ n =>
    rcases h.cases with ⟨o, x, y, ⟨a, l, r, rfl, ha, _, _⟩, rfl⟩ | ⟨a, i, x, rfl, ha, hi, rfl⟩ | ⟨a, o, p, v0, vs, c0, cs, rfl, ha, hp, ne, h0, hs, rfl⟩
    · refine ⟨a, _, _, rfl, ha, ?_⟩
      cases o
      · show KDct K w _ (S (ascii "=")) (.int 3)
        rw [← S_of]; exact tight_kd g (by simp [t_TIGHTNESS])
      · show KDct K w _ (S (ascii "<")) (.int 3)
        rw [← S_of]; exact tight_kd g (by simp [t_TIGHTNESS])
    · refine ⟨a, _, _, rfl, ha, ?_⟩
      show KDct K w _ (S (ascii "~")) (.int 3)
      rw [← S_of]; exact tight_kd g (by simp [t_TIGHTNESS])
    · refine ⟨a, _, _, rfl, ha, ?_⟩
      have hc : ∃ d r, cs = r ++ [d] := by
        cases e : cs.reverse with
        | nil => have : cs = [] := by simpa using e
                 subst this; cases hs; exact absurd rfl ne
        | cons d r => exact ⟨d, r.reverse, by have := congrArg List.reverse e; simpa using this⟩
      obtain ⟨d, r, rfl⟩ := hc
      rw [List.foldl_append]
      cases o
      · show KDct K w _ (S (ascii "&")) (.int 2)
        rw [← S_of]; exact tight_kd g (by simp [t_TIGHTNESS])
      · show KDct K w _ (S (ascii "|")) (.int 1)
        rw [← S_of]; exact tight_kd g (by simp [t_TIGHTNESS])
theorem sc_show_part : FnScope ["part", "tightness", "shown"] ["part", "tightness"] (defScope s_show_part) := ⟨rfl, rfl, rfl, by decide +kernel, rfl, by decide +kernel, by decide +kernel⟩
theorem S_append (a b : Bytes) : S a ++ S b = S (a ++ b) := TL.ext_tl (by rw [TL.tl_append])
theorem ok_show_part (g : Good w K mg) {n : Nat} (ih : FnOk P w K mg base CX0 (3 * n + 3) (He.ga K "show_condition") (fdA K (He.ga K "show_condition")) ["condition"] (sp_show_condition K n)) :
    FnOk P w K mg base CX0 (3 * n + 4) (He.ga K "show_part") (fdA K (He.ga K "show_part")) ["part", "tightness"] (sp_show_part K n) := by
  refine (F_show_part g).ok sc_show_part (fun vs H Q E h => ?_) (fun cdv A outer s0 H vs Q E hr h => ⟨_, PSs.nox (pss_cons (ps_set (i := 2) sc_show_part.nd rfl (Or.inl rfl) (pe_call ih (hr.mono (by omega)) rfl (m_show_condition g) (F_show_condition g).kp (b_show_condition g) .nil pass0 (pa_cons (pv 0) pa_nil))) (pss_one (ps_ret (pe_ifExp (pt_cmpR op_ge (pe_ix ix_kdict (pe_gR rfl (m_TIGHTNESS g)) (pe_ix ix_tup (pv 0) pe_int (fun _ _ => rfl)) (fun _ _ => rfl)) (pv 1) (nomark _)) (pv 2) (pe_joined (.cons pe_str (.cons (pe_fmt (pv 2)) (.cons pe_str .nil)))))))), ?_⟩)
  · obtain ⟨v, c, k, rfl, _⟩ := h; rfl
  · obtain ⟨v, c, kk, rfl, hk, hc, ok, sz, k⟩ := h
    have e1 : (("( " : String) : Str) = S [40, 32] := S_of "( "
    have e2 : ((" )" : String) : Str) = S [32, 41] := S_of " )"
    obtain ⟨a, x, ys, rfl, ha, hD⟩ := tight_of g hc
    have ln := Nat.le_trans (joined_wlen 32 (condText c 0)) (condText_len c 0 ok)
    refine ⟨_, rfl, _, c, rfl, hc, ok, sz, fun H1 s1 => ?_⟩
    refine ⟨_, rfl, a, _, _, _, rfl, rfl, SqT.of (s1 _ _ ha), atI_nat (j := 0) rfl, _, _, _, rfl, rfl, hD, _, rfl, _, _, rfl, rfl, _, rfl, ?_⟩
    rw [condText_k c hk] at k
    by_cases d : kk + 1 ≤ tight c
    · rw [decide_eq_true (by omega : ((kk + 1 : Nat) : Int) ≤ (tight c : Nat))]
      rw [if_pos d] at k
      exact iteT ⟨_, rfl, k _ s1⟩
    · rw [decide_eq_false (by omega : ¬ ((kk + 1 : Nat) : Int) ≤ (tight c : Nat))]
      rw [if_neg d] at k
      have ej : joined 32 (ascii "(" :: condText c 0 ++ [ascii ")"]) = [40, 32] ++ joined 32 (condText c 0) ++ [32, 41] := by
        have ne := condText_ne c 0 ok
        have h1 : joined 32 (ascii "(" :: (condText c 0 ++ [ascii ")"])) = ascii "(" ++ 32 :: joined 32 (condText c 0 ++ [ascii ")"]) := joined_cons (by simp)
        have h2 : joined 32 (condText c 0 ++ [ascii ")"]) = joined 32 (condText c 0) ++ 32 :: joined 32 [ascii ")"] := joined_append ne (by simp)
        show joined 32 (ascii "(" :: (condText c 0 ++ [ascii ")"])) = _
        rw [h1, h2]
        show [40] ++ 32 :: (_ ++ 32 :: [41]) = _
        simp
      rw [ej] at k
      have e0 : Str.empty = S [] := rfl
      have z0 : ((S [40, 32] : Str)).length ≤ sizeLine := by rw [S_len]; decide
      refine iteF ⟨_, rfl, ?_, ?_⟩
      · rw [e1, e0, S_append, S_len]; decide
      · refine ⟨_, rfl, Or.inl ⟨_, rfl, by rw [S_len]; exact Nat.le_trans ln (by rw [sizeLine_eq]; omega), _, rfl, ?_, _, rfl, ?_, ?_⟩⟩
        · rw [e1, e0, S_append, S_append, S_len, sizeLine_eq]; simp; omega
        · rw [e1, e2, e0, S_append, S_append, S_append, S_len, sizeLine_eq]; simp; omega
        · rw [e1, e2, e0, S_append, S_append, S_append]
          exact k _ s1
/-! show_chain -/
/-- the texts of a chain's parts and the signs between -/
def chainT (o : Bool) (c0 : Cond) (cs : List Cond) : List Words := condText c0 (kO o) :: cs.flatMap fun c => [[sgT o], condText c (kO o + 1)]
theorem chainT_flat (o : Bool) (c0 : Cond) (cs : List Cond) : (chainT o c0 cs).flatten = condText c0 (kO o) ++ cs.flatMap fun c => sgT o :: condText c (kO o + 1) := by
  unfold chainT
  rw [List.flatten_cons]
  congr 1
  induction cs with
  | nil => rfl
  | cons c r ih => rw [List.flatMap_cons, List.flatten_append, ih, List.flatMap_cons]; simp
theorem chainT_text {o : Bool} {c0 : Cond} {cs : List Cond} (ne : cs ≠ []) (h : CondOk (cs.foldl (opC o) c0)) : joined 32 ((chainT o c0 cs).map (joined 32)) = joined 32 (condText (cs.foldl (opC o) c0) 0) := by
  obtain ⟨h0, h1⟩ := fold_ok o cs c0 h
  rw [joined_flat, chainT_flat]
  · rw [opC_O, condText_fold o cs c0 0 (Nat.zero_le _) (fun z => absurd z ne)]
  · intro x hx
    rcases List.mem_cons.mp hx with rfl | hx
    · exact condText_ne c0 _ h0
    · obtain ⟨c, hc, hx⟩ := List.mem_flatMap.mp hx
      simp at hx
      rcases hx with rfl | rfl
      · simp
      · exact condText_ne c _ (h1 c hc)
theorem chainT_count (o : Bool) (c0 : Cond) (l : List Cond) : (chainT o c0 l).length = 2 * l.length + 1 := by
  unfold chainT
  rw [List.length_cons]
  congr 1
  induction l with
  | nil => rfl
  | cons c r ih => rw [List.flatMap_cons, List.length_append, ih]; simp; omega
theorem chainT_len {o : Bool} {c0 : Cond} {cs : List Cond} (h : CondOk (cs.foldl (opC o) c0)) (ne : cs ≠ []) (sz : csize (cs.foldl (opC o) c0) ≤ 1000) : (((chainT o c0 cs).map (joined 32)).map (·.length)).sum + (chainT o c0 cs).length ≤ 300000 := by
  have h1 : ∀ l : List Words, ((l.map (joined 32)).map (·.length)).sum ≤ wlen l.flatten := by
    intro l
    induction l with
    | nil => simp [wlen]
    | cons a r ih =>
      rw [List.map_cons, List.map_cons, List.sum_cons, List.flatten_cons, wlen_append]
      have := joined_wlen 32 a
      omega
  have h2 := chainT_count o c0 cs
  have h3 := h1 (chainT o c0 cs)
  have h4 : wlen (chainT o c0 cs).flatten ≤ 200 * csize (cs.foldl (opC o) c0) := by
    rw [chainT_flat, ← condText_fold o cs c0 0 (Nat.zero_le _) (fun z => absurd z ne), ← opC_O]
    exact condText_len _ _ h
  have h5 := fold_len (o := o) (cs := cs) (c0 := c0)
  omega
def sp_show_chain (K : PySem.W.Frag) (n : Nat) : Sp := fun vs H Q _ => ∃ (o : Bool) (p : Addr) (v0 : V) (ws : List V) (c0 : Cond) (cs : List Cond), vs = [vS (sgO o), .ref p] ∧ H p = some (.tup (v0 :: ws)) ∧ ws ≠ [] ∧ CondAt H n v0 c0 ∧ Paired (CondAt H n) ws cs ∧
  CondOk (cs.foldl (opC o) c0) ∧ csize (cs.foldl (opC o) c0) ≤ 1000 ∧ ∀ H', Same H H' → Q (vS (joined 32 (condText (cs.foldl (opC o) c0) 0))) H'
theorem sc_show_chain : FnScope ["sign", "parts", "tightness", "shown", "part"] ["sign", "parts"] (defScope s_show_chain) := ⟨rfl, rfl, rfl, by decide +kernel, rfl, by decide +kernel, by decide +kernel⟩
theorem ok_show_chain (g : Good w K mg) {n : Nat} (ih : FnOk P w K mg base CX0 (3 * n + 4) (He.ga K "show_part") (fdA K (He.ga K "show_part")) ["part", "tightness"] (sp_show_part K n)) :
    FnOk P w K mg base CX0 (3 * n + 5) (He.ga K "show_chain") (fdA K (He.ga K "show_chain")) ["sign", "parts"] (sp_show_chain K n) := by
  refine (F_show_chain g).ok sc_show_chain (fun vs H Q E h => ?_) (fun cdv A outer s0 H vs Q E hr h => ⟨_, PSs.nox (pss_cons (ps_set (i := 2) sc_show_chain.nd rfl (Or.inl rfl) (pe_ix ix_kdict (pe_gR rfl (m_TIGHTNESS g)) (pv 0) (fun _ _ => rfl))) (pss_cons (ps_set (i := 3) sc_show_chain.nd rfl (Or.inl rfl) (pe_lst (pa_cons (pe_call ih (hr.mono (by omega)) rfl (m_show_part g) (F_show_part g).kp (b_show_part g) .nil pass0 (pa_cons (pe_ix ix_tup (pv 1) pe_int (fun _ _ => rfl)) (pa_cons (pv 2) pa_nil))) pa_nil))) (pss_cons (ps_for PassesOwn.never rfl (pi_tup (pe_slice sl_tup (pv 1) (po_some pe_int) po_none)) (pg_name (i := 4) sc_show_chain.nd rfl (Or.inl rfl)) (pss_cons (ps_expr (pe_bm PySem.F.plainAttrs_list PySem.F.slot_list_append PySem.F.type_list_append mt_append (pv 3) (pa_cons (pv 0) pa_nil))) (pss_one (ps_expr (pe_bm PySem.F.plainAttrs_list PySem.F.slot_list_append PySem.F.type_list_append mt_append (pv 3) (pa_cons (pe_call ih (hr.mono (by omega)) rfl (m_show_part g) (F_show_part g).kp (b_show_part g) .nil pass0 (pa_cons (pv 4) (pa_cons (pe_op op_add (pv 2) pe_int) pa_nil))) pa_nil)))))) (pss_one (ps_ret (pe_join pe_str (pv 3))))))), ?_⟩)
  · obtain ⟨o, p, v0, ws, c0, cs, rfl, _⟩ := h; rfl
  · obtain ⟨o, p, v0, ws, c0, cs, rfl, hp, ne, h0, hs, ok, sz, k⟩ := h
    have es : ((" " : String) : Str) = S [32] := S_of " "
    have lw := hs.length
    have nc : cs ≠ [] := fun z => by subst z; cases hs; exact ne rfl
    obtain ⟨ok0, oks⟩ := fold_ok o cs c0 ok
    have sz0 : csize c0 ≤ 1000 := Nat.le_trans fold_fst sz
    have lc : cs.length ≤ 1000 := Nat.le_trans fold_len sz
    have hD : KDct K w (He.ga K "TIGHTNESS") (S (sgO o)) (.int ((kO o + 1 : Nat) : Int)) := by
      cases o
      · show KDct K w _ (S (ascii "&")) (.int 2)
        rw [← S_of]; exact tight_kd g (by simp [t_TIGHTNESS])
      · show KDct K w _ (S (ascii "|")) (.int 1)
        rw [← S_of]; exact tight_kd g (by simp [t_TIGHTNESS])
    have k1 : kO o ≤ 2 := by cases o <;> decide
    have k2 : kO o + 1 ≤ 2 := by cases o <;> decide
    refine ⟨_, rfl, _, _, _, rfl, rfl, hD, ?_⟩
    refine ⟨_, rfl, p, _, _, _, rfl, rfl, SqT.of hp, atI_nat (j := 0) rfl, _, rfl, v0, c0, kO o, rfl, k1, h0, ok0, sz0, fun H1 s1 => ⟨by show 1 ≤ sizeLine; decide, fun L hL => ?_⟩⟩
    have sL := same_new (o := HO.lst [vS (joined 32 (condText c0 (kO o)))]) hL
    have h12 := s1.trans sL
    have cut : cutV (v0 :: ws) (some 1) none = ws := by
      unfold cutV
      rw [HT.sIx_none]
      have e1 : HT.sIx (v0 :: ws).length 0 (some 1) = min 1 (v0 :: ws).length := HT.sIx_nat _ _ 1
      rw [e1]
      simp
    refine ⟨_, rfl, _, rfl, p, _, rfl, SqT.of (h12 _ _ hp), ?_, fun q hq => ?_⟩
    · have e1 : HT.sIx (v0 :: ws).length 0 (some 1) = min 1 (v0 :: ws).length := HT.sIx_nat _ _ 1
      rw [e1]; simp
    rw [cut]
    have sQ := same_new (o := HO.tup ws) hq
    have h13 := h12.trans sQ
    have l0 : H L = none := s1.free hL
    refine ⟨q, rfl, ⟨_, SqT.of upd_same⟩, ?_⟩
    refine for_tup (K := K) (a := q) (xs := ws) (fun i σ H' => Same H H' ∧ H' q = some (.tup ws) ∧ H' L = some (.lst ((chainT o c0 (cs.take i)).map fun t => vS (joined 32 t))) ∧ ∃ z, σ = [some (vS (sgO o)), some (.ref p), some (.int ((kO o + 1 : Nat) : Int)), some (.ref L), z])
      ⟨h13, upd_same, sQ _ _ upd_same, none, rfl⟩ (fun i σ H' _ z => SqT.of z.2.1) ?_ ?_
    · rintro i x σ H' hi ⟨sm, hq', hLi, z, rfl⟩
      obtain ⟨c, hci, hca⟩ := paired_get hs hi
      have hm := List.mem_of_getElem? hci
      have ec : chainT o c0 (cs.take (i + 1)) = chainT o c0 (cs.take i) ++ [[sgT o]] ++ [condText c (kO o + 1)] := by
        rw [List.take_succ, hci]; unfold chainT; rw [Option.toList_some, List.flatMap_append]; simp
      have ln : (chainT o c0 (cs.take i)).length ≤ 2001 := by
        rw [chainT_count, List.length_take]; omega
      have nLq : q ≠ L := ne_of hq' hLi (by intro z; cases z)
      have esg : (fun t => vS (joined 32 t)) [sgT o] = vS (sgO o) := rfl
      refine ⟨_, rfl, Or.inl ⟨rfl, _, SqL.of hLi⟩, _, rfl, L, _, _, rfl, rfl, hLi, by rw [List.length_map, sizeLine_eq]; omega, ?_⟩
      refine ⟨_, rfl, Or.inl ⟨rfl, _, SqL.of upd_same⟩, _, rfl, _, rfl, _, _, rfl, rfl, x, c, kO o + 1, rfl, k2, ?_, oks c hm, Nat.le_trans (fold_part hm) sz, fun H3 s3 => ?_⟩
      · refine hca.keep fun b xs e => ?_
        have e' := sm _ _ e
        rw [upd_ne (ne_of e' hLi (by intro z; cases z))]; exact e'
      · have hL3 := s3 _ _ (upd_same (H := H') (a := L))
        refine ⟨L, _, _, rfl, rfl, hL3, by rw [List.length_append, List.length_map, sizeLine_eq]; simp; omega, fun b o z => ?_, ?_, ?_, some x, rfl⟩
        · rw [upd_ne (ne_of_none z l0)]
          exact s3 _ _ (by rw [upd_ne (ne_of_none z l0)]; exact sm b o z)
        · rw [upd_ne nLq]
          exact s3 _ _ (by rw [upd_ne nLq]; exact hq')
        · rw [upd_same, ec, List.map_append, List.map_append]; rfl
    · rintro σ H' ⟨sm, hq', hLi, z, rfl⟩
      rw [lw, List.take_length] at hLi
      have hLi' : H' L = some (.lst ((((chainT o c0 cs).map (joined 32)).map S).map V.str)) := by
        rw [hLi, List.map_map, List.map_map]; rfl
      refine ⟨⟨_, rfl⟩, _, rfl, _, L, _, rfl, rfl, Or.inl (SqL.of hLi'), ?_, ?_⟩
      · rw [sum_lens, es, show (S [32]).length = 1 from rfl, List.length_map, List.length_map]
        have := chainT_len ok nc sz
        omega
      · rw [es, join_sep rfl, chainT_text nc ok]
        exact k _ sm
end
end Hw
end

/-! ## part Q5 -/
section
set_option Elab.async false
set_option linter.all false
set_option maxRecDepth 100000
set_option maxHeartbeats 2000000
namespace Hw
open PySem PySem.Spec PyProof.Rows L2
open Hr01 (Bytes Words Term Sum Cond ascii isName num? term? digit small sum? parted Cmd Rule cmd? Thing House By byText thingsIn thingsOf valueOf termValue sumValue isSensor thingOf ruleOf leaves joined decimal told listed termText sumText condText)
section
variable {P : Program} {w : World} {K : PySem.W.Frag} {mg : Str → Option Value} {base : Heap}
theorem sc_show_condition : FnScope ["condition", "sign"] ["condition"] (defScope s_show_condition) := ⟨rfl, rfl, rfl, by decide +kernel, rfl, by decide +kernel, by decide +kernel⟩
theorem ok_show_condition_step (g : Good w K mg) {n : Nat} (h1 : FnOk P w K mg base CX0 (3 * n + 4) (He.ga K "show_part") (fdA K (He.ga K "show_part")) ["part", "tightness"] (sp_show_part K n))
    (h2 : FnOk P w K mg base CX0 (3 * n + 5) (He.ga K "show_chain") (fdA K (He.ga K "show_chain")) ["sign", "parts"] (sp_show_chain K n)) :
    FnOk P w K mg base CX0 (3 * n + 6) (He.ga K "show_condition") (fdA K (He.ga K "show_condition")) ["condition"] (sp_show_condition K (n + 1)) := by
  refine (F_show_condition g).ok sc_show_condition (fun vs H Q E h => ?_) (fun cdv A outer s0 H vs Q E hr h => ⟨_, PSs.nox (pss_cons (ps_set (i := 1) sc_show_condition.nd rfl (Or.inl rfl) (pe_ix ix_tup (pv 0) pe_int (fun _ _ => rfl))) (pss_cons (ps_if (PW.pt (pw_or (pt_cmpR op_eq (pv 1) pe_str (nomark _)) (pw_or1 (pt_cmpR op_eq (pv 1) pe_str (nomark _))))) (pss_one (ps_ret (pe_call h2 (hr.mono (by omega)) rfl (m_show_chain g) (F_show_chain g).kp (b_show_chain g) .nil pass0 (pa_cons (pv 1) (pa_cons (pe_ix ix_tup (pv 0) pe_int (fun _ _ => rfl)) pa_nil))))) pss_nil) (pss_cons (ps_if (pt_cmpR op_eq (pv 1) pe_str (nomark _)) (pss_one (ps_ret (pe_op op_add_str pe_str (pe_call h1 (hr.mono (by omega)) rfl (m_show_part g) (F_show_part g).kp (b_show_part g) .nil pass0 (pa_cons (pe_ix ix_tup (pv 0) pe_int (fun _ _ => rfl)) (pa_cons (pe_ix ix_kdict (pe_gR rfl (m_TIGHTNESS g)) pe_str (fun _ _ => rfl)) pa_nil)))))) pss_nil) (pss_one (ps_ret (pe_call (ok_show_comparison g) (hr.mono (by omega)) rfl (m_show_comparison g) (F_show_comparison g).kp (b_show_comparison g) .nil pass0 (pa_cons (pv 0) pa_nil))))))), ?_⟩)
  · obtain ⟨v, c, rfl, _⟩ := h; rfl
  · obtain ⟨v, c, rfl, hc, ok, sz, k⟩ := h
    have e1 : (("|" : String) : Str) = S (ascii "|") := S_of "|"
    have e2 : (("&" : String) : Str) = S (ascii "&") := S_of "&"
    have e3 : (("~" : String) : Str) = S (ascii "~") := S_of "~"
    have e4 : (("~ " : String) : Str) = S [126, 32] := S_of "~ "
    rcases hc.cases with ⟨o, x, y, hl, rfl⟩ | ⟨a, i, x, rfl, ha, hi, rfl⟩ | ⟨a, o, p, v0, vs, c0, cs, rfl, ha, hp, ne, h0, hs, rfl⟩
    · have hl' := hl
      obtain ⟨a, l, r, rfl, ha, _, _⟩ := hl
      refine ⟨_, rfl, a, _, _, _, rfl, rfl, SqT.of ha, atI_nat (j := 0) rfl, ?_⟩
      dsimp only [gName, tSeq, tIfS]
      refine test_or (a := false) (b := false) (fun Q' z => ⟨_, rfl, rfl, _, rfl, by rw [e1, S_dec]; cases o <;> exact z⟩) (fun Q' z => ⟨_, rfl, rfl, _, rfl, by rw [e2, S_dec]; cases o <;> exact z⟩) ?_
      refine iteF ⟨_, rfl, rfl, _, rfl, ?_⟩
      rw [e3, S_dec, show decide ((if o then ascii "<" else ascii "=") = ascii "~") = false by cases o <;> rfl]
      have okk : SumOk x ∧ SumOk y := by cases o <;> exact ok
      exact iteF ⟨_, rfl, _, o, x, y, rfl, hl', okk.1, okk.2, k⟩
    · refine ⟨_, rfl, a, _, _, _, rfl, rfl, SqT.of ha, atI_nat (j := 0) rfl, ?_⟩
      dsimp only [gName, tSeq, tIfS]
      refine test_or (a := false) (b := false) (fun Q' z => ⟨_, rfl, rfl, _, rfl, by rw [e1, S_dec]; exact z⟩) (fun Q' z => ⟨_, rfl, rfl, _, rfl, by rw [e2, S_dec]; exact z⟩) ?_
      refine iteF ⟨_, rfl, rfl, _, rfl, ?_⟩
      rw [e3, S_dec]
      have okx : CondOk x := ok
      have szx : csize x ≤ 1000 := by simp only [csize] at sz; omega
      have hD : KDct K w (He.ga K "TIGHTNESS") (S (ascii "~")) (.int ((2 + 1 : Nat) : Int)) := by
        show KDct K w _ (S (ascii "~")) (.int 3)
        rw [← S_of]; exact tight_kd g (by simp [t_TIGHTNESS])
      refine iteT ⟨_, rfl, a, _, _, _, rfl, rfl, SqT.of ha, atI_nat (j := 1) rfl, _, _, _, rfl, rfl, hD, i, x, 2, rfl, by omega, hi, okx, szx, fun H1 s1 => ?_⟩
      have ln := Nat.le_trans (joined_wlen 32 (condText x 2)) (condText_len x 2 okx)
      refine ⟨_, _, by rw [e4], rfl, by rw [S_len, S_len, sizeLine_eq]; simp; omega, ?_⟩
      rw [S_append]
      have ej : [126, 32] ++ joined 32 (condText x 2) = joined 32 (condText (.not x) 0) := by
        show _ = joined 32 (ascii "~" :: condText x 2)
        rw [joined_cons (condText_ne x 2 okx)]; rfl
      rw [ej]
      exact k _ s1
    · refine ⟨_, rfl, a, _, _, _, rfl, rfl, SqT.of ha, atI_nat (j := 0) rfl, ?_⟩
      dsimp only [gName, tSeq, tIfS]
      refine test_or (a := o) (b := !o) (fun Q' z => ⟨_, rfl, rfl, _, rfl, by rw [e1, S_dec]; cases o <;> exact z⟩) (fun Q' z => ⟨_, rfl, rfl, _, rfl, by rw [e2, S_dec]; cases o <;> exact z⟩) ?_
      rw [show (o || !o) = true by cases o <;> rfl]
      exact iteT ⟨_, rfl, _, rfl, a, _, _, _, rfl, rfl, SqT.of ha, atI_nat (j := 1) rfl, o, p, v0, vs, c0, cs, rfl, hp, ne, h0, hs, ok, sz, k⟩
theorem ok_show_condition_n (g : Good w K mg) : ∀ n : Nat, FnOk P w K mg base CX0 (3 * n + 3) (He.ga K "show_condition") (fdA K (He.ga K "show_condition")) ["condition"] (sp_show_condition K n)
  | 0 => ⟨fun vs H Q E ⟨_, _, _, h, _⟩ => h.elim, fun A outer s H args us vs Q E _ _ _ _ ⟨_, _, _, h, _⟩ => h.elim⟩
  | n + 1 => by
    have ih := ok_show_condition_n g n
    have h1 := ok_show_part g ih
    exact ok_show_condition_step g h1 (ok_show_chain g h1)
theorem ok_show_condition (g : Good w K mg) : FnOk P w K mg base CX0 63 (He.ga K "show_condition") (fdA K (He.ga K "show_condition")) ["condition"] (sp_show_condition K 20) := ok_show_condition_n g 20
/-! comparisons -/
def LeafC (H : Hp) (v : V) (c : Cond) : Prop := ∃ o x y, LeafAt H v o x y ∧ c = leafC o x y
theorem LeafAt.same {H H' : Hp} (s : Tups H H') {v : V} {o : Bool} {x y : Sum} (h : LeafAt H v o x y) : LeafAt H' v o x y := by
  obtain ⟨a, l, r, e, ha, hx, hy⟩ := h
  exact ⟨a, l, r, e, s _ _ ha, hx.keep s, hy.keep s⟩
theorem LeafC.keep {H H' : Hp} (s : Tups H H') {v : V} {c : Cond} (h : LeafC H v c) : LeafC H' v c := by
  obtain ⟨o, x, y, h, e⟩ := h
  exact ⟨o, x, y, h.same s, e⟩
theorem leaves_leaf (o : Bool) (x y : Sum) : leaves (leafC o x y) = [leafC o x y] := by cases o <;> rfl
theorem fold_leaves (o : Bool) : ∀ (cs : List Cond) (c0 : Cond), leaves (cs.foldl (opC o) c0) = leaves c0 ++ cs.flatMap leaves
  | [], c0 => by simp
  | c :: r, c0 => by
    rw [List.foldl_cons, fold_leaves o r, List.flatMap_cons, ← List.append_assoc]
    cases o <;> rfl
theorem paired_append {α β : Type} {F : α → β → Prop} : ∀ {a : List α} {b : List β} {c : List α} {d : List β}, Paired F a b → Paired F c d → Paired F (a ++ c) (b ++ d)
  | _, _, _, _, .nil, h => h
  | _, _, _, _, .cons r t, h => .cons r (paired_append t h)
def sp_comparisons (K : PySem.W.Frag) (n : Nat) : Sp := fun vs H Q _ => ∃ (v : V) (c : Cond), vs = [v] ∧ CondAt H n v c ∧ csize c ≤ 1000 ∧ ∀ H' p us, Same H H' → H p = none → H' p = some (.lst us) → Paired (LeafC H') us (leaves c) → Q (.ref p) H'
theorem sc_comparisons : FnScope ["condition", "sign", "found", "part"] ["condition"] (defScope s_comparisons) := ⟨rfl, rfl, rfl, by decide +kernel, rfl, by decide +kernel, by decide +kernel⟩
theorem ok_comparisons_step (g : Good w K mg) {n : Nat} (ih : FnOk P w K mg base CX0 (n + 1) (He.ga K "comparisons") (fdA K (He.ga K "comparisons")) ["condition"] (sp_comparisons K n)) :
    FnOk P w K mg base CX0 (n + 2) (He.ga K "comparisons") (fdA K (He.ga K "comparisons")) ["condition"] (sp_comparisons K (n + 1)) := by
  refine (F_comparisons g).ok sc_comparisons (fun vs H Q E h => ?_) (fun cdv A outer s0 H vs Q E hr h => ⟨_, PSs.nox (pss_cons (ps_set (i := 1) sc_comparisons.nd rfl (Or.inl rfl) (pe_ix ix_tup (pv 0) pe_int (fun _ _ => rfl))) (pss_cons (ps_if (pt_cmpR op_eq (pv 1) pe_str (nomark _)) (pss_one (ps_ret (pe_call ih (hr.mono (by omega)) rfl (m_comparisons g) (F_comparisons g).kp (b_comparisons g) .nil pass0 (pa_cons (pe_ix ix_tup (pv 0) pe_int (fun _ _ => rfl)) pa_nil)))) pss_nil) (pss_cons (ps_if (PW.pt (pw_or (pt_cmpR op_eq (pv 1) pe_str (nomark _)) (pw_or1 (pt_cmpR op_eq (pv 1) pe_str (nomark _))))) (pss_one (ps_ret (pe_lst (pa_cons (pv 0) pa_nil)))) pss_nil) (pss_cons (ps_set (i := 2) sc_comparisons.nd rfl (Or.inl rfl) (pe_lst pa_nil)) (pss_cons (ps_for PassesOwn.never rfl (pi_tup (pe_ix ix_tup (pv 0) pe_int (fun _ _ => rfl))) (pg_name (i := 3) sc_comparisons.nd rfl (Or.inl rfl)) (pss_one (ps_expr (pe_bm PySem.F.plainAttrs_list PySem.F.slot_list_extend PySem.F.type_list_extend mt_extend (pv 2) (pa_cons (pe_call ih (hr.mono (by omega)) rfl (m_comparisons g) (F_comparisons g).kp (b_comparisons g) .nil pass0 (pa_cons (pv 3) pa_nil)) pa_nil))))) (pss_one (ps_ret (pv 2)))))))), ?_⟩)
  · obtain ⟨v, c, rfl, _⟩ := h; rfl
  · obtain ⟨v, c, rfl, hc, sz, k⟩ := h
    have e1 : (("<" : String) : Str) = S (ascii "<") := S_of "<"
    have e2 : (("=" : String) : Str) = S (ascii "=") := S_of "="
    have e3 : (("~" : String) : Str) = S (ascii "~") := S_of "~"
    rcases hc.cases with ⟨o, x, y, hl, rfl⟩ | ⟨a, i, x, rfl, ha, hi, rfl⟩ | ⟨a, o, p, v0, vs, c0, cs, rfl, ha, hp, ne, h0, hs, rfl⟩
    · have hl' := hl
      obtain ⟨a, l, r, rfl, ha, _, _⟩ := hl
      refine ⟨_, rfl, a, _, _, _, rfl, rfl, SqT.of ha, atI_nat (j := 0) rfl, ?_⟩
      refine ⟨_, rfl, rfl, _, rfl, ?_⟩
      rw [e3, S_dec, show decide ((if o then ascii "<" else ascii "=") = ascii "~") = false by cases o <;> rfl]
      refine iteF ?_
      dsimp only [gName, tSeq, tIfS, tNext]
      refine test_or (a := o) (b := !o) (fun Q' z => ⟨_, rfl, rfl, _, rfl, by rw [e1, S_dec]; cases o <;> exact z⟩) (fun Q' z => ⟨_, rfl, rfl, _, rfl, by rw [e2, S_dec]; cases o <;> exact z⟩) ?_
      rw [show (o || !o) = true by cases o <;> rfl]
      refine iteT ⟨_, rfl, by show 1 ≤ sizeLine; decide, fun p hp => ?_⟩
      refine k _ p _ (same_new hp) hp upd_same ?_
      rw [leaves_leaf]
      exact .cons ⟨o, x, y, hl'.same (Tups.of_same (same_new hp)), rfl⟩ .nil
    · refine ⟨_, rfl, a, _, _, _, rfl, rfl, SqT.of ha, atI_nat (j := 0) rfl, ?_⟩
      refine ⟨_, rfl, rfl, _, rfl, ?_⟩
      rw [e3, S_dec]
      exact iteT ⟨_, rfl, a, _, _, _, rfl, rfl, SqT.of ha, atI_nat (j := 1) rfl, i, x, rfl, hi, by simp only [csize] at sz; omega, k⟩
    · refine ⟨_, rfl, a, _, _, _, rfl, rfl, SqT.of ha, atI_nat (j := 0) rfl, ?_⟩
      refine ⟨_, rfl, rfl, _, rfl, ?_⟩
      rw [e3, S_dec, show decide (sgO o = ascii "~") = false by cases o <;> rfl]
      refine iteF ?_
      dsimp only [gName, tSeq, tIfS, tNext]
      refine test_or (a := false) (b := false) (fun Q' z => ⟨_, rfl, rfl, _, rfl, by rw [e1, S_dec]; cases o <;> exact z⟩) (fun Q' z => ⟨_, rfl, rfl, _, rfl, by rw [e2, S_dec]; cases o <;> exact z⟩) ?_
      refine iteF ⟨by show 0 ≤ sizeLine; decide, fun L hL => ?_⟩
      have sL := same_new (o := HO.lst []) hL
      have hall : Paired (CondAt H n) (v0 :: vs) (c0 :: cs) := .cons h0 hs
      have lv := leaves_le (cs.foldl (opC o) c0)
      have fl : leaves (cs.foldl (opC o) c0) = (c0 :: cs).flatMap leaves := by rw [fold_leaves, List.flatMap_cons]
      have csz : ∀ c ∈ c0 :: cs, csize c ≤ 1000 := fun c hc => by
        rcases List.mem_cons.mp hc with rfl | hc
        · exact Nat.le_trans fold_fst sz
        · exact Nat.le_trans (fold_part hc) sz
      refine ⟨_, rfl, a, _, _, _, rfl, rfl, SqT.of (sL _ _ ha), atI_nat (j := 1) rfl, p, rfl, ⟨_, SqT.of (sL _ _ hp)⟩, ?_⟩
      refine for_tup (K := K) (a := p) (xs := v0 :: vs) (fun i σ H' => Same H H' ∧ (∃ us, H' L = some (.lst us) ∧ Paired (LeafC H') us (((c0 :: cs).take i).flatMap leaves)) ∧ ∃ z, σ = [some (.ref a), some (vS (sgO o)), some (.ref L), z])
        ⟨sL, ⟨[], upd_same, .nil⟩, none, rfl⟩ (fun i σ H' _ z => SqT.of (z.1 _ _ hp)) ?_ ?_
      · rintro i x σ H' hi ⟨sm, ⟨us, hus, hpu⟩, z, rfl⟩
        obtain ⟨c, hci, hca⟩ := paired_get hall hi
        have il : i < (c0 :: cs).length := (List.getElem?_eq_some_iff.mp hci).1
        have hm := List.mem_of_getElem? hci
        refine ⟨_, rfl, Or.inl ⟨rfl, _, SqL.of hus⟩, _, rfl, x, c, rfl, hca.keep (Tups.of_same sm), csz c hm, fun H3 p3 us3 s3 n3 h3 hp3 => ?_⟩
        have hus3 := s3 _ _ hus
        have et : (c0 :: cs).take (i + 1) = (c0 :: cs).take i ++ [c] := by rw [List.take_succ, hci]; rfl
        have ln : us.length + us3.length ≤ 1000 := by
          rw [hpu.length, hp3.length, ← List.length_append]
          have e : ((c0 :: cs).take i).flatMap leaves ++ leaves c = ((c0 :: cs).take (i + 1)).flatMap leaves := by rw [et, List.flatMap_append]; simp
          rw [e]
          have : (((c0 :: cs).take (i + 1)).flatMap leaves).length ≤ ((c0 :: cs).flatMap leaves).length := by
            have h : (c0 :: cs) = (c0 :: cs).take (i + 1) ++ (c0 :: cs).drop (i + 1) := (List.take_append_drop _ _).symm
            conv => rhs; rw [h]
            rw [List.flatMap_append, List.length_append]; omega
          rw [← fl] at this
          omega
        have tu : Tups H3 (upd H3 L (.lst (us ++ us3))) := fun b xs e => by rw [upd_ne (ne_of e hus3 (by intro z; cases z))]; exact e
        refine ⟨L, p3, _, _, rfl, rfl, hus3, h3, by rw [sizeLine_eq]; omega, fun b o z => ?_, ⟨_, upd_same, ?_⟩, some x, rfl⟩
        · rw [upd_ne (ne_of_none z hL)]
          exact s3 _ _ (sm _ _ z)
        · rw [et, List.flatMap_append]
          refine paired_append (Paired.mapP hpu fun _ _ h => (h.keep (Tups.of_same s3)).keep tu) ?_
          have : [c].flatMap leaves = leaves c := by simp
          rw [this]
          exact Paired.mapP hp3 fun _ _ h => h.keep tu
      · rintro σ H' ⟨sm, ⟨us, hus, hpu⟩, z, rfl⟩
        rw [hall.length, List.take_length, ← fl] at hpu
        exact ⟨_, rfl, k _ L us sm hL hus hpu⟩
theorem ok_comparisons_n (g : Good w K mg) : ∀ n : Nat, FnOk P w K mg base CX0 (n + 1) (He.ga K "comparisons") (fdA K (He.ga K "comparisons")) ["condition"] (sp_comparisons K n)
  | 0 => ⟨fun vs H Q E ⟨_, _, _, h, _⟩ => h.elim, fun A outer s H args us vs Q E _ _ _ _ ⟨_, _, _, h, _⟩ => h.elim⟩
  | n + 1 => ok_comparisons_step g (ok_comparisons_n g n)
theorem ok_comparisons (g : Good w K mg) : FnOk P w K mg base CX0 21 (He.ga K "comparisons") (fdA K (He.ga K "comparisons")) ["condition"] (sp_comparisons K 20) := ok_comparisons_n g 20
end
end Hw
end

/-! ## part Q6 -/
section
set_option Elab.async false
set_option linter.all false
set_option maxRecDepth 100000
set_option maxHeartbeats 2000000
namespace Hw
open PySem PySem.Spec PyProof.Rows L2
open Hr01 (Bytes Words Term Sum Cond ascii isName num? term? digit small sum? parted Cmd Rule cmd? Thing House By byText thingsIn thingsOf valueOf termValue sumValue isSensor thingOf ruleOf leaves joined decimal told listed termText sumText condText)
theorem pg_tupK {X : Cx} {K : PySem.W.Frag} {es : List Expr} {k : Nat} {t : TGs} {n : Nat} {pos : Pos} (e : X.K = K) (hc : X.calm = true) (h : PGs X es t)
    (hn : (assignEach es X.env).length = n := by rfl) (hst : (assignEach es X.env).findIdx? (·.1) = none := by rfl) : PG X (.Tuple es k pos) (gTup K n t) := by
  subst e
  exact pg_tup hc h hn hst
/-- the names of a term -/
def nameT : Term → List Bytes
  | .thing w => [w]
  | _ => []
theorem thingsIn_flat (l : Sum) : thingsIn l = l.flatMap fun x => nameT x.2 := by
  induction l with
  | nil => rfl
  | cons x r ih =>
    obtain ⟨p, t⟩ := x
    rw [List.flatMap_cons, ← ih]
    cases t <;> rfl
theorem thingsIn_snoc (l : Sum) (x : Bool × Term) : thingsIn (l ++ [x]) = thingsIn l ++ nameT x.2 := by
  rw [thingsIn_flat, thingsIn_flat, List.flatMap_append]; simp
theorem thingsIn_le (l : Sum) : (thingsIn l).length ≤ l.length := List.length_filterMap_le _ _
/-- the names of a comparison -/
theorem things_leaf (o : Bool) (x y : Sum) : thingsOf (leafC o x y) = thingsIn x ++ thingsIn y := by cases o <;> rfl
theorem things_leaves : ∀ c : Cond, thingsOf c = (leaves c).flatMap thingsOf
  | .less a b => by simp [leaves]
  | .same a b => by simp [leaves]
  | .not c => things_leaves c
  | .both a b => by show thingsOf a ++ thingsOf b = (leaves a ++ leaves b).flatMap thingsOf; rw [List.flatMap_append, ← things_leaves a, ← things_leaves b]
  | .either a b => by show thingsOf a ++ thingsOf b = (leaves a ++ leaves b).flatMap thingsOf; rw [List.flatMap_append, ← things_leaves a, ← things_leaves b]
theorem leaves_ok : ∀ c : Cond, CondOk c → ∀ x ∈ leaves c, CondOk x
  | .less a b, h, x, hx => by simp [leaves] at hx; subst hx; exact h
  | .same a b, h, x, hx => by simp [leaves] at hx; subst hx; exact h
  | .not c, h, x, hx => leaves_ok c h x hx
  | .both a b, h, x, hx => by
    rcases List.mem_append.mp hx with hx | hx
    · exact leaves_ok a h.1 x hx
    · exact leaves_ok b h.2 x hx
  | .either a b, h, x, hx => by
    rcases List.mem_append.mp hx with hx | hx
    · exact leaves_ok a h.1 x hx
    · exact leaves_ok b h.2 x hx
theorem leaf_ok {o : Bool} {x y : Sum} (h : CondOk (leafC o x y)) : SumOk x ∧ SumOk y := by cases o <;> exact h
theorem name_ne {x : Bytes} (h : isName x = true) : x ≠ [] ∧ x ≠ ascii "time" := by
  refine ⟨fun z => ?_, fun z => ?_⟩
  · rw [z] at h; cases h
  · rw [z] at h; exact absurd h (by decide)
section
variable {P : Program} {w : World} {K : PySem.W.Frag} {mg : Str → Option Value} {base : Heap}
def sp_names_in_sum (K : PySem.W.Frag) : Sp := fun vs H Q _ => ∃ (v : V) (l : Sum), vs = [v] ∧ SumAt H v l ∧ SumOk l ∧ ∀ H' p, Same H H' → H p = none → H' p = some (.lst ((thingsIn l).map vS)) → Q (.ref p) H'
theorem sc_names_in_sum : FnScope ["terms", "factor", "number", "name"] ["terms"] (defScope s_names_in_sum) := ⟨rfl, rfl, rfl, by decide +kernel, rfl, by decide +kernel, by decide +kernel⟩
theorem ok_names_in_sum (g : Good w K mg) : FnOk P w K mg base CX0 1 (He.ga K "names_in_sum") (fdA K (He.ga K "names_in_sum")) ["terms"] (sp_names_in_sum K) := by
  refine (F_names_in_sum g).ok sc_names_in_sum (fun vs H Q E h => ?_) (fun cdv A outer s0 H vs Q E hr h => ⟨_, PSs.nox (pss_one (ps_ret (pe_lc (own := [("factor", 1), ("number", 2), ("name", 3)]) rfl sc_names_in_sum.nd (pi_tup (pv 0)) (blkOk_by (own := [("factor", 1), ("number", 2), ("name", 3)]) (N := ["terms", "factor", "number", "name"]) (sc := defScope s_names_in_sum) (by decide +kernel)) (fun _ _ _ _ _ => (pg_tupK (K := K) (n := 3) rfl rfl (pgs_cons (pg_name (i := 1) sc_names_in_sum.nd rfl (Or.inl rfl)) (pgs_cons (pg_name (i := 2) sc_names_in_sum.nd rfl (Or.inl rfl)) (pgs_cons (pg_name (i := 3) sc_names_in_sum.nd rfl (Or.inl rfl)) pgs_nil))))) (fun _ _ _ _ _ => (pts_one (PW.pt (pw_and (pt_cmpR op_ne (pv 3) pe_str (nomark _)) (pw_and1 (pt_cmpR op_ne (pv 3) pe_str (nomark _))))))) (fun _ _ _ _ _ => (pv 3))))), ?_⟩)
  · obtain ⟨v, l, rfl, _⟩ := h; rfl
  · obtain ⟨v, l, rfl, ⟨a, ts, rfl, ha, hp⟩, ok, k⟩ := h
    refine ⟨_, rfl, a, rfl, ⟨_, SqT.of ha⟩, fun D hD => ?_⟩
    have ee : (("" : String) : Str) = S [] := S_of ""
    have et : (("time" : String) : Str) = S (ascii "time") := S_of "time"
    refine lc_tup (K := K) (a := a) (xs := ts) (fun i H' => Same H H' ∧ H' D = some (.lst ((thingsIn (l.take i)).map vS)))
      ⟨same_new hD, upd_same⟩ (fun i H' _ z => SqT.of (z.1 _ _ ha)) ?_ ?_
    · rintro i x H' hi ⟨sm, hL⟩
      obtain ⟨⟨p, t⟩, ht, b, rfl, hb⟩ := paired_get hp hi
      have hb' := sm _ _ hb
      have el : l.take (i + 1) = l.take i ++ [(p, t)] := by rw [List.take_succ, ht]; rfl
      have tok := ok.each _ (List.mem_of_getElem? ht)
      have ln := thingsIn_le (l.take i)
      have l4 := ok.len
      have lt : (l.take i).length ≤ l.length := by rw [List.length_take]; omega
      cases t with
      | num n =>
        refine ⟨b, _, rfl, SqT.of hb', rfl, _, _, rfl, _, _, rfl, _, _, rfl, rfl, rfl, ?_⟩
        refine test_and (a := false) (b := true) (fun Q' z => ⟨_, rfl, rfl, _, rfl, by rw [ee, S_dec]; exact z⟩) (fun Q' z => ⟨_, rfl, rfl, _, rfl, by rw [et, S_dec]; exact z⟩) ?_
        refine iteF ⟨sm, ?_⟩
        rw [hL, el, thingsIn_snoc]; simp [nameT]
      | thing x =>
        refine ⟨b, _, rfl, SqT.of hb', rfl, _, _, rfl, _, _, rfl, _, _, rfl, rfl, rfl, ?_⟩
        have hx := name_ne tok
        refine test_and (a := true) (b := true) (fun Q' z => ⟨_, rfl, rfl, _, rfl, by rw [ee, S_dec, decide_eq_false hx.1]; exact z⟩) (fun Q' z => ⟨_, rfl, rfl, _, rfl, by rw [et, S_dec, decide_eq_false hx.2]; exact z⟩) ?_
        refine iteT ⟨_, rfl, _, hL, by rw [List.length_map, sizeLine_eq]; omega, fun b o z => ?_, ?_⟩
        · rw [upd_ne (ne_of_none z hD)]; exact sm b o z
        · rw [upd_same, el, thingsIn_snoc, List.map_append]; rfl
      | time =>
        refine ⟨b, _, rfl, SqT.of hb', rfl, _, _, rfl, _, _, rfl, _, _, rfl, rfl, rfl, ?_⟩
        refine test_and (a := true) (b := false) (fun Q' z => ⟨_, rfl, rfl, _, rfl, by rw [ee, S_dec]; exact z⟩) (fun Q' z => ⟨_, rfl, rfl, _, rfl, by rw [et, S_dec]; exact z⟩) ?_
        refine iteF ⟨sm, ?_⟩
        rw [hL, el, thingsIn_snoc]; simp [nameT]
    · rintro H' ⟨sm, hL⟩
      rw [hp.length, List.take_length] at hL
      exact k _ D sm hD hL
def sp_names_in_condition (K : PySem.W.Frag) : Sp := fun vs H Q _ => ∃ (v : V) (c : Cond), vs = [v] ∧ CondAt H 20 v c ∧ CondOk c ∧ csize c ≤ 1000 ∧ ∀ H' p, Same H H' → H p = none → H' p = some (.lst ((thingsOf c).map vS)) → Q (.ref p) H'
theorem sc_names_in_condition : FnScope ["condition", "names", "comparison"] ["condition"] (defScope s_names_in_condition) := ⟨rfl, rfl, rfl, by decide +kernel, rfl, by decide +kernel, by decide +kernel⟩
theorem flat_len : ∀ l : List Cond, (∀ c ∈ l, (thingsOf c).length ≤ 8) → (l.flatMap thingsOf).length ≤ 8 * l.length
  | [], _ => by simp
  | c :: r, h => by
    have h1 := h c (by simp)
    have h2 := flat_len r fun x hx => h x (by simp [hx])
    rw [List.flatMap_cons, List.length_append, List.length_cons]; omega
theorem leaf_things {c : Cond} {o : Bool} {x y : Sum} (e : c = leafC o x y) (h : CondOk c) : (thingsOf c).length ≤ 8 := by
  subst e
  have h1 := leaf_ok h
  have := thingsIn_le x
  have := thingsIn_le y
  have := h1.1.len
  have := h1.2.len
  rw [things_leaf, List.length_append]; omega
theorem ok_names_in_condition (g : Good w K mg) : FnOk P w K mg base CX0 22 (He.ga K "names_in_condition") (fdA K (He.ga K "names_in_condition")) ["condition"] (sp_names_in_condition K) := by
  refine (F_names_in_condition g).ok sc_names_in_condition (fun vs H Q E h => ?_) (fun cdv A outer s0 H vs Q E hr h => ⟨_, PSs.nox (pss_cons (ps_set (i := 1) sc_names_in_condition.nd rfl (Or.inl rfl) (pe_lst pa_nil)) (pss_cons (ps_for PassesOwn.never rfl (pi_list (pe_call (ok_comparisons g) (hr.mono (by decide)) rfl (m_comparisons g) (F_comparisons g).kp (b_comparisons g) .nil pass0 (pa_cons (pv 0) pa_nil))) (pg_name (i := 2) sc_names_in_condition.nd rfl (Or.inl rfl)) (pss_cons (ps_expr (pe_bm PySem.F.plainAttrs_list PySem.F.slot_list_extend PySem.F.type_list_extend mt_extend (pv 1) (pa_cons (pe_call (ok_names_in_sum g) (hr.mono (by decide)) rfl (m_names_in_sum g) (F_names_in_sum g).kp (b_names_in_sum g) .nil pass0 (pa_cons (pe_ix ix_tup (pv 2) pe_int (fun _ _ => rfl)) pa_nil)) pa_nil))) (pss_one (ps_expr (pe_bm PySem.F.plainAttrs_list PySem.F.slot_list_extend PySem.F.type_list_extend mt_extend (pv 1) (pa_cons (pe_call (ok_names_in_sum g) (hr.mono (by decide)) rfl (m_names_in_sum g) (F_names_in_sum g).kp (b_names_in_sum g) .nil pass0 (pa_cons (pe_ix ix_tup (pv 2) pe_int (fun _ _ => rfl)) pa_nil)) pa_nil)))))) (pss_one (ps_ret (pv 1))))), ?_⟩)
  · obtain ⟨v, c, rfl, _⟩ := h; rfl
  · obtain ⟨v, c, rfl, hc, ok, sz, k⟩ := h
    refine ⟨by show 0 ≤ sizeLine; decide, fun L hL => ?_⟩
    have sL := same_new (o := HO.lst []) hL
    refine ⟨_, rfl, v, c, rfl, hc.keep (Tups.of_same sL), sz, fun H1 p us s1 np hp hpu => ?_⟩
    have hL1 := s1 _ _ (upd_same (H := H) (a := L))
    have npL : p ≠ L := fun z => by rw [z, upd_same] at np; cases np
    have lv := leaves_le c
    refine ⟨p, rfl, ⟨_, SqL.of hp⟩, ?_⟩
    refine for_list (K := K) (a := p) (xs := us) (fun i σ H' => Same H H' ∧ Tups H1 H' ∧ H' p = some (.lst us) ∧ H' L = some (.lst ((((leaves c).take i).flatMap thingsOf).map vS)) ∧ ∃ z, σ = [some v, some (.ref L), z])
      ⟨sL.trans s1, fun _ _ e => e, hp, hL1, none, rfl⟩ (fun i σ H' _ z => SqL.of z.2.2.1) ?_ ?_
    · rintro i x σ H' hi ⟨sm, tu, hp', hLi, z, rfl⟩
      obtain ⟨d, hdi, o, lx, ly, hlf, rfl⟩ := paired_get hpu hi
      have hm := List.mem_of_getElem? hdi
      have okd := leaves_ok c ok _ hm
      have okk := leaf_ok okd
      have il : i < (leaves c).length := (List.getElem?_eq_some_iff.mp hdi).1
      have lacc : (((leaves c).take i).flatMap thingsOf).length ≤ 8 * 1000 := by
        refine Nat.le_trans (flat_len _ fun z hz => ?_) ?_
        · have hz' := List.mem_of_mem_take hz
          obtain ⟨j, hj⟩ := List.mem_iff_getElem?.mp hz'
          have jl : j < us.length := by rw [hpu.length]; exact (List.getElem?_eq_some_iff.mp hj).1
          obtain ⟨d', hd', o', x', y', _, e'⟩ := paired_get hpu (List.getElem?_eq_getElem jl)
          rw [hj] at hd'; cases hd'
          exact leaf_things e' (leaves_ok c ok _ hz')
        · rw [List.length_take]; omega
      obtain ⟨a, vl, vr, rfl, ha, hl, hr'⟩ := hlf.same tu
      have t1 := thingsIn_le lx
      have t2 := thingsIn_le ly
      have t3 := okk.1.len
      have t4 := okk.2.len
      have et : (leaves c).take (i + 1) = (leaves c).take i ++ [leafC o lx ly] := by rw [List.take_succ, hdi]; rfl
      refine ⟨_, rfl, Or.inl ⟨rfl, _, SqL.of hLi⟩, _, rfl, a, _, _, _, rfl, rfl, SqT.of ha, atI_nat (j := 1) rfl, vl, lx, rfl, hl, okk.1, fun H2 q s2 nq hq => ?_⟩
      have hL2 := s2 _ _ hLi
      refine ⟨L, q, _, _, rfl, rfl, hL2, hq, by rw [List.length_map, List.length_map, sizeLine_eq]; omega, ?_⟩
      have tu2 : Tups H2 (upd H2 L (.lst (((((leaves c).take i).flatMap thingsOf).map vS) ++ (thingsIn lx).map vS))) := fun b xs e => by rw [upd_ne (ne_of e hL2 (by intro z; cases z))]; exact e
      have tu3 := (Tups.of_same s2).trans tu2
      refine ⟨_, rfl, Or.inl ⟨rfl, _, SqL.of upd_same⟩, _, rfl, a, _, _, _, rfl, rfl, SqT.of (tu3 _ _ ha), atI_nat (j := 2) rfl, vr, ly, rfl, hr'.keep tu3, okk.2, fun H3 q3 s3 nq3 hq3 => ?_⟩
      have hL3 := s3 _ _ (upd_same (H := H2) (a := L))
      refine ⟨L, q3, _, _, rfl, rfl, hL3, hq3, by rw [List.length_append, List.length_map, List.length_map, List.length_map, sizeLine_eq]; omega, ?_, ?_, ?_, ?_, some (.ref a), rfl⟩
      · intro b u z
        rw [upd_ne (ne_of_none z hL)]
        exact s3 _ _ (by rw [upd_ne (ne_of_none z hL)]; exact s2 _ _ (sm _ _ z))
      · intro b xs z
        have e1 := tu3 _ _ (tu _ _ z)
        rw [upd_ne (ne_of (s3 _ _ e1) hL3 (by intro z; cases z))]
        exact s3 _ _ e1
      · rw [upd_ne npL]
        exact s3 _ _ (by rw [upd_ne npL]; exact s2 _ _ hp')
      · rw [upd_same, et, List.flatMap_append, List.map_append]
        have : [leafC o lx ly].flatMap thingsOf = thingsIn lx ++ thingsIn ly := by simp [things_leaf]
        rw [this, List.map_append, List.append_assoc]
    · rintro σ H' ⟨sm, tu, hp', hLi, z, rfl⟩
      rw [hpu.length, List.take_length, ← things_leaves] at hLi
      exact ⟨_, rfl, k _ L sm hL hLi⟩
end
end Hw
end

/-! ## part S0 -/
section
set_option Elab.async false
set_option linter.all false
set_option maxRecDepth 100000
set_option maxHeartbeats 2000000
namespace Hw
open PySem PySem.Spec PyProof.Rows L2
open Hr01 (Bytes Words Term Sum Cond ascii isName num? term? digit small sum? parted Cmd Rule cmd? Thing House By byText thingsIn thingsOf valueOf termValue sumValue isSensor thingOf ruleOf leaves joined decimal told listed termText sumText condText)
theorem nw_House_clock (c : Int) (ds dt dr : Addr) : putF ("clock" : Str) (.int c) ([] : List (Str × V)) = ([("clock", .int c)] : List (Str × V)) := rfl
theorem nw_House_sensors (c : Int) (ds dt dr : Addr) : putF ("sensors" : Str) (.ref ds) ([("clock", .int c)] : List (Str × V)) = ([("clock", .int c), ("sensors", .ref ds)] : List (Str × V)) := ((put_past (by decide +kernel)).trans (congrArg _ rfl))
theorem nw_House_things (c : Int) (ds dt dr : Addr) : putF ("things" : Str) (.ref dt) ([("clock", .int c), ("sensors", .ref ds)] : List (Str × V)) = ([("clock", .int c), ("sensors", .ref ds), ("things", .ref dt)] : List (Str × V)) := ((put_past (by decide +kernel)).trans (congrArg _ ((put_past (by decide +kernel)).trans (congrArg _ rfl))))
theorem nw_House_rules (c : Int) (ds dt dr : Addr) : putF ("rules" : Str) (.ref dr) ([("clock", .int c), ("sensors", .ref ds), ("things", .ref dt)] : List (Str × V)) = ([("clock", .int c), ("sensors", .ref ds), ("things", .ref dt), ("rules", .ref dr)] : List (Str × V)) := ((put_past (by decide +kernel)).trans (congrArg _ ((put_past (by decide +kernel)).trans (congrArg _ ((put_past (by decide +kernel)).trans (congrArg _ rfl))))))
theorem nw_Thing_value (v t : Int) (o : Addr) (d : Bool) (h : V) (b : Int) (p : Addr) : putF ("value" : Str) (.int v) ([] : List (Str × V)) = ([("value", .int v)] : List (Str × V)) := rfl
theorem nw_Thing_target (v t : Int) (o : Addr) (d : Bool) (h : V) (b : Int) (p : Addr) : putF ("target" : Str) (.int t) ([("value", .int v)] : List (Str × V)) = ([("value", .int v), ("target", .int t)] : List (Str × V)) := ((put_past (by decide +kernel)).trans (congrArg _ rfl))
theorem nw_Thing_origin (v t : Int) (o : Addr) (d : Bool) (h : V) (b : Int) (p : Addr) : putF ("origin" : Str) (.ref o) ([("value", .int v), ("target", .int t)] : List (Str × V)) = ([("value", .int v), ("target", .int t), ("origin", .ref o)] : List (Str × V)) := ((put_past (by decide +kernel)).trans (congrArg _ ((put_past (by decide +kernel)).trans (congrArg _ rfl))))
theorem nw_Thing_deaf (v t : Int) (o : Addr) (d : Bool) (h : V) (b : Int) (p : Addr) : putF ("deaf" : Str) (.bl d) ([("value", .int v), ("target", .int t), ("origin", .ref o)] : List (Str × V)) = ([("value", .int v), ("target", .int t), ("origin", .ref o), ("deaf", .bl d)] : List (Str × V)) := ((put_past (by decide +kernel)).trans (congrArg _ ((put_past (by decide +kernel)).trans (congrArg _ ((put_past (by decide +kernel)).trans (congrArg _ rfl))))))
theorem nw_Thing_hold (v t : Int) (o : Addr) (d : Bool) (h : V) (b : Int) (p : Addr) : putF ("hold" : Str) (h) ([("value", .int v), ("target", .int t), ("origin", .ref o), ("deaf", .bl d)] : List (Str × V)) = ([("value", .int v), ("target", .int t), ("origin", .ref o), ("deaf", .bl d), ("hold", h)] : List (Str × V)) := ((put_past (by decide +kernel)).trans (congrArg _ ((put_past (by decide +kernel)).trans (congrArg _ ((put_past (by decide +kernel)).trans (congrArg _ ((put_past (by decide +kernel)).trans (congrArg _ rfl))))))))
theorem nw_Thing_born (v t : Int) (o : Addr) (d : Bool) (h : V) (b : Int) (p : Addr) : putF ("born" : Str) (.int b) ([("value", .int v), ("target", .int t), ("origin", .ref o), ("deaf", .bl d), ("hold", h)] : List (Str × V)) = ([("value", .int v), ("target", .int t), ("origin", .ref o), ("deaf", .bl d), ("hold", h), ("born", .int b)] : List (Str × V)) := ((put_past (by decide +kernel)).trans (congrArg _ ((put_past (by decide +kernel)).trans (congrArg _ ((put_past (by decide +kernel)).trans (congrArg _ ((put_past (by decide +kernel)).trans (congrArg _ ((put_past (by decide +kernel)).trans (congrArg _ rfl))))))))))
theorem nw_Thing_past (v t : Int) (o : Addr) (d : Bool) (h : V) (b : Int) (p : Addr) : putF ("past" : Str) (.ref p) ([("value", .int v), ("target", .int t), ("origin", .ref o), ("deaf", .bl d), ("hold", h), ("born", .int b)] : List (Str × V)) = ([("value", .int v), ("target", .int t), ("origin", .ref o), ("deaf", .bl d), ("hold", h), ("born", .int b), ("past", .ref p)] : List (Str × V)) := ((put_past (by decide +kernel)).trans (congrArg _ ((put_past (by decide +kernel)).trans (congrArg _ ((put_past (by decide +kernel)).trans (congrArg _ ((put_past (by decide +kernel)).trans (congrArg _ ((put_past (by decide +kernel)).trans (congrArg _ ((put_past (by decide +kernel)).trans (congrArg _ rfl))))))))))))
theorem nw_Rule_rank (rk de : Int) (c : V) (th : Bytes) (am : V) (ct : Int) : putF ("rank" : Str) (.int rk) ([] : List (Str × V)) = ([("rank", .int rk)] : List (Str × V)) := rfl
theorem nw_Rule_delay (rk de : Int) (c : V) (th : Bytes) (am : V) (ct : Int) : putF ("delay" : Str) (.int de) ([("rank", .int rk)] : List (Str × V)) = ([("rank", .int rk), ("delay", .int de)] : List (Str × V)) := ((put_past (by decide +kernel)).trans (congrArg _ rfl))
theorem nw_Rule_condition (rk de : Int) (c : V) (th : Bytes) (am : V) (ct : Int) : putF ("condition" : Str) (c) ([("rank", .int rk), ("delay", .int de)] : List (Str × V)) = ([("rank", .int rk), ("delay", .int de), ("condition", c)] : List (Str × V)) := ((put_past (by decide +kernel)).trans (congrArg _ ((put_past (by decide +kernel)).trans (congrArg _ rfl))))
theorem nw_Rule_thing (rk de : Int) (c : V) (th : Bytes) (am : V) (ct : Int) : putF ("thing" : Str) (vS th) ([("rank", .int rk), ("delay", .int de), ("condition", c)] : List (Str × V)) = ([("rank", .int rk), ("delay", .int de), ("condition", c), ("thing", vS th)] : List (Str × V)) := ((put_past (by decide +kernel)).trans (congrArg _ ((put_past (by decide +kernel)).trans (congrArg _ ((put_past (by decide +kernel)).trans (congrArg _ rfl))))))
theorem nw_Rule_amount (rk de : Int) (c : V) (th : Bytes) (am : V) (ct : Int) : putF ("amount" : Str) (am) ([("rank", .int rk), ("delay", .int de), ("condition", c), ("thing", vS th)] : List (Str × V)) = ([("rank", .int rk), ("delay", .int de), ("condition", c), ("thing", vS th), ("amount", am)] : List (Str × V)) := ((put_past (by decide +kernel)).trans (congrArg _ ((put_past (by decide +kernel)).trans (congrArg _ ((put_past (by decide +kernel)).trans (congrArg _ ((put_past (by decide +kernel)).trans (congrArg _ rfl))))))))
theorem nw_Rule_count (rk de : Int) (c : V) (th : Bytes) (am : V) (ct : Int) : putF ("count" : Str) (.int ct) ([("rank", .int rk), ("delay", .int de), ("condition", c), ("thing", vS th), ("amount", am)] : List (Str × V)) = ([("rank", .int rk), ("delay", .int de), ("condition", c), ("thing", vS th), ("amount", am), ("count", .int ct)] : List (Str × V)) := ((put_past (by decide +kernel)).trans (congrArg _ ((put_past (by decide +kernel)).trans (congrArg _ ((put_past (by decide +kernel)).trans (congrArg _ ((put_past (by decide +kernel)).trans (congrArg _ ((put_past (by decide +kernel)).trans (congrArg _ rfl))))))))))
theorem nw_Hold_value (v p e : Int) : putF ("value" : Str) (.int v) ([] : List (Str × V)) = ([("value", .int v)] : List (Str × V)) := rfl
theorem nw_Hold_rank (v p e : Int) : putF ("rank" : Str) (.int p) ([("value", .int v)] : List (Str × V)) = ([("value", .int v), ("rank", .int p)] : List (Str × V)) := ((put_past (by decide +kernel)).trans (congrArg _ rfl))
theorem nw_Hold_end (v p e : Int) : putF ("end" : Str) (.int e) ([("value", .int v), ("rank", .int p)] : List (Str × V)) = ([("value", .int v), ("rank", .int p), ("end", .int e)] : List (Str × V)) := ((put_past (by decide +kernel)).trans (congrArg _ ((put_past (by decide +kernel)).trans (congrArg _ rfl))))
theorem pt_House_sensors (c : Int) (ds dt dr : Addr) (y : Addr) : putF ("sensors" : Str) (.ref y) (fsHouse c ds dt dr) = fsHouse c y dt dr := ((put_past (by decide +kernel)).trans (congrArg _ put_here))
/-! ### what stands while houses change -/
def Hlds (H H' : Hp) : Prop := ∀ b c dx v p e, H b = some (.ins c dx (fsHold v p e)) → H' b = some (.ins c dx (fsHold v p e))
structure Quiet (H H' : Hp) : Prop where
  t : Tups H H'
  h : Hlds H H'
theorem Quiet.refl (H : Hp) : Quiet H H := ⟨fun _ _ e => e, fun _ _ _ _ _ _ e => e⟩
theorem Quiet.trans {H H1 H2 : Hp} (a : Quiet H H1) (b : Quiet H1 H2) : Quiet H H2 := ⟨a.t.trans b.t, fun x c dx v p e q => b.h x c dx v p e (a.h x c dx v p e q)⟩
theorem Quiet.of_same {H H' : Hp} (s : Same H H') : Quiet H H' := ⟨Tups.of_same s, fun b c dx v p e q => s _ _ q⟩
/-- no tuple and no hold -/
def Soft (o : HO) : Prop := (∀ xs, o ≠ .tup xs) ∧ ∀ c dx v p e, o ≠ .ins c dx (fsHold v p e)
theorem Quiet.of_fr {M : Addr → Prop} {H H' : Hp} (f : Fr M H H') (s : ∀ b o, M b → H b = some o → Soft o) : Quiet H H' :=
  ⟨fun b xs e => f b _ e fun m => (s b _ m e).1 xs rfl, fun b c dx v p e q => f b _ q fun m => (s b _ m q).2 c dx v p e rfl⟩
theorem soft_thing {c dx : Addr} {v t : Int} {o : Addr} {d : Bool} {h : V} {b : Int} {p : Addr} : Soft (.ins c dx (fsThing v t o d h b p)) :=
  ⟨fun _ z => (nomatch z), fun c' dx' v' p' e' z => absurd (congrArg List.length (HO.ins.inj z).2.2) (by simp [fsThing, fsHold])⟩
theorem soft_rule {c dx : Addr} {rk de : Int} {cv : V} {th : Bytes} {am : V} {ct : Int} : Soft (.ins c dx (fsRule rk de cv th am ct)) :=
  ⟨fun _ z => (nomatch z), fun c' dx' v' p' e' z => absurd (congrArg List.length (HO.ins.inj z).2.2) (by simp [fsRule, fsHold])⟩
theorem soft_house {c dx : Addr} {k : Int} {ds dt dr : Addr} : Soft (.ins c dx (fsHouse k ds dt dr)) :=
  ⟨fun _ z => (nomatch z), fun c' dx' v' p' e' z => absurd (congrArg List.length (HO.ins.inj z).2.2) (by simp [fsHouse, fsHold])⟩
theorem soft_lst {xs : List V} : Soft (.lst xs) := ⟨fun _ z => (nomatch z), fun _ _ _ _ _ z => (nomatch z)⟩
theorem soft_dK {kvs : List (Key × V)} : Soft (.dK kvs) := ⟨fun _ z => (nomatch z), fun _ _ _ _ _ z => (nomatch z)⟩
theorem soft_frz {o : Obj} {u : HO} : Soft (.frz o u) := ⟨fun _ z => (nomatch z), fun _ _ _ _ _ z => (nomatch z)⟩
theorem Quiet.at1 {H H' : Hp} {a : Addr} {o : HO} (f : Fr (At a) H H') (h : H a = some o) (s : Soft o) : Quiet H H' :=
  Quiet.of_fr f fun b o' m e => by rw [m, h] at e; cases e; exact s
theorem Quiet.upd1 {H : Hp} {a : Addr} {o o' : HO} (h : H a = some o) (s : Soft o) : Quiet H (upd H a o') := Quiet.at1 Fr.at1 h s
theorem Quiet.new {H : Hp} {a : Addr} {o' : HO} (h : H a = none) : Quiet H (upd H a o') := Quiet.of_same (same_new h)
theorem HoldAt.quiet {K : PySem.W.Frag} {H H' : Hp} (q : Quiet H H') {v : V} : ∀ {h : Option (Nat × Nat × Nat)}, HoldAt K H v h → HoldAt K H' v h
  | none, e => e
  | some _, ⟨a, dx, e, z⟩ => ⟨a, dx, e, q.h _ _ _ _ _ _ z⟩
theorem ThingAt.quiet {K : PySem.W.Frag} {H H' : Hp} {l : TL} {x : Thing} (h : ThingAt K H l x) (q : Quiet H H') (e : H' l.a = H l.a) : ThingAt K H' l x := by
  obtain ⟨dx, o, hv, h1, h2, h3⟩ := h
  exact ⟨dx, o, hv, e.trans h1, q.t _ _ h2, h3.quiet q⟩
theorem RuleAt.quiet {K : PySem.W.Frag} {H H' : Hp} {a : Addr} {r : Rule} (h : RuleAt K H a r) (q : Quiet H H') (e : H' a = H a) : RuleAt K H' a r := by
  obtain ⟨dx, vc, va, h1, h2, h3⟩ := h
  exact ⟨dx, vc, va, e.trans h1, h2.keep q.t, h3.keep q.t⟩
theorem Fr.eq {M : Addr → Prop} {H H' : Hp} (f : Fr M H H') {b : Addr} {o : HO} (h : H b = some o) (n : ¬ M b) : H' b = H b := (f b o h n).trans h.symm
theorem ThingAt.there {K : PySem.W.Frag} {H : Hp} {l : TL} {x : Thing} (h : ThingAt K H l x) : ∃ c dx v t o d hh b p, H l.a = some (.ins c dx (fsThing v t o d hh b p)) := by
  obtain ⟨dx, o, hv, h1, _⟩ := h
  exact ⟨_, _, _, _, _, _, _, _, _, h1⟩
theorem RuleAt.there {K : PySem.W.Frag} {H : Hp} {a : Addr} {r : Rule} (h : RuleAt K H a r) : ∃ c dx rk de cv th am ct, H a = some (.ins c dx (fsRule rk de cv th am ct)) := by
  obtain ⟨dx, vc, va, h1, _⟩ := h
  exact ⟨_, _, _, _, _, _, _, _, h1⟩
/-! ### lists side by side -/
theorem paired_set {α β : Type} {F G : α → β → Prop} : ∀ {as : List α} {xs : List β} {i : Nat} {y : β}, Paired F as xs → (∀ (j : Nat) (a : α) (x : β), as[j]? = some a → xs[j]? = some x → F a x → j ≠ i → G a x) → (∀ a, as[i]? = some a → G a y) → Paired G as (xs.set i y)
  | [], [], i, y, .nil, _, _ => by rw [List.set_nil]; exact .nil
  | a :: as, x :: xs, 0, y, .cons r t, k, h => by
    refine .cons (h a rfl) ?_
    have : ∀ (as : List α) (xs : List β) (n : Nat), Paired F as xs → (∀ (j : Nat) (a : α) (x : β), as[j]? = some a → xs[j]? = some x → F a x → j + n ≠ 0 → G a x) → 1 ≤ n → Paired G as xs := by
      intro as xs n p
      induction p generalizing n with
      | nil => intro _ _; exact .nil
      | cons r t ih => intro k hn; exact .cons (k 0 _ _ rfl rfl r (by omega)) (ih n (fun j a x h1 h2 h3 h4 => k (j + 1) a x h1 h2 h3 (by omega)) hn)
    exact this as xs 1 t (fun j a x h1 h2 h3 _ => k (j + 1) a x h1 h2 h3 (by omega)) (Nat.le_refl _)
  | a :: as, x :: xs, i + 1, y, .cons r t, k, h => .cons (k 0 a x rfl rfl r (by omega)) (paired_set t (fun j a x h1 h2 h3 h4 => k (j + 1) a x h1 h2 h3 (by omega)) fun a e => h a e)
theorem paired_map2 {α β : Type} {F G : α → β → Prop} : ∀ {as : List α} {xs : List β}, Paired F as xs → (∀ (j : Nat) (a : α) (x : β), as[j]? = some a → xs[j]? = some x → F a x → G a x) → Paired G as xs
  | _, _, .nil, _ => .nil
  | _, _, .cons r t, k => .cons (k 0 _ _ rfl rfl r) (paired_map2 t fun j a x h1 h2 h3 => k (j + 1) a x h1 h2 h3)
theorem paired_get2 {α β : Type} {F : α → β → Prop} : ∀ {as : List α} {xs : List β} {i : Nat} {x : β}, Paired F as xs → xs[i]? = some x → ∃ a, as[i]? = some a ∧ F a x
  | [], [], _, _, .nil, h => by cases h
  | _ :: _, _ :: _, 0, _, .cons r _, h => by cases h; exact ⟨_, rfl, r⟩
  | _ :: _, _ :: _, i + 1, _, .cons _ t, h => paired_get2 (i := i) t h
theorem nodup_at {α : Type} : ∀ {l : List α} {i j : Nat} {a b : α}, l.Nodup → l[i]? = some a → l[j]? = some b → a = b → i = j
  | [], _, _, _, _, _, h, _, _ => by cases h
  | x :: r, 0, 0, _, _, _, _, _, _ => rfl
  | x :: r, 0, j + 1, _, _, nd, h1, h2, e => by
    cases h1
    exact absurd (e ▸ List.mem_of_getElem? h2) (List.nodup_cons.mp nd).1
  | x :: r, i + 1, 0, _, _, nd, h1, h2, e => by
    cases h2
    exact absurd (e.symm ▸ List.mem_of_getElem? h1) (List.nodup_cons.mp nd).1
  | x :: r, i + 1, j + 1, _, _, nd, h1, h2, e => congrArg (· + 1) (nodup_at (List.nodup_cons.mp nd).2 h1 h2 e)
/-- the first i of them by f -/
def mapTo {α : Type} (f : α → α) (i : Nat) (xs : List α) : List α := (xs.take i).map f ++ xs.drop i
theorem mapTo_zero {α : Type} {f : α → α} {xs : List α} : mapTo f 0 xs = xs := by simp [mapTo]
theorem mapTo_all {α : Type} {f : α → α} {xs : List α} : mapTo f xs.length xs = xs.map f := by simp [mapTo]
theorem mapTo_len {α : Type} {f : α → α} {i : Nat} {xs : List α} : (mapTo f i xs).length = xs.length := by simp [mapTo]; omega
theorem mapTo_get {α : Type} {f : α → α} {i : Nat} {xs : List α} {x : α} (h : xs[i]? = some x) : (mapTo f i xs)[i]? = some x := by
  obtain ⟨h1, h2⟩ := List.getElem?_eq_some_iff.mp h
  unfold mapTo
  rw [List.getElem?_append_right (by simp; omega)]
  simp only [List.length_map, List.length_take, List.getElem?_drop]
  rw [show i + (i - min i xs.length) = i by omega]
  exact h
theorem mapTo_set {α : Type} {f : α → α} {i : Nat} {xs : List α} {x : α} (h : xs[i]? = some x) : (mapTo f i xs).set i (f x) = mapTo f (i + 1) xs := by
  obtain ⟨h1, h2⟩ := List.getElem?_eq_some_iff.mp h
  unfold mapTo
  have e1 : xs.drop i = x :: xs.drop (i + 1) := by rw [List.drop_eq_getElem_cons h1, h2]
  have e2 : xs.take (i + 1) = xs.take i ++ [x] := by rw [List.take_succ, h]; rfl
  have e3 : ((xs.take i).map f).length = i := by simp; omega
  rw [e1, e2, List.set_append_right _ _ (by omega), e3]
  simp
theorem mapTo_map {α β : Type} {f : α → α} {g : α → β} (h : ∀ x, g (f x) = g x) {i : Nat} {xs : List α} : (mapTo f i xs).map g = xs.map g := by
  unfold mapTo
  rw [List.map_append, List.map_map, show (g ∘ f) = g from funext h, ← List.map_append, List.take_append_drop]
/-! ### the house's dicts -/
structure Sep (L : Lay) : Prop where
  ts : (L.ts.map (·.a)).Nodup
  ps : (L.ts.map (·.pa)).Nodup
  rs : L.rs.Nodup
  d1 : L.ds ≠ L.dt
  d2 : L.ds ≠ L.dr
  d3 : L.dt ≠ L.dr
/-- the dicts stand open -/
structure Opn (H : Hp) (L : Lay) (s : House) : Prop where
  ds : H L.ds = some (.dK (sensK s.sensors))
  dt : H L.dt = some (.dK (thingsK L.ts s.things))
  dr : H L.dr = some (.dK (rulesK L.rs s.rules))
theorem thingsK_names {ts : List TL} : ∀ {xs ys : List Thing}, xs.map (·.name) = ys.map (·.name) → thingsK ts xs = thingsK ts ys := by
  induction ts with
  | nil => intro xs ys _; cases xs <;> cases ys <;> rfl
  | cons l r ih =>
    intro xs ys h
    cases xs with
    | nil => cases ys with
      | nil => rfl
      | cons => cases h
    | cons x xs => cases ys with
      | nil => cases h
      | cons y ys =>
        rw [List.map_cons, List.map_cons] at h
        injection h with h1 h2
        show (((Sum.inr (S x.name) : Key), V.ref l.a) :: thingsK r xs) = (((Sum.inr (S y.name) : Key), V.ref l.a) :: thingsK r ys)
        rw [ih h2, h1]
theorem rulesK_names {ts : List Addr} : ∀ {xs ys : List Rule}, xs.map (·.name) = ys.map (·.name) → rulesK ts xs = rulesK ts ys := by
  induction ts with
  | nil => intro xs ys _; cases xs <;> cases ys <;> rfl
  | cons l r ih =>
    intro xs ys h
    cases xs with
    | nil => cases ys with
      | nil => rfl
      | cons => cases h
    | cons x xs => cases ys with
      | nil => cases h
      | cons y ys =>
        rw [List.map_cons, List.map_cons] at h
        injection h with h1 h2
        show (((Sum.inr (S x.name) : Key), V.ref l) :: rulesK r xs) = (((Sum.inr (S y.name) : Key), V.ref l) :: rulesK r ys)
        rw [ih h2, h1]
theorem thingsK_len {ts : List TL} {xs : List Thing} (h : ts.length = xs.length) : (thingsK ts xs).length = xs.length := by
  unfold thingsK; rw [List.length_zipWith]; omega
theorem rulesK_len {ts : List Addr} {xs : List Rule} (h : ts.length = xs.length) : (rulesK ts xs).length = xs.length := by
  unfold rulesK; rw [List.length_zipWith]; omega
theorem thingsK_get {ts : List TL} {xs : List Thing} {i : Nat} {k : Key} {v : V} (h : (thingsK ts xs)[i]? = some (k, v)) : ∃ l x, ts[i]? = some l ∧ xs[i]? = some x ∧ k = .inr (S x.name) ∧ v = .ref l.a := by
  unfold thingsK at h
  rw [List.getElem?_zipWith] at h
  cases h1 : ts[i]? with
  | none => rw [h1] at h; cases h
  | some l =>
    cases h2 : xs[i]? with
    | none => rw [h1, h2] at h; cases h
    | some x => rw [h1, h2] at h; cases h; exact ⟨l, x, rfl, rfl, rfl, rfl⟩
theorem rulesK_get {ts : List Addr} {xs : List Rule} {i : Nat} {k : Key} {v : V} (h : (rulesK ts xs)[i]? = some (k, v)) : ∃ l x, ts[i]? = some l ∧ xs[i]? = some x ∧ k = .inr (S x.name) ∧ v = .ref l := by
  unfold rulesK at h
  rw [List.getElem?_zipWith] at h
  cases h1 : ts[i]? with
  | none => rw [h1] at h; cases h
  | some l =>
    cases h2 : xs[i]? with
    | none => rw [h1, h2] at h; cases h
    | some x => rw [h1, h2] at h; cases h; exact ⟨l, x, rfl, rfl, rfl, rfl⟩
/-- what stands at a name -/
theorem zipK_val {α β : Type} (nm : β → Bytes) (ad : α → V) {n : Bytes} : ∀ {as : List α} {xs : List β}, as.length = xs.length → (xs.map nm).Nodup →
    match (xs.find? fun x => nm x == n) with
    | none => valV (List.zipWith (fun a x => ((Sum.inr (S (nm x)) : Key), ad a)) as xs) (.inr (S n)) = none
    | some x => nm x = n ∧ ∃ (i : Nat) (a : α), xs[i]? = some x ∧ as[i]? = some a ∧ valV (List.zipWith (fun a x => ((Sum.inr (S (nm x)) : Key), ad a)) as xs) (.inr (S n)) = some (ad a)
  | [], [], _, _ => rfl
  | a :: as, x :: xs, h, nd => by
    rw [List.map_cons, List.nodup_cons] at nd
    have ih := zipK_val nm ad (n := n) (as := as) (xs := xs) (by simpa using h) nd.2
    rw [List.find?_cons]
    by_cases c : nm x = n
    · rw [beq_iff_eq.mpr c]
      exact ⟨c, 0, a, rfl, rfl, valV_pos (by show (Sum.inr (S (nm x)) : Key) = _; rw [c])⟩
    · rw [beq_eq_false_iff_ne.mpr c]
      have e : valV (List.zipWith (fun a x => ((Sum.inr (S (nm x)) : Key), ad a)) (a :: as) (x :: xs)) (.inr (S n)) = valV (List.zipWith (fun a x => ((Sum.inr (S (nm x)) : Key), ad a)) as xs) (.inr (S n)) :=
        valV_neg (fun z => c (key_iff.mp z))
      rw [e]
      cases e2 : (xs.find? fun x => nm x == n) with
      | none => rw [e2] at ih; exact ih
      | some y =>
        rw [e2] at ih
        obtain ⟨h1, i, b, h2, h3, h4⟩ := ih
        exact ⟨h1, i + 1, b, h2, h3, h4⟩
theorem things_val {L : Lay} {s : House} (hl : L.ts.length = s.things.length) (nd : (s.things.map (·.name)).Nodup) (n : Bytes) :
    match thingOf s n with
    | none => valV (thingsK L.ts s.things) (.inr (S n)) = none
    | some x => x.name = n ∧ ∃ (i : Nat) (l : TL), s.things[i]? = some x ∧ L.ts[i]? = some l ∧ valV (thingsK L.ts s.things) (.inr (S n)) = some (.ref l.a) :=
by
  have h := zipK_val (n := n) (fun x : Thing => x.name) (fun l : TL => V.ref l.a) hl nd
  unfold thingOf
  cases e : s.things.find? (fun x => x.name == n) with
  | none => rw [e] at h; exact h
  | some y => rw [e] at h; exact h
theorem rules_val {L : Lay} {s : House} (hl : L.rs.length = s.rules.length) (nd : (s.rules.map (·.name)).Nodup) (n : Bytes) :
    match ruleOf s n with
    | none => valV (rulesK L.rs s.rules) (.inr (S n)) = none
    | some x => x.name = n ∧ ∃ (i : Nat) (l : Addr), s.rules[i]? = some x ∧ L.rs[i]? = some l ∧ valV (rulesK L.rs s.rules) (.inr (S n)) = some (.ref l) :=
by
  have h := zipK_val (n := n) (fun x : Rule => x.name) (fun l : Addr => V.ref l) hl nd
  unfold ruleOf
  cases e : s.rules.find? (fun x => x.name == n) with
  | none => rw [e] at h; exact h
  | some y => rw [e] at h; exact h
theorem thing_val {L : Lay} {s : House} (hl : L.ts.length = s.things.length) (nd : (s.things.map (·.name)).Nodup) {i : Nat} {x : Thing} {l : TL} (h1 : s.things[i]? = some x) (h2 : L.ts[i]? = some l) :
    valV (thingsK L.ts s.things) (.inr (S x.name)) = some (.ref l.a) := by
  have h := things_val hl nd x.name
  cases e : thingOf s x.name with
  | none =>
    have := List.find?_eq_none.mp e x (List.mem_of_getElem? h1)
    simp at this
  | some y =>
    rw [e] at h
    obtain ⟨h3, j, m, h4, h5, h6⟩ := h
    have e1 : (s.things.map (·.name))[i]? = some x.name := by rw [List.getElem?_map, h1]; rfl
    have e2 : (s.things.map (·.name))[j]? = some y.name := by rw [List.getElem?_map, h4]; rfl
    have := nodup_at nd e1 e2 h3.symm
    subst this
    rw [h2] at h5
    cases h5
    exact h6
/-! ### one thing or one rule changes -/
section
variable {K : PySem.W.Frag} {H H' : Hp} {L : Lay} {s : House}
theorem HouseAt.lt (h : HouseAt K H L s) : L.ts.length = s.things.length := h.ts.length
theorem HouseAt.lr (h : HouseAt K H L s) : L.rs.length = s.rules.length := h.rs.length
theorem rd_fr {M : Addr → Prop} {a : Addr} {u : HO} (f : Fr M H H') (h : Rd H a u) (n : ¬ M a) : Rd H' a u := by
  rcases h with h | ⟨o, h⟩
  · exact .inl (f _ _ h n)
  · exact .inr ⟨o, f _ _ h n⟩
theorem rd_ins {a : Addr} {kvs : List (Key × V)} (h : Rd H a (.dK kvs)) {b c dx : Addr} {fs : List (Str × V)} (e : H b = some (.ins c dx fs)) : a ≠ b := by
  rcases h with h | ⟨o, h⟩
  · exact ne_of h e (by intro z; cases z)
  · exact ne_of h e (by intro z; cases z)
theorem house_ne_thing (h : HouseAt K H L s) {l : TL} {x : Thing} (t : ThingAt K H l x) : L.h ≠ l.a := by
  obtain ⟨dx, q⟩ := h.h
  obtain ⟨_, _, _, _, _, _, _, _, _, e⟩ := t.there
  exact ne_of q e (by intro z; cases z)
theorem house_ne_rule (h : HouseAt K H L s) {a : Addr} {x : Rule} (t : RuleAt K H a x) : L.h ≠ a := by
  obtain ⟨dx, q⟩ := h.h
  obtain ⟨_, _, _, _, _, _, _, _, e⟩ := t.there
  exact ne_of q e (by intro z; cases z)
theorem thing_ne_rule {l : TL} {y : Thing} {a : Addr} {x : Rule} (u : ThingAt K H l y) (t : RuleAt K H a x) : l.a ≠ a := by
  obtain ⟨_, _, _, _, _, _, _, _, _, q⟩ := u.there
  obtain ⟨_, _, _, _, _, _, _, _, e⟩ := t.there
  exact ne_of q e (by intro z; cases z)
theorem set_names {xs : List Thing} {i : Nat} {x y : Thing} (h : xs[i]? = some x) (n : y.name = x.name) : (xs.set i y).map (·.name) = xs.map (·.name) := by
  rw [List.map_set, n]
  refine List.ext_getElem? fun j => ?_
  rw [List.getElem?_set]
  split
  · rename_i e; subst e
    obtain ⟨h1, h2⟩ := List.getElem?_eq_some_iff.mp h
    rw [if_pos (by simpa using h1), List.getElem?_map, h]; rfl
  · rfl
theorem set_namesR {xs : List Rule} {i : Nat} {x y : Rule} (h : xs[i]? = some x) (n : y.name = x.name) : (xs.set i y).map (·.name) = xs.map (·.name) := by
  rw [List.map_set, n]
  refine List.ext_getElem? fun j => ?_
  rw [List.getElem?_set]
  split
  · rename_i e; subst e
    obtain ⟨h1, h2⟩ := List.getElem?_eq_some_iff.mp h
    rw [if_pos (by simpa using h1), List.getElem?_map, h]; rfl
  · rfl
theorem HouseAt.putT (h : HouseAt K H L s) (sp : Sep L) {i : Nat} {l : TL} {x y : Thing} (hl : L.ts[i]? = some l) (hx : s.things[i]? = some x) (n : y.name = x.name) (f : Fr (At l.a) H H') (hy : ThingAt K H' l y) :
    HouseAt K H' L { s with things := s.things.set i y } := by
  obtain ⟨x', hx', tx⟩ := paired_get h.ts hl
  rw [hx] at hx'; cases hx'
  obtain ⟨_, _, _, _, _, _, _, _, _, ea⟩ := tx.there
  have q := Quiet.at1 f ea soft_thing
  have hn := house_ne_thing h tx
  refine ⟨?_, rd_fr f h.ds (rd_ins h.ds ea), ?_, rd_fr f h.dr (rd_ins h.dr ea), ?_, ?_⟩
  · obtain ⟨dx, z⟩ := h.h; exact ⟨dx, f _ _ z hn⟩
  · have e : thingsK L.ts (s.things.set i y) = thingsK L.ts s.things := thingsK_names (set_names hx n)
    rw [e]
    exact rd_fr f h.dt (rd_ins h.dt ea)
  · refine paired_set h.ts (fun j a z h1 h2 h3 h4 => ?_) fun a e => by rw [hl] at e; cases e; exact hy
    obtain ⟨_, _, _, _, _, _, _, _, _, e3⟩ := h3.there
    refine h3.quiet q (f.eq e3 fun z => h4 ?_)
    exact nodup_at sp.ts (by rw [List.getElem?_map, h1]; rfl) (by rw [List.getElem?_map, hl]; rfl) z
  · refine paired_map2 h.rs fun j a z h1 h2 h3 => ?_
    obtain ⟨_, _, _, _, _, _, _, _, e3⟩ := h3.there
    exact h3.quiet q (f.eq e3 fun z => thing_ne_rule tx h3 z.symm)
theorem HouseAt.putR (h : HouseAt K H L s) (sp : Sep L) {i : Nat} {a : Addr} {x y : Rule} (hl : L.rs[i]? = some a) (hx : s.rules[i]? = some x) (n : y.name = x.name) (f : Fr (At a) H H') (hy : RuleAt K H' a y) :
    HouseAt K H' L { s with rules := s.rules.set i y } := by
  obtain ⟨x', hx', tx⟩ := paired_get h.rs hl
  rw [hx] at hx'; cases hx'
  obtain ⟨_, _, _, _, _, _, _, _, ea⟩ := tx.there
  have q := Quiet.at1 f ea soft_rule
  have hn := house_ne_rule h tx
  refine ⟨?_, rd_fr f h.ds (rd_ins h.ds ea), rd_fr f h.dt (rd_ins h.dt ea), ?_, ?_, ?_⟩
  · obtain ⟨dx, z⟩ := h.h; exact ⟨dx, f _ _ z hn⟩
  · have e : rulesK L.rs (s.rules.set i y) = rulesK L.rs s.rules := rulesK_names (set_namesR hx n)
    rw [e]
    exact rd_fr f h.dr (rd_ins h.dr ea)
  · refine paired_map2 h.ts fun j b z h1 h2 h3 => ?_
    obtain ⟨_, _, _, _, _, _, _, _, _, e3⟩ := h3.there
    exact h3.quiet q (f.eq e3 fun z => thing_ne_rule h3 tx z)
  · refine paired_set h.rs (fun j b z h1 h2 h3 h4 => ?_) fun b e => by rw [hl] at e; cases e; exact hy
    obtain ⟨_, _, _, _, _, _, _, _, e3⟩ := h3.there
    exact h3.quiet q (f.eq e3 fun z => h4 (nodup_at sp.rs h1 hl z))
/-- nothing of the house is touched -/
theorem HouseAt.away {M : Addr → Prop} (h : HouseAt K H L s) (f : Fr M H H') (q : Quiet H H') (n0 : ¬ M L.h) (n1 : ¬ M L.ds) (n2 : ¬ M L.dt) (n3 : ¬ M L.dr) (n4 : ∀ l ∈ L.ts, ¬ M l.a) (n5 : ∀ a ∈ L.rs, ¬ M a) : HouseAt K H' L s := by
  refine ⟨?_, rd_fr f h.ds n1, rd_fr f h.dt n2, rd_fr f h.dr n3, ?_, ?_⟩
  · obtain ⟨dx, z⟩ := h.h; exact ⟨dx, f _ _ z n0⟩
  · refine paired_map2 h.ts fun j b z h1 h2 h3 => ?_
    obtain ⟨_, _, _, _, _, _, _, _, _, e3⟩ := h3.there
    exact h3.quiet q (f.eq e3 (n4 _ (List.mem_of_getElem? h1)))
  · refine paired_map2 h.rs fun j b z h1 h2 h3 => ?_
    obtain ⟨_, _, _, _, _, _, _, _, e3⟩ := h3.there
    exact h3.quiet q (f.eq e3 (n5 _ (List.mem_of_getElem? h1)))
/-- a dict is locked or unlocked -/
theorem HouseAt.lock (h : HouseAt K H L s) {d : Addr} {kvs : List (Key × V)} {o' : HO} (e : Rd H d (.dK kvs)) (r : o' = .dK kvs ∨ ∃ o, o' = .frz o (.dK kvs)) : HouseAt K (upd H d o') L s := by
  have rr : ∀ a kvs', Rd H a (.dK kvs') → Rd (upd H d o') a (.dK kvs') := by
    intro a kvs' z
    by_cases c : a = d
    · subst c
      have ek : kvs' = kvs := by
        rcases z with z | ⟨_, z⟩ <;> rcases e with e | ⟨_, e⟩ <;> rw [z] at e <;> cases e <;> rfl
      subst ek
      rcases r with rfl | ⟨o, rfl⟩
      · exact .inl upd_same
      · exact .inr ⟨o, upd_same⟩
    · rcases z with z | ⟨o, z⟩
      · exact .inl (by rw [upd_ne c]; exact z)
      · exact .inr ⟨o, by rw [upd_ne c]; exact z⟩
  have q : Quiet H (upd H d o') := by
    rcases e with e | ⟨_, e⟩
    · exact Quiet.upd1 e soft_dK
    · exact Quiet.upd1 e soft_frz
  have ni : ∀ b c dx fs, H b = some (.ins c dx fs) → upd H d o' b = H b := fun b c dx fs z => upd_ne (fun w => (rd_ins e z) w.symm)
  refine ⟨?_, rr _ _ h.ds, rr _ _ h.dt, rr _ _ h.dr, ?_, ?_⟩
  · obtain ⟨dx, z⟩ := h.h; exact ⟨dx, (ni _ _ _ _ z).trans z⟩
  · refine paired_map2 h.ts fun j b z h1 h2 h3 => ?_
    obtain ⟨_, _, _, _, _, _, _, _, _, e3⟩ := h3.there
    exact h3.quiet q (ni _ _ _ _ e3)
  · refine paired_map2 h.rs fun j b z h1 h2 h3 => ?_
    obtain ⟨_, _, _, _, _, _, _, _, e3⟩ := h3.there
    exact h3.quiet q (ni _ _ _ _ e3)
theorem HouseAt.clock (h : HouseAt K H L s) {dx : Addr} (e : H L.h = some (.ins (cHouse K) dx (fsHouse (s.clock : Nat) L.ds L.dt L.dr))) (c : Nat) :
    HouseAt K (upd H L.h (.ins (cHouse K) dx (fsHouse (c : Nat) L.ds L.dt L.dr))) L { s with clock := c } := by
  have q : Quiet H (upd H L.h (.ins (cHouse K) dx (fsHouse (c : Nat) L.ds L.dt L.dr))) := Quiet.upd1 e soft_house
  have f : Fr (At L.h) H (upd H L.h (.ins (cHouse K) dx (fsHouse (c : Nat) L.ds L.dt L.dr))) := Fr.at1
  refine ⟨⟨dx, upd_same⟩, rd_fr f h.ds (rd_ins h.ds e), rd_fr f h.dt (rd_ins h.dt e), rd_fr f h.dr (rd_ins h.dr e), ?_, ?_⟩
  · refine paired_map2 h.ts fun j b z h1 h2 h3 => ?_
    obtain ⟨_, _, _, _, _, _, _, _, _, e3⟩ := h3.there
    exact h3.quiet q (f.eq e3 fun z => house_ne_thing h h3 z.symm)
  · refine paired_map2 h.rs fun j b z h1 h2 h3 => ?_
    obtain ⟨_, _, _, _, _, _, _, _, e3⟩ := h3.there
    exact h3.quiet q (f.eq e3 fun z => house_ne_rule h h3 z.symm)
end
end Hw
end

/-! ## part S1 -/
section
set_option Elab.async false
set_option linter.all false
set_option maxRecDepth 100000
set_option maxHeartbeats 2000000
namespace Hw
open PySem PySem.Spec PyProof.Rows L2
open Hr01 (Bytes Words Term Sum Cond ascii isName num? term? digit small sum? parted Cmd Rule cmd? Thing House By byText thingsIn thingsOf valueOf termValue sumValue isSensor thingOf ruleOf leaves joined decimal told listed termText sumText condText)
section
variable {P : Program} {w : World} {K : PySem.W.Frag} {mg : Str → Option Value} {base : Heap}
/-! the makers -/
def sp_Hold_init (K : PySem.W.Frag) : Sp := fun vs H Q _ => ∃ (p dx : Addr) (v r e : Int), vs = [.ref p, .int v, .int r, .int e] ∧ H p = some (.ins (cHold K) dx []) ∧
  ∀ H' : Hp, H' p = some (.ins (cHold K) dx (fsHold v r e)) → Fr (At p) H H' → Q .non H'
theorem sc_Hold_init : FnScope ["self", "value", "rank", "end"] ["self", "value", "rank", "end"] (defScope s_Hold_init) := ⟨rfl, rfl, rfl, by decide +kernel, rfl, by decide +kernel, by decide +kernel⟩
theorem ok_Hold_init (g : Good w K mg) : FnOk P w K mg base CX0 1 (He.ma K (He.ga K "Hold") "__init__") (fdA K (He.ma K (He.ga K "Hold") "__init__")) ["self", "value", "rank", "end"] (sp_Hold_init K) := by
  refine (F_Hold_init g).ok sc_Hold_init (fun vs H Q E h => ?_) (fun cdv A outer s H vs Q E hr h => ⟨_, PSs.nox (pss_cons (ps_fld (pv 0) (pv 1) rfl) (pss_cons (ps_fld (pv 0) (pv 2) rfl) (pss_one (ps_fld (pv 0) (pv 3) rfl)))), ?_⟩)
  · obtain ⟨p, dx, v, r, e, rfl, _⟩ := h; rfl
  · obtain ⟨p, dx, v, r, e, rfl, hp, k⟩ := h
    refine ⟨_, rfl, _, rfl, p, _, dx, [], rfl, hp, cl_Hold g, na_Hold_value g, (by show 0 < 1000; decide), ?_⟩
    rw [nw_Hold_value v r e]
    refine ⟨_, rfl, _, rfl, p, _, dx, _, rfl, upd_same, cl_Hold g, na_Hold_rank g, (by show 1 < 1000; decide), ?_⟩
    rw [nw_Hold_rank v r e]
    refine ⟨_, rfl, _, rfl, p, _, dx, _, rfl, upd_same, cl_Hold g, na_Hold_end g, (by show 2 < 1000; decide), ?_⟩
    rw [nw_Hold_end v r e]
    exact k _ upd_same ((Fr.at1.trans Fr.at1).trans Fr.at1)
def sp_Rule_init (K : PySem.W.Frag) : Sp := fun vs H Q _ => ∃ (p dx : Addr) (rk de : Int) (c : V) (th : Bytes) (am : V), vs = [.ref p, .int rk, .int de, c, vS th, am] ∧ H p = some (.ins (cRule K) dx []) ∧
  ∀ H' : Hp, H' p = some (.ins (cRule K) dx (fsRule rk de c th am 0)) → Fr (At p) H H' → Q .non H'
theorem sc_Rule_init : FnScope ["self", "rank", "delay", "condition", "thing", "amount"] ["self", "rank", "delay", "condition", "thing", "amount"] (defScope s_Rule_init) := ⟨rfl, rfl, rfl, by decide +kernel, rfl, by decide +kernel, by decide +kernel⟩
theorem ok_Rule_init (g : Good w K mg) : FnOk P w K mg base CX0 1 (He.ma K (He.ga K "Rule") "__init__") (fdA K (He.ma K (He.ga K "Rule") "__init__")) ["self", "rank", "delay", "condition", "thing", "amount"] (sp_Rule_init K) := by
  refine (F_Rule_init g).ok sc_Rule_init (fun vs H Q E h => ?_) (fun cdv A outer s H vs Q E hr h => ⟨_, PSs.nox (pss_cons (ps_fld (pv 0) (pv 1) rfl) (pss_cons (ps_fld (pv 0) (pv 2) rfl) (pss_cons (ps_fld (pv 0) (pv 3) rfl) (pss_cons (ps_fld (pv 0) (pv 4) rfl) (pss_cons (ps_fld (pv 0) (pv 5) rfl) (pss_one (ps_fld (pv 0) pe_int rfl))))))), ?_⟩)
  · obtain ⟨p, dx, rk, de, c, th, am, rfl, _⟩ := h; rfl
  · obtain ⟨p, dx, rk, de, c, th, am, rfl, hp, k⟩ := h
    refine ⟨_, rfl, _, rfl, p, _, dx, [], rfl, hp, cl_Rule g, na_Rule_rank g, (by show 0 < 1000; decide), ?_⟩
    rw [nw_Rule_rank rk de c th am 0]
    refine ⟨_, rfl, _, rfl, p, _, dx, _, rfl, upd_same, cl_Rule g, na_Rule_delay g, (by show 1 < 1000; decide), ?_⟩
    rw [nw_Rule_delay rk de c th am 0]
    refine ⟨_, rfl, _, rfl, p, _, dx, _, rfl, upd_same, cl_Rule g, na_Rule_condition g, (by show 2 < 1000; decide), ?_⟩
    rw [nw_Rule_condition rk de c th am 0]
    refine ⟨_, rfl, _, rfl, p, _, dx, _, rfl, upd_same, cl_Rule g, na_Rule_thing g, (by show 3 < 1000; decide), ?_⟩
    rw [nw_Rule_thing rk de c th am 0]
    refine ⟨_, rfl, _, rfl, p, _, dx, _, rfl, upd_same, cl_Rule g, na_Rule_amount g, (by show 4 < 1000; decide), ?_⟩
    rw [nw_Rule_amount rk de c th am 0]
    refine ⟨_, rfl, p, _, dx, _, rfl, upd_same, cl_Rule g, na_Rule_count g, (by show 5 < 1000; decide), ?_⟩
    rw [nw_Rule_count rk de c th am 0]
    exact k _ upd_same (((((Fr.at1.trans Fr.at1).trans Fr.at1).trans Fr.at1).trans Fr.at1).trans Fr.at1)
def sp_Thing_init (K : PySem.W.Frag) : Sp := fun vs H Q _ => ∃ (p dx : Addr) (v b : Int), vs = [.ref p, .int v, .int b] ∧ H p = some (.ins (cThing K) dx []) ∧
  ∀ (H' : Hp) (o pa : Addr), H o = none → H pa = none → H' p = some (.ins (cThing K) dx (fsThing v v o false .non b pa)) → H' o = some (.tup ((byText .none_).map vS)) → H' pa = some (.lst []) → Fr (At p) H H' → Q .non H'
theorem sc_Thing_init : FnScope ["self", "value", "born"] ["self", "value", "born"] (defScope s_Thing_init) := ⟨rfl, rfl, rfl, by decide +kernel, rfl, by decide +kernel, by decide +kernel⟩
theorem ok_Thing_init (g : Good w K mg) : FnOk P w K mg base CX0 1 (He.ma K (He.ga K "Thing") "__init__") (fdA K (He.ma K (He.ga K "Thing") "__init__")) ["self", "value", "born"] (sp_Thing_init K) := by
  refine (F_Thing_init g).ok sc_Thing_init (fun vs H Q E h => ?_) (fun cdv A outer s H vs Q E hr h => ⟨_, PSs.nox (pss_cons (ps_fld (pv 0) (pv 1) rfl) (pss_cons (ps_fld (pv 0) (pv 1) rfl) (pss_cons (ps_fld (pv 0) (pe_tup (pa_cons pe_str pa_nil)) rfl) (pss_cons (ps_fld (pv 0) pe_bl rfl) (pss_cons (ps_fld (pv 0) pe_non rfl) (pss_cons (ps_fld (pv 0) (pv 2) rfl) (pss_one (ps_fld (pv 0) (pe_lst pa_nil) rfl)))))))), ?_⟩)
  · obtain ⟨p, dx, v, b, rfl, _⟩ := h; rfl
  · obtain ⟨p, dx, v, b, rfl, hp, k⟩ := h
    have en : (("none" : String) : Str) = S (ascii "none") := S_of "none"
    refine ⟨_, rfl, _, rfl, p, _, dx, [], rfl, hp, cl_Thing g, na_Thing_value g, (by show 0 < 1000; decide), ?_⟩
    rw [nw_Thing_value v v 0 false .non b 0]
    refine ⟨_, rfl, _, rfl, p, _, dx, _, rfl, upd_same, cl_Thing g, na_Thing_target g, (by show 1 < 1000; decide), ?_⟩
    rw [nw_Thing_target v v 0 false .non b 0]
    refine ⟨by show 1 ≤ sizeLine; decide, fun o ho => ?_⟩
    have po : p ≠ o := fun z => by rw [← z, upd_same] at ho; cases ho
    refine ⟨_, rfl, p, _, dx, _, rfl, (upd_ne po).trans upd_same, cl_Thing g, na_Thing_origin g, (by show 2 < 1000; decide), ?_⟩
    rw [nw_Thing_origin v v o false .non b 0]
    refine ⟨_, rfl, p, _, dx, _, rfl, upd_same, cl_Thing g, na_Thing_deaf g, (by show 3 < 1000; decide), ?_⟩
    rw [nw_Thing_deaf v v o false .non b 0]
    refine ⟨_, rfl, p, _, dx, _, rfl, upd_same, cl_Thing g, na_Thing_hold g, (by show 4 < 1000; decide), ?_⟩
    rw [nw_Thing_hold v v o false .non b 0]
    refine ⟨_, rfl, _, rfl, p, _, dx, _, rfl, upd_same, cl_Thing g, na_Thing_born g, (by show 5 < 1000; decide), ?_⟩
    rw [nw_Thing_born v v o false .non b 0]
    refine ⟨by show 0 ≤ sizeLine; decide, fun pa hpa => ?_⟩
    have pp : p ≠ pa := fun z => by rw [← z, upd_same] at hpa; cases hpa
    refine ⟨_, rfl, p, _, dx, _, rfl, (upd_ne pp).trans upd_same, cl_Thing g, na_Thing_past g, (by show 6 < 1000; decide), ?_⟩
    rw [nw_Thing_past v v o false .non b pa]
    have op : o ≠ pa := fun z => by
      rw [← z] at hpa
      rw [upd_ne po.symm, upd_ne po.symm, upd_ne po.symm, upd_ne po.symm, upd_same] at hpa
      cases hpa
    refine k _ o pa ?_ ?_ upd_same ?_ ?_ ?_
    · rw [upd_ne po.symm, upd_ne po.symm] at ho; exact ho
    · rw [upd_ne pp.symm, upd_ne pp.symm, upd_ne pp.symm, upd_ne pp.symm, upd_ne op.symm, upd_ne pp.symm, upd_ne pp.symm] at hpa; exact hpa
    · rw [upd_ne po.symm, upd_ne op, upd_ne po.symm, upd_ne po.symm, upd_ne po.symm, upd_ne po.symm, upd_same]
      show some (HO.tup [V.str _]) = _
      rw [en]; rfl
    · rw [upd_ne pp.symm, upd_same]
    · refine Fr.trans (Fr.trans (Fr.at1.trans Fr.at1) (Fr.new ho)) (Fr.trans (Fr.trans (((Fr.at1.trans Fr.at1).trans Fr.at1).trans Fr.at1) (Fr.new hpa)) Fr.at1)
def sp_House_init (K : PySem.W.Frag) : Sp := fun vs H Q _ => ∃ (p dx : Addr), vs = [.ref p] ∧ H p = some (.ins (cHouse K) dx []) ∧
  ∀ (H' : Hp) (ds dt dr : Addr), H ds = none → H dt = none → H dr = none → ds ≠ dt → ds ≠ dr → dt ≠ dr → H' p = some (.ins (cHouse K) dx (fsHouse 0 ds dt dr)) → H' ds = some (.dK []) → H' dt = some (.dK []) → H' dr = some (.dK []) → Fr (At p) H H' → Q .non H'
theorem sc_House_init : FnScope ["self"] ["self"] (defScope s_House_init) := ⟨rfl, rfl, rfl, by decide +kernel, rfl, by decide +kernel, by decide +kernel⟩
theorem ok_House_init (g : Good w K mg) : FnOk P w K mg base CX0 1 (He.ma K (He.ga K "House") "__init__") (fdA K (He.ma K (He.ga K "House") "__init__")) ["self"] (sp_House_init K) := by
  refine (F_House_init g).ok sc_House_init (fun vs H Q E h => ?_) (fun cdv A outer s H vs Q E hr h => ⟨_, PSs.nox (pss_cons (ps_fld (pv 0) pe_int rfl) (pss_cons (ps_fld (pv 0) pe_dnewK rfl) (pss_cons (ps_fld (pv 0) pe_dnewK rfl) (pss_one (ps_fld (pv 0) pe_dnewK rfl))))), ?_⟩)
  · obtain ⟨p, dx, rfl, _⟩ := h; rfl
  · obtain ⟨p, dx, rfl, hp, k⟩ := h
    refine ⟨_, rfl, p, _, dx, [], rfl, hp, cl_House g, na_House_clock g, (by show 0 < 1000; decide), ?_⟩
    rw [nw_House_clock 0 0 0 0]
    refine fun ds hds => ?_
    have p1 : p ≠ ds := fun z => by rw [← z, upd_same] at hds; cases hds
    refine ⟨_, rfl, p, _, dx, _, rfl, (upd_ne p1).trans upd_same, cl_House g, na_House_sensors g, (by show 1 < 1000; decide), ?_⟩
    rw [nw_House_sensors 0 ds 0 0]
    refine fun dt hdt => ?_
    have p2 : p ≠ dt := fun z => by rw [← z, upd_same] at hdt; cases hdt
    have d1 : ds ≠ dt := fun z => by rw [← z, upd_ne p1.symm, upd_same] at hdt; cases hdt
    refine ⟨_, rfl, p, _, dx, _, rfl, (upd_ne p2).trans upd_same, cl_House g, na_House_things g, (by show 2 < 1000; decide), ?_⟩
    rw [nw_House_things 0 ds dt 0]
    refine fun dr hdr => ?_
    have p3 : p ≠ dr := fun z => by rw [← z, upd_same] at hdr; cases hdr
    have d3 : dt ≠ dr := fun z => by rw [← z, upd_ne p2.symm, upd_same] at hdr; cases hdr
    have d2 : ds ≠ dr := fun z => by rw [← z, upd_ne p1.symm, upd_ne d1, upd_ne p1.symm, upd_same] at hdr; cases hdr
    refine ⟨_, rfl, p, _, dx, _, rfl, (upd_ne p3).trans upd_same, cl_House g, na_House_rules g, (by show 3 < 1000; decide), ?_⟩
    rw [nw_House_rules 0 ds dt dr]
    refine k _ ds dt dr ?_ ?_ ?_ d1 d2 d3 upd_same ?_ ?_ ?_ ?_
    · rw [upd_ne p1.symm] at hds; exact hds
    · rw [upd_ne p2.symm, upd_ne d1.symm, upd_ne p2.symm] at hdt; exact hdt
    · rw [upd_ne p3.symm, upd_ne d3.symm, upd_ne p3.symm, upd_ne d2.symm, upd_ne p3.symm] at hdr; exact hdr
    · rw [upd_ne p1.symm, upd_ne d2, upd_ne p1.symm, upd_ne d1, upd_ne p1.symm, upd_same]
    · rw [upd_ne p2.symm, upd_ne d3, upd_ne p2.symm, upd_same]
    · rw [upd_ne p3.symm, upd_same]
    · exact (((((Fr.at1.trans (Fr.new hds)).trans Fr.at1).trans (Fr.new hdt)).trans Fr.at1).trans (Fr.new hdr)).trans Fr.at1
/-! speaks, hold_lasts -/
def sp_speaks (K : PySem.W.Frag) : Sp := fun vs H Q _ => ∃ (a : Addr) (r : Rule), vs = [.ref a] ∧ RuleAt K H a r ∧ Q (.bl (Hr01.speaks r)) H
theorem sc_speaks : FnScope ["rule"] ["rule"] (defScope s_speaks) := ⟨rfl, rfl, rfl, by decide +kernel, rfl, by decide +kernel, by decide +kernel⟩
theorem ok_speaks (g : Good w K mg) : FnOk P w K mg base CX0 1 (He.ga K "speaks") (fdA K (He.ga K "speaks")) ["rule"] (sp_speaks K) := by
  refine (F_speaks g).ok sc_speaks (fun vs H Q E h => ?_) (fun cdv A outer s0 H vs Q E hr h => ⟨_, PSs.nox (pss_one (ps_ret (pe_cmpR op_gt (pe_fld (pv 0) rfl) (pe_fld (pv 0) rfl) (nomark _)))), ?_⟩)
  · obtain ⟨a, r, rfl, _⟩ := h; rfl
  · obtain ⟨a, r, rfl, ⟨dx, vc, va, h1, _⟩, k⟩ := h
    refine ⟨_, rfl, a, _, dx, _, _, rfl, h1, cl_Rule g, na_Rule_count g, lk_Rule_count .., ?_⟩
    refine ⟨_, rfl, a, _, dx, _, _, rfl, h1, cl_Rule g, na_Rule_delay g, lk_Rule_delay .., ?_⟩
    refine ⟨_, _, rfl, rfl, ?_⟩
    have e : decide (((r.after : Nat) : Int) < ((r.held : Nat) : Int)) = Hr01.speaks r := by
      unfold Hr01.speaks
      exact decide_eq_decide.mpr ⟨fun h => by omega, fun h => by omega⟩
    show Q (.bl (decide (((r.after : Nat) : Int) < ((r.held : Nat) : Int)))) H
    rw [e]
    exact k
def lasts (c : Nat) : Option (Nat × Nat × Nat) → Bool
  | none => false
  | some h => decide (c < h.2.2)
def sp_hold_lasts (K : PySem.W.Frag) : Sp := fun vs H Q _ => ∃ (l : TL) (x : Thing) (c : Nat), vs = [.ref l.a, .int (c : Nat)] ∧ ThingAt K H l x ∧ Q (.bl (lasts c x.hold)) H
theorem sc_hold_lasts : FnScope ["thing", "clock"] ["thing", "clock"] (defScope s_hold_lasts) := ⟨rfl, rfl, rfl, by decide +kernel, rfl, by decide +kernel, by decide +kernel⟩
theorem ok_hold_lasts (g : Good w K mg) : FnOk P w K mg base CX0 1 (He.ga K "hold_lasts") (fdA K (He.ga K "hold_lasts")) ["thing", "clock"] (sp_hold_lasts K) := by
  refine (F_hold_lasts g).ok sc_hold_lasts (fun vs H Q E h => ?_) (fun cdv A outer s0 H vs Q E hr h => ⟨_, PSs.nox (pss_one (ps_ret (pe_and (pe_cmp (pc_notN (pe_fld (pv 0) rfl))) (pe_one (pe_cmpR op_gt (pe_fld (pe_fld (pv 0) rfl) rfl) (pv 1) (nomark _)))))), ?_⟩)
  · obtain ⟨l, x, c, rfl, _⟩ := h; rfl
  · obtain ⟨l, x, c, rfl, ⟨dx, o, hv, h1, h2, h3⟩, k⟩ := h
    refine ⟨_, rfl, l.a, _, dx, _, _, rfl, h1, cl_Thing g, na_Thing_hold g, lk_Thing_hold .., ?_⟩
    cases e : x.hold with
    | none =>
      rw [e] at h3 k
      have h3' : hv = .non := h3
      subst h3'
      exact ⟨_, rfl, iteF k⟩
    | some h =>
      rw [e] at h3 k
      obtain ⟨a, dy, rfl, ha⟩ := h3
      refine ⟨_, rfl, iteT ?_⟩
      refine ⟨_, rfl, l.a, _, dx, _, _, rfl, h1, cl_Thing g, na_Thing_hold g, lk_Thing_hold .., ?_⟩
      refine ⟨a, _, dy, _, _, rfl, ha, cl_Hold g, na_Hold_end g, lk_Hold_end .., ?_⟩
      refine ⟨_, rfl, _, _, rfl, rfl, ?_⟩
      have e2 : decide (((c : Nat) : Int) < ((h.2.2 : Nat) : Int)) = lasts c (some h) := decide_eq_decide.mpr ⟨fun h => by omega, fun h => by omega⟩
      show Q (.bl (decide (((c : Nat) : Int) < ((h.2.2 : Nat) : Int)))) H
      rw [e2]
      exact k
end
end Hw
end

/-! ## part S2 -/
section
set_option Elab.async false
set_option linter.all false
set_option maxRecDepth 100000
set_option maxHeartbeats 2000000
namespace Hw
open PySem PySem.Spec PyProof.Rows L2
open Hr01 (Bytes Words Term Sum Cond ascii isName num? term? digit small sum? parted Cmd Rule cmd? Thing House By byText thingsIn thingsOf valueOf termValue sumValue isSensor thingOf ruleOf leaves joined decimal told listed termText sumText condText)
theorem Fr.unlock {H H' : Hp} {d : Addr} {u : HO} (f : Fr (At d) H H') (h : H d = some u) : Same H (upd H' d u) := fun b o e => by
  by_cases c : b = d
  · rw [c] at e ⊢; rw [upd_same]; exact h.symm.trans e
  · rw [upd_ne c]; exact f b o e c
theorem Fr.lockd {H : Hp} {d : Addr} {o : HO} : Fr (At d) H (upd H d o) := Fr.at1
theorem Fr.mono {M N : Addr → Prop} {H H' : Hp} (f : Fr M H H') (h : ∀ b, M b → N b) : Fr N H H' := fun b o e n => f b o e fun m => n (h b m)
/-! walks of the house's dicts -/
section
variable {d : Addr} {o : Obj}
theorem walk_itT {ts : List TL} {xs : List Thing} (hl : ts.length = xs.length) : Walk (Iti d o (thingsK ts xs)) xs.length (fun H => H d = some (.frz o (.dK (thingsK ts xs))))
    (fun i H x H' => ∃ (T : Addr) (l : TL) (t : Thing), ts[i]? = some l ∧ xs[i]? = some t ∧ x = .ref T ∧ H T = none ∧ H' = upd H T (.tup [vS t.name, .ref l.a])) := by
  have e := thingsK_len hl
  refine ⟨fun i H hi q => ⟨q, by rw [e]; exact hi⟩, fun H q => ⟨q, by rw [e]; exact Nat.le_refl _⟩, fun i H x H' _ _ y => ?_⟩
  obtain ⟨T, k, v, h1, h2, h3, h4⟩ := y
  obtain ⟨l, t, a, b, rfl, rfl⟩ := thingsK_get h1
  exact ⟨T, l, t, a, b, h2, h3, h4⟩
theorem walk_vT {ts : List TL} {xs : List Thing} (hl : ts.length = xs.length) : Walk (Itd d o (thingsK ts xs)) xs.length (fun H => H d = some (.frz o (.dK (thingsK ts xs))))
    (fun i H x H' => H' = H ∧ ∃ (l : TL) (t : Thing), ts[i]? = some l ∧ xs[i]? = some t ∧ x = .ref l.a) := by
  have e := thingsK_len hl
  refine ⟨fun i H hi q => ⟨q, by rw [e]; exact hi⟩, fun H q => ⟨q, by rw [e]; exact Nat.le_refl _⟩, fun i H x H' _ _ y => ?_⟩
  obtain ⟨h0, k, h1⟩ := y
  obtain ⟨l, t, a, b, rfl, rfl⟩ := thingsK_get h1
  exact ⟨h0, l, t, a, b, rfl⟩
theorem walk_kT {ts : List TL} {xs : List Thing} (hl : ts.length = xs.length) : Walk (Itk d o (thingsK ts xs)) xs.length (fun H => H d = some (.frz o (.dK (thingsK ts xs))))
    (fun i H x H' => H' = H ∧ ∃ (l : TL) (t : Thing), ts[i]? = some l ∧ xs[i]? = some t ∧ x = vS t.name) := by
  have e := thingsK_len hl
  refine ⟨fun i H hi q => ⟨q, by rw [e]; exact hi⟩, fun H q => ⟨q, by rw [e]; exact Nat.le_refl _⟩, fun i H x H' _ _ y => ?_⟩
  obtain ⟨h0, k, v, h1, h2⟩ := y
  obtain ⟨l, t, a, b, rfl, rfl⟩ := thingsK_get h1
  exact ⟨h0, l, t, a, b, h2⟩
theorem walk_itR {ts : List Addr} {xs : List Rule} (hl : ts.length = xs.length) : Walk (Iti d o (rulesK ts xs)) xs.length (fun H => H d = some (.frz o (.dK (rulesK ts xs))))
    (fun i H x H' => ∃ (T : Addr) (l : Addr) (t : Rule), ts[i]? = some l ∧ xs[i]? = some t ∧ x = .ref T ∧ H T = none ∧ H' = upd H T (.tup [vS t.name, .ref l])) := by
  have e := rulesK_len hl
  refine ⟨fun i H hi q => ⟨q, by rw [e]; exact hi⟩, fun H q => ⟨q, by rw [e]; exact Nat.le_refl _⟩, fun i H x H' _ _ y => ?_⟩
  obtain ⟨T, k, v, h1, h2, h3, h4⟩ := y
  obtain ⟨l, t, a, b, rfl, rfl⟩ := rulesK_get h1
  exact ⟨T, l, t, a, b, h2, h3, h4⟩
theorem walk_vR {ts : List Addr} {xs : List Rule} (hl : ts.length = xs.length) : Walk (Itd d o (rulesK ts xs)) xs.length (fun H => H d = some (.frz o (.dK (rulesK ts xs))))
    (fun i H x H' => H' = H ∧ ∃ (l : Addr) (t : Rule), ts[i]? = some l ∧ xs[i]? = some t ∧ x = .ref l) := by
  have e := rulesK_len hl
  refine ⟨fun i H hi q => ⟨q, by rw [e]; exact hi⟩, fun H q => ⟨q, by rw [e]; exact Nat.le_refl _⟩, fun i H x H' _ _ y => ?_⟩
  obtain ⟨h0, k, h1⟩ := y
  obtain ⟨l, t, a, b, rfl, rfl⟩ := rulesK_get h1
  exact ⟨h0, l, t, a, b, rfl⟩
theorem walk_itS {xs : List (Bytes × Nat)} : Walk (Iti d o (sensK xs)) xs.length (fun H => H d = some (.frz o (.dK (sensK xs))))
    (fun i H x H' => ∃ (T : Addr) (t : Bytes × Nat), xs[i]? = some t ∧ x = .ref T ∧ H T = none ∧ H' = upd H T (.tup [vS t.1, .int (t.2 : Nat)])) := by
  have e : (sensK xs).length = xs.length := List.length_map _
  refine ⟨fun i H hi q => ⟨q, by rw [e]; exact hi⟩, fun H q => ⟨q, by rw [e]; exact Nat.le_refl _⟩, fun i H x H' _ _ y => ?_⟩
  obtain ⟨T, k, v, h1, h2, h3, h4⟩ := y
  unfold sensK at h1
  rw [List.getElem?_map] at h1
  obtain ⟨t, ht, et⟩ := Option.map_eq_some_iff.mp h1
  cases et
  exact ⟨T, t, ht, h2, h3, h4⟩
end
/-- the readings of the first i things -/
def rdTo (s : House) (i : Nat) : List (Key × V) := (s.things.take i).foldl (fun acc x => putK acc (.inr (S x.name)) (.int (x.is : Nat))) (sensK s.sensors)
theorem rdTo_succ {s : House} {i : Nat} {x : Thing} (h : s.things[i]? = some x) : rdTo s (i + 1) = putK (rdTo s i) (.inr (S x.name)) (.int (x.is : Nat)) := by
  unfold rdTo
  rw [List.take_succ, h, Option.toList_some, List.foldl_append]; rfl
theorem putK_le (c : List (Key × V)) (k : Key) (x : V) : (putK c k x).length ≤ c.length + 1 := by
  unfold putK
  split
  · rw [List.length_map]; omega
  · rw [List.length_append]; exact Nat.le_refl _
theorem rdTo_len (s : House) : ∀ i, (rdTo s i).length ≤ s.sensors.length + i
  | 0 => by unfold rdTo sensK; simp
  | i + 1 => by
    have ih := rdTo_len s i
    cases h : s.things[i]? with
    | none =>
      have e : rdTo s (i + 1) = rdTo s i := by unfold rdTo; rw [List.take_succ, h]; simp
      rw [e]; omega
    | some x =>
      rw [rdTo_succ h]
      have := putK_le (rdTo s i) (.inr (S x.name) : Key) (.int (x.is : Nat))
      omega
/-- few sensors, things and rules -/
structure Few (s : House) : Prop where
  fs : s.sensors.length ≤ 4
  ft : s.things.length ≤ 4
  fr : s.rules.length ≤ 6
section
variable {P : Program} {w : World} {K : PySem.W.Frag} {mg : Str → Option Value} {base : Heap}
def sp_readings_of (K : PySem.W.Frag) : Sp := fun vs H Q _ => ∃ (L : Lay) (s : House), vs = [.ref L.h] ∧ HouseAt K H L s ∧ H L.dt = some (.dK (thingsK L.ts s.things)) ∧ Few s ∧ ∀ H' p, Same H H' → H p = none → H' p = some (.dK (rdg s)) → Q (.ref p) H'
theorem sc_readings_of : FnScope ["house", "readings", "name", "thing"] ["house"] (defScope s_readings_of) := ⟨rfl, rfl, rfl, by decide +kernel, rfl, by decide +kernel, by decide +kernel⟩
theorem ok_readings_of (g : Good w K mg) : FnOk P w K mg base CX0 1 (He.ga K "readings_of") (fdA K (He.ga K "readings_of")) ["house"] (sp_readings_of K) := by
  refine (F_readings_of g).ok sc_readings_of (fun vs H Q E h => ?_) (fun cdv A outer s0 H vs Q E hr h => ⟨_, PSs.nox (pss_cons (ps_set (i := 1) sc_readings_of.nd rfl (Or.inl rfl) (pe_callTy call_dictD rfl (fr_dict g) (by decide +kernel) (pa_cons (pe_fld (pv 0) rfl) pa_nil))) (pss_cons (ps_lock (ps_for PassesOwn.never rfl (pi_items (pe_fld (pv 0) rfl)) (pg_tup rfl (pgs_cons (pg_name (i := 2) sc_readings_of.nd rfl (Or.inl rfl)) (pgs_cons (pg_name (i := 3) sc_readings_of.nd rfl (Or.inl rfl)) pgs_nil))) (pss_one (ps_dput (hu_of hr) (pv 1) (pv 2) (pe_fld (pv 3) rfl) rfl)))) (pss_cons (ps_dput (hu_of hr) (pv 1) pe_str (pe_op op_mod (pe_fld (pv 0) rfl) (pe_gI rfl (i_MINUTES_OF_A_DAY g))) rfl) (pss_one (ps_ret (pv 1)))))), ?_⟩)
  · obtain ⟨L, s, rfl, _⟩ := h; rfl
  · obtain ⟨L, s, rfl, hh, hdt, fw, k⟩ := h
    obtain ⟨dx, hH⟩ := hh.h
    have lt := hh.lt
    have fs := fw.fs
    have ft := fw.ft
    refine ⟨_, rfl, L.h, _, dx, _, _, rfl, hH, cl_House g, na_House_sensors g, lk_House_sensors .., ?_⟩
    refine ⟨L.ds, _, rfl, hh.ds, fun p hp => ?_⟩
    have s1 := same_new (o := HO.dK (sensK s.sensors)) hp
    have hdt1 := s1 _ _ hdt
    refine ⟨L.dt, _, hdt1, trivial, fun od => ?_⟩
    have nh : L.h ≠ L.dt := ne_of hH hdt (by intro z; cases z)
    have np : p ≠ L.dt := fun z => by rw [z, hdt] at hp; cases hp
    refine ⟨_, rfl, L.h, _, dx, _, _, rfl, (upd_ne nh).trans (s1 _ _ hH), cl_House g, na_House_things g, lk_House_things .., ?_⟩
    refine ⟨L.dt, od, _, rfl, upd_same, ?_⟩
    refine for_it (walk_itT lt) (fun i σ H' => Fr (At L.dt) H H' ∧ H' L.dt = some (.frz od (.dK (thingsK L.ts s.things))) ∧ H' p = some (.dK (rdTo s i)) ∧ ∃ x y, σ = [some (.ref L.h), some (.ref p), x, y])
      ⟨(Fr.of_same s1).trans Fr.at1, upd_same, (upd_ne np).trans upd_same, none, none, rfl⟩ (fun i σ H' _ z => z.2.1) ?_ ?_
    · rintro i x σ H' H2 hi ⟨f, hl, hpi, z1, z2, rfl⟩ ⟨T, l, t, hl1, ht1, rfl, hT, rfl⟩
      obtain ⟨t', ht', tAt⟩ := paired_get hh.ts hl1
      rw [ht1] at ht'; cases ht'
      obtain ⟨dt, o, hv, q1, q2, q3⟩ := tAt
      have nl : l.a ≠ L.dt := ne_of q1 hdt (by intro z; cases z)
      have q1' : upd H' T (.tup [vS t.name, .ref l.a]) l.a = some (.ins (cThing K) dt (fsThing (t.is : Nat) (t.want : Nat) o (!t.hears) hv (l.born : Nat) l.pa)) := by
        rw [upd_ne (ne_of_none (f _ _ q1 nl) hT)]; exact f _ _ q1 nl
      have pT : p ≠ T := ne_of_none hpi hT
      have len := rdTo_len s i
      refine ⟨T, _, rfl, SqT.of upd_same, rfl, _, _, rfl, _, _, rfl, rfl, ?_⟩
      refine ⟨_, rfl, l.a, _, dt, _, _, rfl, q1', cl_Thing g, na_Thing_value g, lk_Thing_value .., ?_⟩
      refine ⟨_, rfl, _, rfl, p, _, rfl, DPut.k (k := .inr (S t.name)) ((upd_ne pT).trans hpi) (by rw [sizeLine_eq]; omega), ?_, ?_, ?_, some (vS t.name), some (.ref l.a), rfl⟩
      · intro b o e n
        have e1 := f b o e n
        rw [upd_ne (fun z => by rw [z, hp] at e; cases e), upd_ne (ne_of_none e1 hT)]; exact e1
      · rw [upd_ne np.symm, upd_ne (ne_of_none hl hT)]; exact hl
      · rw [upd_same, rdTo_succ ht1]
    · rintro σ H' ⟨f, hl, hpi, z1, z2, rfl⟩
      refine ⟨hl, ?_⟩
      have sm : Same H (upd H' L.dt (.dK (thingsK L.ts s.things))) := f.unlock hdt
      have e1 : rdTo s s.things.length = s.things.foldl (fun acc x => putK acc (.inr (S x.name)) (.int (x.is : Nat))) (sensK s.sensors) := by
        unfold rdTo; rw [List.take_length]
      have len := rdTo_len s s.things.length
      refine ⟨_, rfl, L.h, _, dx, _, _, rfl, sm _ _ hH, cl_House g, na_House_clock g, lk_House_clock .., ?_⟩
      refine ⟨_, _, rfl, rfl, by show (0 : Int) < 1440; decide, ?_⟩
      have hp2 : upd H' L.dt (.dK (thingsK L.ts s.things)) p = some (.dK (rdTo s s.things.length)) := (upd_ne np).trans hpi
      refine ⟨_, rfl, p, _, rfl, DPut.k (k := timeS) hp2 (by rw [sizeLine_eq]; omega), ?_⟩
      refine ⟨_, rfl, ?_⟩
      refine k _ p (fun b o e => ?_) hp ?_
      · rw [upd_ne (fun z => by rw [z, hp] at e; cases e)]; exact sm b o e
      · rw [upd_same, e1]; rfl
/-! count_minute -/
def counted (u : House) (r : Rule) : Rule := { r with held := if Hr01.holds u r.cond then min (r.held + 1) (r.after + 1) else 0 }
def sp_count_minute (K : PySem.W.Frag) : Sp := fun vs H Q _ => ∃ (a ad : Addr) (u : House) (r : Rule), vs = [.ref a, .ref ad] ∧ RuleAt K H a r ∧ H ad = some (.dK (rdg u)) ∧ Names u ∧ KnowsC u r.cond ∧
  ∀ H', Fr (At a) H H' → RuleAt K H' a (counted u r) → Q .non H'
theorem sc_count_minute : FnScope ["rule", "readings"] ["rule", "readings"] (defScope s_count_minute) := ⟨rfl, rfl, rfl, by decide +kernel, rfl, by decide +kernel, by decide +kernel⟩
theorem ok_count_minute (g : Good w K mg) : FnOk P w K mg base CX0 24 (He.ga K "count_minute") (fdA K (He.ga K "count_minute")) ["rule", "readings"] (sp_count_minute K) := by
  refine (F_count_minute g).ok sc_count_minute (fun vs H Q E h => ?_) (fun cdv A outer s0 H vs Q E hr h => ⟨_, PSs.nox (pss_one (ps_if (pt_val (pe_call (ok_holds g) (hr.mono (by decide)) rfl (m_holds g) (F_holds g).kp (b_holds g) .nil pass0 (pa_cons (pe_fld (pv 0) rfl) (pa_cons (pv 1) pa_nil)))) (pss_one (ps_fld (pv 0) (pe_callB (call_min2 rfl) rfl (fr_min g) (by decide +kernel) (pa_cons (pe_op op_add (pe_fld (pv 0) rfl) pe_int) (pa_cons (pe_op op_add (pe_fld (pv 0) rfl) pe_int) pa_nil))) rfl)) (pss_one (ps_fld (pv 0) pe_int rfl)))), ?_⟩)
  · obtain ⟨a, ad, u, r, rfl, _⟩ := h; rfl
  · obtain ⟨a, ad, u, r, rfl, ⟨dx, vc, va, h1, h2, h3⟩, hd, N, kn, k⟩ := h
    have q : ∀ o', Quiet H (upd H a o') := fun o' => Quiet.upd1 h1 soft_rule
    refine ⟨_, rfl, a, _, dx, _, _, rfl, h1, cl_Rule g, na_Rule_condition g, lk_Rule_condition .., ?_⟩
    refine ⟨_, rfl, vc, ad, u, r.cond, rfl, h2, hd, N, kn, _, rfl, ?_⟩
    cases e : Hr01.holds u r.cond with
    | true =>
      refine iteT ⟨_, rfl, a, _, dx, _, _, rfl, h1, cl_Rule g, na_Rule_count g, lk_Rule_count .., ?_⟩
      refine ⟨_, _, rfl, rfl, _, rfl, a, _, dx, _, _, rfl, h1, cl_Rule g, na_Rule_delay g, lk_Rule_delay .., ?_⟩
      refine ⟨_, _, rfl, rfl, _, _, rfl, ?_⟩
      refine ⟨_, rfl, a, _, dx, _, rfl, h1, cl_Rule g, na_Rule_count g, (by show 6 < 1000; decide), ?_⟩
      rw [pt_Rule_count]
      refine k _ Fr.at1 ⟨dx, vc, va, ?_, h2.keep (q _).t, h3.keep (q _).t⟩
      rw [upd_same]
      have ec : (if ((r.after : Nat) : Int) + 1 < ((r.held : Nat) : Int) + 1 then ((r.after : Nat) : Int) + 1 else ((r.held : Nat) : Int) + 1) = (((counted u r).held : Nat) : Int) := by
        unfold counted
        rw [e]
        simp only [if_true]
        split <;> omega
      rw [ec]
      rfl
    | false =>
      refine iteF ⟨_, rfl, a, _, dx, _, rfl, h1, cl_Rule g, na_Rule_count g, (by show 6 < 1000; decide), ?_⟩
      rw [pt_Rule_count]
      refine k _ Fr.at1 ⟨dx, vc, va, ?_, h2.keep (q _).t, h3.keep (q _).t⟩
      rw [upd_same]
      have ec : (0 : Int) = (((counted u r).held : Nat) : Int) := by
        unfold counted
        rw [e]
        rfl
      rw [ec]
      rfl
end
end Hw
end

/-! ## part S3 -/
section
set_option Elab.async false
set_option linter.all false
set_option maxRecDepth 100000
set_option maxHeartbeats 2000000
namespace Hw
open PySem PySem.Spec PyProof.Rows L2
open Hr01 (Bytes Words Term Sum Cond ascii isName num? term? digit small sum? parted Cmd Rule cmd? Thing House By byText thingsIn thingsOf valueOf termValue sumValue isSensor thingOf ruleOf leaves joined decimal told listed termText sumText condText wanted clamped looked become)
theorem ps_imp {X : Cx} {st : Stmt} {t t' : TS} (h : PS X st t) (k : ∀ D σ H, t' D σ H → t D σ H) : PS X st t' := ⟨fun pins s σ H D I q => h.run pins s σ H D I (k D σ H q)⟩
/-! ### the target -/
abbrev Cand := Int × Nat × By
def better (c : Cand) (y : Nat × Nat × By) : Cand := if c.1 < (y.1 : Nat) then ((y.1 : Nat), y.2.1, y.2.2) else c
def holdC (u : House) (x : Thing) : List (Nat × Nat × By) := match x.hold with
  | some h => if u.clock < h.2.2 then [(h.2.1, h.1, By.hold)] else []
  | none => []
def ruleC (u : House) (n : Bytes) (rs : List Rule) : List (Nat × Nat × By) := (rs.filter fun r => r.thing == n && Hr01.speaks r).map fun r => (r.rank, clamped (sumValue u r.value), By.rule r.name)
theorem better_fold : ∀ (l : List (Nat × Nat × By)) (a : Nat × Nat × By), l.foldl better (((a.1 : Nat) : Int), a.2.1, a.2.2) =
    ((((l.foldl (fun (b y : Nat × Nat × By) => if b.1 < y.1 then y else b) a).1 : Nat) : Int), (l.foldl (fun (b y : Nat × Nat × By) => if b.1 < y.1 then y else b) a).2.1, (l.foldl (fun (b y : Nat × Nat × By) => if b.1 < y.1 then y else b) a).2.2)
  | [], a => rfl
  | y :: r, a => by
    rw [List.foldl_cons, List.foldl_cons]
    by_cases c : a.1 < y.1
    · have e : better (((a.1 : Nat) : Int), a.2.1, a.2.2) y = (((y.1 : Nat) : Int), y.2.1, y.2.2) := if_pos (by show ((a.1 : Nat) : Int) < ((y.1 : Nat) : Int); omega)
      rw [e, if_pos c]
      exact better_fold r y
    · have e : better (((a.1 : Nat) : Int), a.2.1, a.2.2) y = (((a.1 : Nat) : Int), a.2.1, a.2.2) := if_neg (by show ¬ ((a.1 : Nat) : Int) < ((y.1 : Nat) : Int); omega)
      rw [e, if_neg c]
      exact better_fold r a
theorem wanted_fold (u : House) (x : Thing) : wanted u x = ((holdC u x ++ ruleC u x.name u.rules).foldl better (-1, x.want, x.by_)).2 := by
  have e : wanted u x = match holdC u x ++ ruleC u x.name u.rules with
    | [] => (x.want, x.by_)
    | a :: r => (r.foldl (fun (b y : Nat × Nat × By) => if b.1 < y.1 then y else b) a).2 := rfl
  rw [e]
  generalize holdC u x ++ ruleC u x.name u.rules = l
  cases l with
  | nil => rfl
  | cons a r =>
    show _ = (r.foldl better (better (-1, x.want, x.by_) a)).2
    have e : better (-1, x.want, x.by_) a = (((a.1 : Nat) : Int), a.2.1, a.2.2) := if_pos (by show (-1 : Int) < ((a.1 : Nat) : Int); omega)
    rw [e, better_fold]
def stepR (u : House) (n : Bytes) (c : Cand) (r : Rule) : Cand := if (decide (r.thing = n) && (Hr01.speaks r && decide (c.1 < (r.rank : Nat)))) = true then ((r.rank : Nat), clamped (sumValue u r.value), By.rule r.name) else c
theorem step_fold (u : House) (n : Bytes) : ∀ (rs : List Rule) (c : Cand), rs.foldl (stepR u n) c = (ruleC u n rs).foldl better c
  | [], c => rfl
  | r :: rs, c => by
    rw [List.foldl_cons, step_fold u n rs]
    unfold ruleC
    rw [List.filter_cons]
    by_cases e : (r.thing == n && Hr01.speaks r) = true
    · rw [if_pos e, List.map_cons, List.foldl_cons]
      congr 1
      rw [Bool.and_eq_true] at e
      unfold stepR better
      have e1 : r.thing = n := by simpa using e.1
      simp [e1, e.2]
    · rw [if_neg e]
      congr 1
      unfold stepR
      rw [if_neg]
      intro z
      simp only [Bool.and_eq_true, decide_eq_true_eq] at z
      exact e (by simp [z.1, z.2.1])
/-- what a device begins with -/
def begC (u : House) (x : Thing) : Cand := (holdC u x).foldl better (-1, x.want, x.by_)
theorem begC_no {u : House} {x : Thing} (h : lasts u.clock x.hold = false) : begC u x = (-1, x.want, x.by_) := by
  unfold begC holdC
  cases e : x.hold with
  | none => rfl
  | some h' =>
    rw [e] at h
    dsimp only
    rw [if_neg (of_decide_eq_false h)]; rfl
theorem begC_yes {u : House} {x : Thing} {h : Nat × Nat × Nat} (e : x.hold = some h) (c : lasts u.clock x.hold = true) : begC u x = (((h.2.1 : Nat) : Int), h.1, By.hold) := by
  unfold begC holdC
  rw [e] at c ⊢
  dsimp only
  rw [if_pos (of_decide_eq_true c)]
  show better (-1, x.want, x.by_) (h.2.1, h.1, By.hold) = _
  exact if_pos (by show (-1 : Int) < ((h.2.1 : Nat) : Int); omega)
theorem wanted_step (u : House) (x : Thing) : wanted u x = (u.rules.foldl (stepR u x.name) (begC u x)).2 := by
  rw [wanted_fold, List.foldl_append, step_fold]; rfl
theorem clamp_eq (z : Int) : (if (if (999 : Int) < z then (999 : Int) else z) > 0 then (if (999 : Int) < z then (999 : Int) else z) else 0) = ((clamped z : Nat) : Int) := by
  unfold clamped
  show _ = (((max 0 (min (999 : Int) z)).toNat : Nat) : Int)
  split <;> split at * <;> omega
section
variable {P : Program} {w : World} {K : PySem.W.Frag} {mg : Str → Option Value} {base : Heap}
/-- a device with a candidate's target -/
def ThC (K : PySem.W.Frag) (H : Hp) (l : TL) (x : Thing) (dx : Addr) (hv : V) (c : Cand) : Prop := ∃ o, H l.a = some (.ins (cThing K) dx (fsThing (x.is : Nat) (c.2.1 : Nat) o (!x.hears) hv (l.born : Nat) l.pa)) ∧ H o = some (.tup ((byText c.2.2).map vS))
def aimed (u : House) (x : Thing) : Thing := { x with want := (wanted u x).1, by_ := (wanted u x).2 }
def sp_find_target (K : PySem.W.Frag) : Sp := fun vs H Q _ => ∃ (L : Lay) (s u : House) (ad : Addr) (i : Nat) (l : TL) (x : Thing), vs = [.ref L.h, vS x.name, .ref ad] ∧ HouseAt K H L s ∧ Sep L ∧ H L.dr = some (.dK (rulesK L.rs s.rules)) ∧ (s.things.map (·.name)).Nodup ∧
  L.ts[i]? = some l ∧ s.things[i]? = some x ∧ s.rules = u.rules ∧ s.clock = u.clock ∧ H ad = some (.dK (rdg u)) ∧ ad ≠ L.dr ∧ Names u ∧ (∀ r ∈ u.rules, KnowsS u r.value) ∧
  ∀ H', Fr (At l.a) H H' → HouseAt K H' L { s with things := s.things.set i (aimed u x) } → Q .non H'
theorem sc_find_target : FnScope ["house", "name", "readings", "thing", "rank", "rule_name", "rule"] ["house", "name", "readings"] (defScope s_find_target) := ⟨rfl, rfl, rfl, by decide +kernel, rfl, by decide +kernel, by decide +kernel⟩
theorem ok_find_target (g : Good w K mg) : FnOk P w K mg base CX0 2 (He.ga K "find_target") (fdA K (He.ga K "find_target")) ["house", "name", "readings"] (sp_find_target K) := by
  refine (F_find_target g).ok sc_find_target (fun vs H Q E h => ?_) (fun cdv A outer s0 H vs Q E hr h => ?_)
  · obtain ⟨L, s, u, ad, i, l, x, rfl, _⟩ := h; rfl
  · obtain ⟨L, s, u, ad, i, l, x, rfl, hh, sp, hdr, nd, hl, hx, er, ec, hd, nadr, N, kn, k⟩ := h
    obtain ⟨x', hx', tx⟩ := paired_get hh.ts hl
    rw [hx] at hx'; cases hx'
    have tx0 := tx
    obtain ⟨dx, o, hv, h1, h2, h3⟩ := tx
    obtain ⟨dy, hH⟩ := hh.h
    have nH : L.h ≠ l.a := house_ne_thing hh tx0
    have es : (("hold" : String) : Str) = S (ascii "hold") := S_of "hold"
    have et : (("rule" : String) : Str) = S (ascii "rule") := S_of "rule"
    have ndr : L.dr ≠ l.a := ne_of hdr h1 (by intro z; cases z)
    refine ⟨_, PSs.nox (pss_cons (ps_set (i := 3) sc_find_target.nd rfl (Or.inl rfl) (pe_dget (hu_of hr) (pe_fld (pv 0) rfl) (pv 1) (fun _ _ => rfl))) (pss_cons (ps_set (i := 4) sc_find_target.nd rfl (Or.inl rfl) (pe_un un_neg pe_int)) (pss_cons (ps_if (pt_val (pe_call (ok_hold_lasts g) (hr.mono (by decide)) rfl (m_hold_lasts g) (F_hold_lasts g).kp (b_hold_lasts g) .nil pass0 (pa_cons (pv 3) (pa_cons (pe_fld (pv 0) rfl) pa_nil)))) (pss_cons (ps_set (i := 4) sc_find_target.nd rfl (Or.inl rfl) (pe_fld (pe_fld (pv 3) rfl) rfl)) (pss_cons (ps_fld (pv 3) (pe_fld (pe_fld (pv 3) rfl) rfl) rfl) (pss_one (ps_fld (pv 3) (pe_tup (pa_cons pe_str pa_nil)) rfl)))) pss_nil) (pss_one (ps_imp (t' := fun D σ H1 => ∃ c, σ = [some (.ref L.h), some (vS x.name), some (.ref ad), some (.ref l.a), some (.int c.1), none, none] ∧ Fr (At l.a) H H1 ∧ ThC K H1 l x dx hv c ∧ ∀ σ' H', Fr (At l.a) H H' → ThC K H' l x dx hv (u.rules.foldl (stepR u x.name) c) → D.nx σ' H') (ps_lock (ps_for PassesOwn.never rfl (pi_items (pe_fld (pv 0) rfl)) (pg_tup rfl (pgs_cons (pg_name (i := 5) sc_find_target.nd rfl (Or.inl rfl)) (pgs_cons (pg_name (i := 6) sc_find_target.nd rfl (Or.inl rfl)) pgs_nil))) (pss_one (ps_if (PW.pt (pw_and (pt_cmpR op_eq (pe_fld (pv 6) rfl) (pv 1) (nomark _)) (pw_and (pt_val (pe_call (ok_speaks g) (hr.mono (by decide)) rfl (m_speaks g) (F_speaks g).kp (b_speaks g) .nil pass0 (pa_cons (pv 6) pa_nil))) (pw_and1 (pt_cmpR op_gt (pe_fld (pv 6) rfl) (pv 4) (nomark _)))))) (pss_cons (ps_set (i := 4) sc_find_target.nd rfl (Or.inl rfl) (pe_fld (pv 6) rfl)) (pss_cons (ps_fld (pv 3) (pe_callB (call_max2 rfl) rfl (fr_max g) (by decide +kernel) (pa_cons pe_int (pa_cons (pe_callB (call_min2 rfl) rfl (fr_min g) (by decide +kernel) (pa_cons (pe_call (ok_total g) (hr.mono (by decide)) rfl (m_total g) (F_total g).kp (b_total g) .nil pass0 (pa_cons (pe_fld (pv 6) rfl) (pa_cons (pv 2) pa_nil))) (pa_cons (pe_gI rfl (i_MOST_VALUE g)) pa_nil))) pa_nil))) rfl) (pss_one (ps_fld (pv 3) (pe_tup (pa_cons pe_str (pa_cons (pv 5) pa_nil))) rfl)))) pss_nil)))) ?loop))))), ?_⟩
    case loop =>
      rintro D σ H1 ⟨c, rfl, f1, ⟨o1, t1, t2⟩, kk⟩
      refine ⟨L.dr, _, f1 _ _ hdr ndr, trivial, fun od => ?_⟩
      have nHr : L.h ≠ L.dr := ne_of hH hdr (by intro z; cases z)
      refine ⟨_, rfl, L.h, _, dy, _, _, rfl, (upd_ne nHr).trans (f1 _ _ hH nH), cl_House g, na_House_rules g, lk_House_rules .., ?_⟩
      refine ⟨L.dr, od, _, rfl, upd_same, ?_⟩
      have fM : Fr (fun b => b = L.dr ∨ b = l.a) H (upd H1 L.dr (.frz od (.dK (rulesK L.rs s.rules)))) := (f1.mono fun b z => Or.inr z).trans (Fr.put (.inl rfl))
      refine for_it (walk_itR hh.lr) (fun j σ H' => Fr (fun b => b = L.dr ∨ b = l.a) H H' ∧ H' L.dr = some (.frz od (.dK (rulesK L.rs s.rules))) ∧ ThC K H' l x dx hv ((u.rules.take j).foldl (stepR u x.name) c) ∧ ∃ z1 z2, σ = [some (.ref L.h), some (vS x.name), some (.ref ad), some (.ref l.a), some (.int ((u.rules.take j).foldl (stepR u x.name) c).1), z1, z2])
        ⟨fM, upd_same, ⟨o1, (upd_ne ndr.symm).trans t1, (upd_ne (ne_of t2 (f1 _ _ hdr ndr) (by intro z; cases z))).trans t2⟩, none, none, rfl⟩ (fun j σ H' _ z => z.2.1) ?_ ?_
      · rintro j y σ H' H2 hj ⟨f, hlk, ⟨o2, t3, t4⟩, z1, z2, rfl⟩ ⟨T, a, r, ha, hr', rfl, hT, rfl⟩
        obtain ⟨r', hr2, rAt⟩ := paired_get hh.rs ha
        rw [hr'] at hr2; cases hr2
        have hru : u.rules[j]? = some r := er ▸ hr'
        have hfold : (u.rules.take (j + 1)).foldl (stepR u x.name) c = stepR u x.name ((u.rules.take j).foldl (stepR u x.name) c) r := by
          rw [List.take_succ, hru, Option.toList_some, List.foldl_append]; rfl
        rw [hfold]
        generalize (u.rules.take j).foldl (stepR u x.name) c = cc at t3 t4 ⊢
        have qH : Quiet H H' := Quiet.of_fr f fun b o m e => by
          rcases m with m | m
          · rw [m, hdr] at e; cases e; exact soft_dK
          · rw [m, h1] at e; cases e; exact soft_thing
        obtain ⟨_, _, _, _, _, _, _, _, e3⟩ := rAt.there
        have nra : a ≠ l.a := fun z => thing_ne_rule tx0 rAt z.symm
        have rA' : RuleAt K H' a r := rAt.quiet qH (f.eq e3 (by rintro (z | z); exact ne_of e3 hdr (by intro z; cases z) z; exact nra z))
        have sT := same_new (o := HO.tup [vS r.name, .ref a]) hT
        have rA := rA'.same sT
        obtain ⟨dr, vc, va, q1, q2, q3⟩ := rA
        have t3' := sT _ _ t3
        refine ⟨T, _, rfl, SqT.of upd_same, rfl, _, _, rfl, _, _, rfl, rfl, ?_⟩
        refine test_and (a := decide (r.thing = x.name)) (b := Hr01.speaks r && decide (cc.1 < (r.rank : Nat))) (fun Q' z => ⟨_, rfl, a, _, dr, _, _, rfl, q1, cl_Rule g, na_Rule_thing g, lk_Rule_thing .., _, rfl, rfl, _, rfl, by rw [S_dec]; exact z⟩)
          (fun Q' z => test_and (a := Hr01.speaks r) (b := decide (cc.1 < (r.rank : Nat))) (fun Q2 z2 => ⟨_, rfl, a, r, rfl, rA'.same sT, _, rfl, z2⟩) (fun Q2 z2 => ⟨_, rfl, a, _, dr, _, _, rfl, q1, cl_Rule g, na_Rule_rank g, lk_Rule_rank .., _, rfl, _, _, rfl, rfl, _, rfl, z2⟩) z) ?_
        have nad : ad ≠ l.a := ne_of hd h1 (by intro z; cases z)
        have hmem : r ∈ u.rules := List.mem_of_getElem? hru
        have hd' : H' ad = some (.dK (rdg u)) := f _ _ hd (by rintro (z | z); exact nadr z; exact nad z)
        have nTl : l.a ≠ T := ne_of_none t3 hT
        have nTd : L.dr ≠ T := ne_of_none hlk hT
        cases hb : (decide (r.thing = x.name) && (Hr01.speaks r && decide (cc.1 < (r.rank : Nat)))) with
        | true =>
          have e0 : stepR u x.name cc r = (((r.rank : Nat) : Int), clamped (sumValue u r.value), By.rule r.name) := if_pos hb
          rw [e0]
          refine iteT ⟨_, rfl, a, _, dr, _, _, rfl, q1, cl_Rule g, na_Rule_rank g, lk_Rule_rank .., ?_⟩
          refine ⟨_, rfl, a, _, dr, _, _, rfl, q1, cl_Rule g, na_Rule_amount g, lk_Rule_amount .., _, rfl, va, ad, u, r.value, rfl, q3, sT _ _ hd', N, kn r hmem, ?_⟩
          refine ⟨_, _, rfl, _, _, rfl, ?_⟩
          refine ⟨_, rfl, l.a, _, dx, _, rfl, t3', cl_Thing g, na_Thing_target g, (by show 7 < 1000; decide), ?_⟩
          rw [clamp_eq, pt_Thing_target]
          refine ⟨_, rfl, by show 2 ≤ sizeLine; decide, fun q hq => ?_⟩
          have nq : l.a ≠ q := fun z => by rw [← z, upd_same] at hq; cases hq
          refine ⟨_, rfl, l.a, _, dx, _, rfl, (upd_ne nq).trans upd_same, cl_Thing g, na_Thing_origin g, (by show 7 < 1000; decide), ?_⟩
          rw [pt_Thing_origin]
          have hq0 : H' q = none := by
            rw [upd_ne nq.symm] at hq
            exact sT.free hq
          refine ⟨?_, ?_, ⟨q, upd_same, ?_⟩, some (vS r.name), some (.ref a), rfl⟩
          · intro b o' e n
            have e1 := f b o' e n
            rw [upd_ne (fun z => n (.inr z)), upd_ne (ne_of_none e1 hq0), upd_ne (fun z => n (.inr z)), upd_ne (ne_of_none e1 hT)]; exact e1
          · rw [upd_ne ndr, upd_ne (ne_of_none hlk hq0), upd_ne ndr, upd_ne nTd]; exact hlk
          · rw [upd_ne nq.symm, upd_same, et]; rfl
        | false =>
          have e0 : stepR u x.name cc r = cc := if_neg (by rw [hb]; exact Bool.false_ne_true)
          rw [e0]
          refine iteF ⟨?_, ?_, ⟨o2, t3', sT _ _ t4⟩, some (vS r.name), some (.ref a), rfl⟩
          · exact f.trans (Fr.of_same sT)
          · exact sT _ _ hlk
      · rintro σ H' ⟨f, hlk, ⟨o2, t3, t4⟩, z1, z2, rfl⟩
        rw [← er, List.take_length, er] at t3 t4
        refine ⟨hlk, kk _ _ ?_ ⟨o2, (upd_ne ndr.symm).trans t3, (upd_ne (ne_of t4 hlk (by intro z; cases z))).trans t4⟩⟩
        intro b o' e n
        by_cases z : b = L.dr
        · rw [z] at e ⊢; rw [upd_same]; exact hdr.symm.trans e
        · rw [upd_ne z]; exact f b o' e (by rintro (y | y); exact z y; exact n y)
    · have vt := thing_val hh.lt nd hx hl
      refine ⟨_, rfl, L.h, _, dy, _, _, rfl, hH, cl_House g, na_House_things g, lk_House_things .., _, rfl, L.dt, .ref l.a, rfl, .inl ⟨_, .inr (S x.name), hh.dt, rfl, vt.symm⟩, ?_⟩
      refine ⟨_, rfl, ?_⟩
      refine ⟨_, rfl, _, rfl, L.h, _, dy, _, _, rfl, hH, cl_House g, na_House_clock g, lk_House_clock .., ?_⟩
      refine ⟨l, x, s.clock, rfl, tx0, _, rfl, ?_⟩
      have fin : ∀ (H' : Hp) (c : Cand), Fr (At l.a) H H' → ThC K H' l x dx hv c → c.2 = wanted u x → Q .non H' := by
        rintro H' c f ⟨o2, t3, t4⟩ ew
        have q := Quiet.at1 f h1 soft_thing
        refine k _ f (hh.putT sp hl hx rfl f ⟨dx, o2, hv, ?_, ?_, h3.quiet q⟩)
        · show H' l.a = some (.ins _ dx (fsThing (x.is : Nat) ((wanted u x).1 : Nat) o2 (!x.hears) hv (l.born : Nat) l.pa))
          rw [← ew]; exact t3
        · show H' o2 = some (.tup ((byText (wanted u x).2).map vS))
          rw [← ew]; exact t4
      cases c : lasts s.clock x.hold with
      | true =>
        obtain ⟨hd0, eh⟩ : ∃ hd0, x.hold = some hd0 := by
          cases e : x.hold with
          | none => rw [e] at c; cases c
          | some h => exact ⟨h, rfl⟩
        have h30 := h3
        rw [eh] at h3
        obtain ⟨b, db, rfl, hb⟩ := h3
        have eb := begC_yes (u := u) eh (by rw [← ec]; exact c)
        have nb : b ≠ l.a := ne_of hb h1 (by intro z; exact absurd (congrArg List.length (HO.ins.inj z).2.2) (by simp [fsThing, fsHold]))
        refine iteT ⟨_, rfl, l.a, _, dx, _, _, rfl, h1, cl_Thing g, na_Thing_hold g, lk_Thing_hold .., b, _, db, _, _, rfl, hb, cl_Hold g, na_Hold_rank g, lk_Hold_rank .., ?_⟩
        refine ⟨_, rfl, l.a, _, dx, _, _, rfl, h1, cl_Thing g, na_Thing_hold g, lk_Thing_hold .., b, _, db, _, _, rfl, hb, cl_Hold g, na_Hold_value g, lk_Hold_value .., ?_⟩
        refine ⟨_, rfl, l.a, _, dx, _, rfl, h1, cl_Thing g, na_Thing_target g, (by show 7 < 1000; decide), ?_⟩
        rw [pt_Thing_target]
        refine ⟨by show 1 ≤ sizeLine; decide, fun q hq => ?_⟩
        have nq : l.a ≠ q := fun z => by rw [← z, upd_same] at hq; cases hq
        refine ⟨_, rfl, l.a, _, dx, _, rfl, (upd_ne nq).trans upd_same, cl_Thing g, na_Thing_origin g, (by show 7 < 1000; decide), ?_⟩
        rw [pt_Thing_origin]
        have hq0 : H q = none := by rw [upd_ne nq.symm] at hq; exact hq
        refine ⟨begC u x, by rw [eb]; rfl, (Fr.at1.trans (Fr.new hq)).trans Fr.at1, ⟨q, by rw [eb]; exact upd_same, ?_⟩, fun σ' H' f t => fin H' _ f t (wanted_step u x).symm⟩
        rw [eb, upd_ne nq.symm, upd_same, es]; rfl
      | false =>
        have eb := begC_no (u := u) (x := x) (by rw [← ec]; exact c)
        refine iteF ⟨begC u x, by rw [eb]; rfl, Fr.refl, ⟨o, by rw [eb]; exact h1, by rw [eb]; exact h2⟩, fun σ' H' f t => fin H' _ f t (wanted_step u x).symm⟩
end
end Hw
end

/-! ## part S4 -/
section
set_option Elab.async false
set_option linter.all false
set_option maxRecDepth 100000
set_option maxHeartbeats 2000000
namespace Hw
open PySem PySem.Spec PyProof.Rows L2
open Hr01 (Bytes Words Term Sum Cond ascii isName num? term? digit small sum? parted Cmd Rule cmd? Thing House By byText thingsIn thingsOf valueOf termValue sumValue isSensor thingOf ruleOf leaves joined decimal told listed termText sumText condText wanted clamped looked become)
/-! ### what holds of every state -/
structure TOk (x : Thing) : Prop where
  is : x.is ≤ 999
  want : x.want ≤ 999
  by_ : ∀ n, x.by_ = .rule n → isName n = true
  hold : ∀ h, x.hold = some h → h.1 ≤ 999 ∧ h.2.1 ≤ 9 ∧ h.2.2 ≤ 99999
  was : ∀ p ∈ x.was, p.2 ≤ 999
theorem become_was {x : Thing} {c v : Nat} (h : ∀ p ∈ x.was, p.2 ≤ 999) (hv : v ≤ 999) : ∀ p ∈ (become c x v).was, p.2 ≤ 999 := by
  intro p hp
  have hp' : p ∈ (if v = x.is then x.was else x.was ++ [(c, v)]) := hp
  split at hp'
  · exact h p hp'
  · rcases List.mem_append.mp hp' with z | z
    · exact h p z
    · simp at z; rw [z]; exact hv
structure ROk (r : Rule) : Prop where
  cond : CondOk r.cond
  size : csize r.cond ≤ 1000
  value : SumOk r.value
  name : isName r.name = true
  thing : isName r.thing = true
  rank : r.rank ≤ 9
  after : r.after ≤ 20
  held : r.held ≤ 21
structure WF (s : House) : Prop where
  names : Names s
  rn : (s.rules.map (·.name)).Nodup
  few : Few s
  kc : ∀ r ∈ s.rules, KnowsC s r.cond
  kv : ∀ r ∈ s.rules, KnowsS s r.value
  ro : ∀ r ∈ s.rules, ROk r
  sv : ∀ p ∈ s.sensors, p.2 ≤ 999
  to : ∀ x ∈ s.things, TOk x
theorem clamped_le (z : Int) : clamped z ≤ 999 := by
  unfold clamped
  show (max 0 (min (999 : Int) z)).toNat ≤ 999
  omega
/-- the names are the same -/
theorem Names.of {s t : House} (N : Names s) (h1 : t.sensors.map (·.1) = s.sensors.map (·.1)) (h2 : t.things.map (·.name) = s.things.map (·.name)) : Names t := by
  refine ⟨fun p hp => ?_, fun x hx => ?_, by rw [h1, h2]; exact N.nd⟩
  · have : p.1 ∈ s.sensors.map (·.1) := h1 ▸ List.mem_map.mpr ⟨p, hp, rfl⟩
    obtain ⟨q, hq, e⟩ := List.mem_map.mp this
    rw [← e]; exact N.sn q hq
  · have : x.name ∈ s.things.map (·.name) := h2 ▸ List.mem_map.mpr ⟨x, hx, rfl⟩
    obtain ⟨q, hq, e⟩ := List.mem_map.mp this
    rw [← e]; exact N.tn q hq
theorem known_of {s t : House} (h1 : t.sensors.map (·.1) = s.sensors.map (·.1)) (h2 : t.things.map (·.name) = s.things.map (·.name)) {x : Bytes} (h : known s x) : known t x := by
  unfold known; rw [h1, h2]; exact h
theorem WF.of {s t : House} (h : WF s) (h1 : t.sensors.map (·.1) = s.sensors.map (·.1)) (h2 : t.things.map (·.name) = s.things.map (·.name)) (h3 : t.rules = s.rules) (sv : ∀ p ∈ t.sensors, p.2 ≤ 999) (to : ∀ x ∈ t.things, TOk x) : WF t := by
  refine ⟨h.names.of h1 h2, by rw [h3]; exact h.rn, ⟨?_, ?_, by rw [h3]; exact h.few.fr⟩, fun r hr x hx => known_of h1 h2 (h.kc r (h3 ▸ hr) x hx), fun r hr x hx => known_of h1 h2 (h.kv r (h3 ▸ hr) x hx), fun r hr => h.ro r (h3 ▸ hr), sv, to⟩
  · have := congrArg List.length h1; rw [List.length_map, List.length_map] at this; rw [this]; exact h.few.fs
  · have := congrArg List.length h2; rw [List.length_map, List.length_map] at this; rw [this]; exact h.few.ft
theorem WF.looked {s : House} (h : WF s) : WF (Hr01.looked s) := by
  have e : (Hr01.looked s).rules = s.rules.map (counted s) := rfl
  refine ⟨h.names.of rfl rfl, ?_, ⟨h.few.fs, h.few.ft, by rw [e, List.length_map]; exact h.few.fr⟩, ?_, ?_, ?_, h.sv, h.to⟩
  · rw [e, List.map_map]; exact h.rn
  · intro r hr
    obtain ⟨q, hq, rfl⟩ := List.mem_map.mp (e ▸ hr)
    exact h.kc q hq
  · intro r hr
    obtain ⟨q, hq, rfl⟩ := List.mem_map.mp (e ▸ hr)
    exact h.kv q hq
  · intro r hr
    obtain ⟨q, hq, rfl⟩ := List.mem_map.mp (e ▸ hr)
    have o := h.ro q hq
    refine ⟨o.cond, o.size, o.value, o.name, o.thing, o.rank, o.after, ?_⟩
    have := o.after
    show (if Hr01.holds s q.cond then min (q.held + 1) (q.after + 1) else 0) ≤ 21
    split <;> omega
theorem fold_inv {α β : Type} (P : α → Prop) {f : α → β → α} {l : List β} (h : ∀ a, P a → ∀ b ∈ l, P (f a b)) : ∀ {a : α}, P a → P (l.foldl f a) := by
  induction l with
  | nil => intro a ha; exact ha
  | cons b r ih => intro a ha; exact ih (fun a ha c hc => h a ha c (List.mem_cons_of_mem _ hc)) (h a ha b (List.mem_cons_self ..))
theorem wanted_ok {u : House} {x : Thing} (hx : TOk x) (hr : ∀ r ∈ u.rules, isName r.name = true) : (wanted u x).1 ≤ 999 ∧ ∀ n, (wanted u x).2 = .rule n → isName n = true := by
  rw [wanted_step]
  have h0 : (begC u x).2.1 ≤ 999 ∧ ∀ n, (begC u x).2.2 = .rule n → isName n = true := by
    cases c : lasts u.clock x.hold with
    | false => rw [begC_no c]; exact ⟨hx.want, hx.by_⟩
    | true =>
      cases e : x.hold with
      | none => rw [e] at c; cases c
      | some h => rw [begC_yes e c]; exact ⟨(hx.hold h e).1, fun n z => by cases z⟩
  refine fold_inv (fun c : Cand => c.2.1 ≤ 999 ∧ ∀ n, c.2.2 = .rule n → isName n = true) (fun c hc r hr' => ?_) h0
  unfold stepR
  split
  · exact ⟨clamped_le _, fun n z => by cases z; exact hr r hr'⟩
  · exact hc
/-- the last step of a minute -/
def taken1 (c : Nat) (y : Thing) : Thing := if y.hears then become c y y.want else y
theorem done_eq (s : House) : Hr01.done s = { Hr01.looked s with things := ((Hr01.looked s).things.map (aimed (Hr01.looked s))).map (taken1 (Hr01.looked s).clock) } := by
  rw [List.map_map]; rfl
theorem taken1_name (c : Nat) (y : Thing) : (taken1 c y).name = y.name := by unfold taken1; split <;> rfl
theorem WF.done {s : House} (h : WF s) : WF (Hr01.done s) := by
  rw [done_eq]
  have hl := h.looked
  refine hl.of rfl ?_ rfl hl.sv ?_
  · show (((Hr01.looked s).things.map (aimed (Hr01.looked s))).map (taken1 (Hr01.looked s).clock)).map (·.name) = (Hr01.looked s).things.map (·.name)
    rw [List.map_map, List.map_map]
    refine List.map_congr_left fun x _ => ?_
    show (taken1 _ (aimed _ x)).name = x.name
    rw [taken1_name]; rfl
  · intro y hy
    obtain ⟨z, hz, rfl⟩ := List.mem_map.mp hy
    obtain ⟨x, hx, rfl⟩ := List.mem_map.mp hz
    have ox := hl.to x hx
    have ow := wanted_ok (u := Hr01.looked s) ox fun r hr => (hl.ro r hr).name
    unfold taken1
    split
    · exact ⟨ow.1, ow.1, ow.2, ox.hold, become_was (x := aimed (Hr01.looked s) x) ox.was ow.1⟩
    · exact ⟨ox.is, ow.1, ow.2, ox.hold, ox.was⟩
theorem WF.at {s : House} (h : WF s) (c : Nat) : WF { s with clock := c } := h.of rfl rfl rfl h.sv h.to
theorem WF.minute {s : House} (h : WF s) : WF (Hr01.minute s) := (h.at _).done
theorem WF.minutes : ∀ {n : Nat} {s : House}, WF s → WF (Hr01.minutes n s)
  | 0, _, h => h
  | n + 1, _, h => WF.minutes (n := n) h.minute
/-! ### frames of a house -/
def MtL (L : Lay) (b : Addr) : Prop := b ∈ L.ts.map (·.a) ∨ b ∈ L.rs
def MhL (L : Lay) (b : Addr) : Prop := b = L.h ∨ MtL L b
theorem Fr.lk {M : Addr → Prop} {H H1 : Hp} {d : Addr} {o : HO} (f : Fr M H H1) : Fr (fun b => M b ∨ b = d) H (upd H1 d o) := fun b u e n => by
  rw [upd_ne (fun z => n (.inr z))]; exact f b u e fun z => n (.inl z)
theorem Fr.ulk {M : Addr → Prop} {H H' : Hp} {d : Addr} {u : HO} (f : Fr (fun b => M b ∨ b = d) H H') (h : H d = some u) : Fr M H (upd H' d u) := fun b o e n => by
  by_cases c : b = d
  · rw [c] at e ⊢; rw [upd_same]; exact h.symm.trans e
  · rw [upd_ne c]; exact f b o e (by rintro (z | z); exact n z; exact c z)
section
variable {K : PySem.W.Frag} {H H' : Hp} {L : Lay} {s : House}
theorem HouseAt.mt_ins (h : HouseAt K H L s) {b : Addr} (m : MtL L b) : ∃ c dx fs, H b = some (.ins c dx fs) ∧ Soft (.ins c dx fs) := by
  rcases m with m | m
  · obtain ⟨l, hl, rfl⟩ := List.mem_map.mp m
    obtain ⟨i, hi⟩ := List.mem_iff_getElem?.mp hl
    obtain ⟨x, _, t⟩ := paired_get h.ts hi
    obtain ⟨_, _, _, _, _, _, _, _, _, e⟩ := t.there
    exact ⟨_, _, _, e, soft_thing⟩
  · obtain ⟨i, hi⟩ := List.mem_iff_getElem?.mp m
    obtain ⟨x, _, t⟩ := paired_get h.rs hi
    obtain ⟨_, _, _, _, _, _, _, _, e⟩ := t.there
    exact ⟨_, _, _, e, soft_rule⟩
theorem HouseAt.mh_ins (h : HouseAt K H L s) {b : Addr} (m : MhL L b) : ∃ c dx fs, H b = some (.ins c dx fs) ∧ Soft (.ins c dx fs) := by
  rcases m with m | m
  · obtain ⟨dx, e⟩ := h.h
    rw [m]
    exact ⟨_, _, _, e, soft_house⟩
  · exact h.mt_ins m
/-- what is no instance is no part -/
theorem HouseAt.mh_not (h : HouseAt K H L s) {b : Addr} {o : HO} (e : H b = some o) (n : ∀ c dx fs, o ≠ .ins c dx fs) : ¬ MhL L b := fun m => by
  obtain ⟨c, dx, fs, q, _⟩ := h.mh_ins m
  rw [e] at q; cases q
  exact n _ _ _ rfl
theorem HouseAt.quiet_of (h : HouseAt K H L s) (f : Fr (MhL L) H H') : Quiet H H' := Quiet.of_fr f fun b o m e => by
  obtain ⟨c, dx, fs, q, sf⟩ := h.mh_ins m
  rw [e] at q; cases q
  exact sf
end
theorem nd_things {s : House} (h : Names s) : (s.things.map (·.name)).Nodup := (List.nodup_append.mp h.nd).2.1
section
variable {P : Program} {w : World} {K : PySem.W.Frag} {mg : Str → Option Value} {base : Heap}
def sp_settle (K : PySem.W.Frag) : Sp := fun vs H Q _ => ∃ (L : Lay) (s : House), vs = [.ref L.h] ∧ HouseAt K H L s ∧ Sep L ∧ Opn H L s ∧ WF s ∧ ∀ H', Fr (MtL L) H H' → HouseAt K H' L (Hr01.done s) → Opn H' L (Hr01.done s) → Q .non H'
theorem sc_settle : FnScope ["house", "readings", "rule", "name", "thing"] ["house"] (defScope s_settle) := ⟨rfl, rfl, rfl, by decide +kernel, rfl, by decide +kernel, by decide +kernel⟩
theorem ok_settle (g : Good w K mg) : FnOk P w K mg base CX0 25 (He.ga K "settle") (fdA K (He.ga K "settle")) ["house"] (sp_settle K) := by
  refine (F_settle g).ok sc_settle (fun vs H Q E h => ?_) (fun cdv A outer s0 H vs Q E hr h => ⟨_, PSs.nox (pss_cons (ps_set (i := 1) sc_settle.nd rfl (Or.inl rfl) (pe_call (ok_readings_of g) (hr.mono (by decide)) rfl (m_readings_of g) (F_readings_of g).kp (b_readings_of g) .nil pass0 (pa_cons (pv 0) pa_nil))) (pss_cons (ps_lock (ps_for PassesOwn.never rfl (pi_values (pe_fld (pv 0) rfl)) (pg_name (i := 2) sc_settle.nd rfl (Or.inl rfl)) (pss_one (ps_expr (pe_call (ok_count_minute g) (hr.mono (by decide)) rfl (m_count_minute g) (F_count_minute g).kp (b_count_minute g) .nil pass0 (pa_cons (pv 2) (pa_cons (pv 1) pa_nil))))))) (pss_cons (ps_lock (ps_for PassesOwn.never rfl (pi_keys (pe_fld (pv 0) rfl)) (pg_name (i := 3) sc_settle.nd rfl (Or.inl rfl)) (pss_one (ps_expr (pe_call (ok_find_target g) (hr.mono (by decide)) rfl (m_find_target g) (F_find_target g).kp (b_find_target g) .nil pass0 (pa_cons (pv 0) (pa_cons (pv 3) (pa_cons (pv 1) pa_nil)))))))) (pss_one (ps_lock (ps_for PassesOwn.never rfl (pi_values (pe_fld (pv 0) rfl)) (pg_name (i := 4) sc_settle.nd rfl (Or.inl rfl)) (pss_one (ps_if (pt_not (pt_val (pe_fld (pv 4) rfl))) (pss_one (ps_fld (pv 4) (pe_fld (pv 4) rfl) rfl)) pss_nil)))))))), ?_⟩)
  · obtain ⟨L, s, rfl, _⟩ := h; rfl
  · obtain ⟨L, s, rfl, hh, sp, op, wf, k⟩ := h
    have fr := wf.few.fr
    have ft := wf.few.ft
    refine ⟨_, rfl, L, s, rfl, hh, op.dt, wf.few, fun H1 p s1 np hp => ?_⟩
    have hh1 := hh.same s1
    obtain ⟨dx, hH1⟩ := hh1.h
    have dr1 := s1 _ _ op.dr
    have dt1 := s1 _ _ op.dt
    have ds1 := s1 _ _ op.ds
    have npr : p ≠ L.dr := fun z => by rw [z, op.dr] at np; cases np
    have npt : p ≠ L.dt := fun z => by rw [z, op.dt] at np; cases np
    have npM : ¬ MtL L p := fun m => by
      obtain ⟨c, d, f, q, _⟩ := hh.mt_ins m
      rw [np] at q; cases q
    -- the rules count
    refine ⟨L.dr, _, dr1, trivial, fun od => ?_⟩
    refine ⟨_, rfl, L.h, _, dx, _, _, rfl, (upd_ne (ne_of hH1 dr1 (by intro z; cases z))).trans hH1, cl_House g, na_House_rules g, lk_House_rules .., ?_⟩
    refine ⟨L.dr, od, _, rfl, upd_same, ?_⟩
    refine for_it (walk_vR hh.lr) (fun i σ H' => Fr (fun b => MtL L b ∨ b = L.dr) H1 H' ∧ H' L.dr = some (.frz od (.dK (rulesK L.rs s.rules))) ∧ HouseAt K H' L { s with rules := mapTo (counted s) i s.rules } ∧ ∃ z1 z2 z3, σ = [some (.ref L.h), some (.ref p), z1, z2, z3])
      ⟨Fr.lk Fr.refl, upd_same, by rw [mapTo_zero]; exact hh1.lock (.inl dr1) (.inr ⟨od, rfl⟩), none, none, none, rfl⟩ (fun i σ H' _ z => z.2.1) ?_ ?_
    · rintro i y σ H' H2 hi ⟨f, hlk, hi', z1, z2, z3, rfl⟩ ⟨rfl, a, r, ha, hr', rfl⟩
      obtain ⟨r', hr2, rAt⟩ := paired_get hi'.rs ha
      have hm := mapTo_get (f := counted s) hr'
      rw [show (({ s with rules := mapTo (counted s) i s.rules } : House).rules) = mapTo (counted s) i s.rules from rfl, hm] at hr2
      cases hr2
      have mem := List.mem_of_getElem? hr'
      obtain ⟨_, _, _, _, _, _, _, _, e3⟩ := rAt.there
      have hp2 : H2 p = some (.dK (rdg s)) := f _ _ hp (by rintro (z | z); exact npM z; exact npr z)
      refine ⟨_, rfl, _, rfl, a, p, s, r, rfl, rAt, hp2, wf.names, wf.kc r mem, fun H3 f3 r3 => ?_⟩
      refine ⟨f.trans (f3.mono fun b z => Or.inl (.inr (by rw [z]; exact List.mem_of_getElem? ha))), f3 _ _ hlk (ne_of hlk e3 (by intro z; cases z)), ?_, some (.ref a), z2, z3, rfl⟩
      have := hi'.putR sp ha hm (y := counted s r) rfl f3 r3
      rw [show (({ s with rules := mapTo (counted s) i s.rules } : House).rules) = mapTo (counted s) i s.rules from rfl, mapTo_set hr'] at this
      exact this
    · rintro σ H' ⟨f, hlk, hi', z1, z2, z3, rfl⟩
      refine ⟨hlk, ?_⟩
      rw [mapTo_all] at hi'
      have hu : HouseAt K (upd H' L.dr (.dK (rulesK L.rs s.rules))) L (looked s) := hi'.lock (.inr ⟨od, hlk⟩) (.inl rfl)
      have f2 := f.ulk dr1
      generalize upd H' L.dr (.dK (rulesK L.rs s.rules)) = H2 at hu f2
      -- the targets
      have wu := wf.looked
      obtain ⟨dy, hH2⟩ := hu.h
      have er : rulesK L.rs (looked s).rules = rulesK L.rs s.rules := rulesK_names (by show (s.rules.map (counted s)).map (·.name) = _; rw [List.map_map]; rfl)
      have dr2 : H2 L.dr = some (.dK (rulesK L.rs (looked s).rules)) := by
        rw [er]; refine f2 _ _ dr1 fun m => ?_
        obtain ⟨c, d, ff, q, _⟩ := hh1.mt_ins m
        rw [dr1] at q; cases q
      have dt2 : H2 L.dt = some (.dK (thingsK L.ts s.things)) := by
        refine f2 _ _ dt1 fun m => ?_
        obtain ⟨c, d, ff, q, _⟩ := hh1.mt_ins m
        rw [dt1] at q; cases q
      have ds2 : H2 L.ds = some (.dK (sensK s.sensors)) := by
        refine f2 _ _ ds1 fun m => ?_
        obtain ⟨c, d, ff, q, _⟩ := hh1.mt_ins m
        rw [ds1] at q; cases q
      have hp2 : H2 p = some (.dK (rdg (looked s))) := f2 _ _ hp npM
      refine ⟨L.dt, _, dt2, trivial, fun od2 => ?_⟩
      refine ⟨_, rfl, L.h, _, dy, _, _, rfl, (upd_ne (ne_of hH2 dt2 (by intro z; cases z))).trans hH2, cl_House g, na_House_things g, lk_House_things .., ?_⟩
      refine ⟨L.dt, od2, rfl, .inl ⟨_, upd_same, ?_⟩⟩
      refine for_it (walk_kT hh.lt) (fun i σ H' => Fr (fun b => MtL L b ∨ b = L.dt) H2 H' ∧ H' L.dt = some (.frz od2 (.dK (thingsK L.ts s.things))) ∧ HouseAt K H' L { looked s with things := mapTo (aimed (looked s)) i s.things } ∧ ∃ z1 z2 z3, σ = [some (.ref L.h), some (.ref p), z1, z2, z3])
        ⟨Fr.lk Fr.refl, upd_same, by rw [mapTo_zero]; exact hu.lock (.inl dt2) (.inr ⟨od2, rfl⟩), z1, z2, z3, rfl⟩ (fun i σ H' _ z => z.2.1) ?_ ?_
      · rintro i y σ H3 H4 hi ⟨f3, hlk3, hi3, y1, y2, y3, rfl⟩ ⟨rfl, l, x, hl, hx, rfl⟩
        have hm := mapTo_get (f := aimed (looked s)) hx
        have nM : ∀ b o, H2 b = some o → (∀ c dx fs, o ≠ .ins c dx fs) → b ≠ L.dt → H4 b = some o := fun b o e n nb => f3 _ _ e (by
          rintro (z | z)
          · obtain ⟨c, d, ff, q, _⟩ := hu.mt_ins z
            rw [e] at q; cases q; exact n _ _ _ rfl
          · exact nb z)
        have nmap : ((mapTo (aimed (looked s)) i s.things).map (·.name)) = s.things.map (·.name) := mapTo_map (f := aimed (looked s)) (g := fun x : Thing => x.name) (fun _ => rfl)
        refine ⟨_, rfl, _, rfl, _, rfl, L, { looked s with things := mapTo (aimed (looked s)) i s.things }, looked s, p, i, l, x, rfl, hi3, sp, nM _ _ dr2 (by intro _ _ _ z; cases z) sp.d3.symm, by rw [nmap]; exact nd_things wf.names, hl, hm, rfl, rfl, nM _ _ hp2 (by intro _ _ _ z; cases z) npt, npr, wu.names, wu.kv, fun H5 f5 h5 => ?_⟩
        obtain ⟨x', hx', tx⟩ := paired_get hi3.ts hl
        obtain ⟨_, _, _, _, _, _, _, _, _, e3⟩ := tx.there
        refine ⟨f3.trans (f5.mono fun b z => Or.inl (.inl (by rw [z]; exact List.mem_map.mpr ⟨l, List.mem_of_getElem? hl, rfl⟩))), f5 _ _ hlk3 (ne_of hlk3 e3 (by intro z; cases z)), ?_, y1, some (vS x.name), y3, rfl⟩
        rw [show (({ looked s with things := mapTo (aimed (looked s)) i s.things } : House).things) = mapTo (aimed (looked s)) i s.things from rfl, mapTo_set hx] at h5
        exact h5
      · rintro σ H3 ⟨f3, hlk3, hi3, y1, y2, y3, rfl⟩
        refine ⟨hlk3, ?_⟩
        rw [mapTo_all] at hi3
        have f4 := f3.ulk dt2
        have hv : HouseAt K (upd H3 L.dt (.dK (thingsK L.ts s.things))) L { looked s with things := s.things.map (aimed (looked s)) } := hi3.lock (.inr ⟨od2, hlk3⟩) (.inl rfl)
        generalize upd H3 L.dt (.dK (thingsK L.ts s.things)) = H4 at hv f4
        obtain ⟨dz, hH4⟩ := hv.h
        have nM : ∀ b o, H2 b = some o → (∀ c dx fs, o ≠ .ins c dx fs) → H4 b = some o := fun b o e n => f4 _ _ e (by
          intro z
          obtain ⟨c, d, ff, q, _⟩ := hu.mt_ins z
          rw [e] at q; cases q; exact n _ _ _ rfl)
        have dt4 := nM _ _ dt2 (by intro _ _ _ z; cases z)
        have dr4 := nM _ _ dr2 (by intro _ _ _ z; cases z)
        have ds4 := nM _ _ ds2 (by intro _ _ _ z; cases z)
        have et : thingsK L.ts (s.things.map (aimed (looked s))) = thingsK L.ts s.things := thingsK_names (by rw [List.map_map]; rfl)
        have lt4 : L.ts.length = (s.things.map (aimed (looked s))).length := by rw [List.length_map]; exact hh.lt
        rw [← et] at dt4
        -- the values
        refine ⟨L.dt, _, dt4, trivial, fun od3 => ?_⟩
        refine ⟨_, rfl, L.h, _, dz, _, _, rfl, (upd_ne (ne_of hH4 dt4 (by intro z; cases z))).trans hH4, cl_House g, na_House_things g, lk_House_things .., ?_⟩
        refine ⟨L.dt, od3, _, rfl, upd_same, ?_⟩
        refine for_it (walk_vT lt4) (fun i σ H' => Fr (fun b => MtL L b ∨ b = L.dt) H4 H' ∧ H' L.dt = some (.frz od3 (.dK (thingsK L.ts (s.things.map (aimed (looked s)))))) ∧ HouseAt K H' L { looked s with things := mapTo (taken1 s.clock) i (s.things.map (aimed (looked s))) } ∧ ∃ z1 z2 z3, σ = [some (.ref L.h), some (.ref p), z1, z2, z3])
          ⟨Fr.lk Fr.refl, upd_same, by rw [mapTo_zero]; exact hv.lock (.inl dt4) (.inr ⟨od3, rfl⟩), y1, y2, y3, rfl⟩ (fun i σ H' _ z => z.2.1) ?_ ?_
        · rintro i y σ H5 H6 hi ⟨f5, hlk5, hi5, x1, x2, x3, rfl⟩ ⟨rfl, l, x, hl, hx, rfl⟩
          have hm := mapTo_get (f := taken1 s.clock) hx
          obtain ⟨x', hx', tx⟩ := paired_get hi5.ts hl
          rw [show (({ looked s with things := mapTo (taken1 s.clock) i (s.things.map (aimed (looked s))) } : House).things) = mapTo (taken1 s.clock) i (s.things.map (aimed (looked s))) from rfl, hm] at hx'
          cases hx'
          obtain ⟨da, o, hv', q1, q2, q3⟩ := tx
          refine ⟨_, rfl, l.a, _, da, _, _, rfl, q1, cl_Thing g, na_Thing_deaf g, lk_Thing_deaf .., _, rfl, ?_⟩
          have stp : ∀ H7, Fr (At l.a) H6 H7 → ThingAt K H7 l (taken1 s.clock x) → HouseAt K H7 L { looked s with things := mapTo (taken1 s.clock) (i + 1) (s.things.map (aimed (looked s))) } := fun H7 f7 t7 => by
            have := hi5.putT sp hl hm (y := taken1 s.clock x) (taken1_name _ _) f7 t7
            rw [show (({ looked s with things := mapTo (taken1 s.clock) i (s.things.map (aimed (looked s))) } : House).things) = mapTo (taken1 s.clock) i (s.things.map (aimed (looked s))) from rfl, mapTo_set hx] at this
            exact this
          have inM : MtL L l.a := .inl (List.mem_map.mpr ⟨l, List.mem_of_getElem? hl, rfl⟩)
          cases c : x.hears with
          | true =>
            have et1 : taken1 s.clock x = become s.clock x x.want := if_pos c
            rw [c] at q1
            refine iteT ⟨_, rfl, l.a, _, da, _, _, rfl, q1, cl_Thing g, na_Thing_target g, lk_Thing_target .., ?_⟩
            refine ⟨_, rfl, l.a, _, da, _, rfl, q1, cl_Thing g, na_Thing_value g, (by show 7 < 1000; decide), ?_⟩
            rw [pt_Thing_value]
            have qq : Quiet H6 (upd H6 l.a (.ins (cThing K) da (fsThing (x.want : Nat) (x.want : Nat) o (!true) hv' (l.born : Nat) l.pa))) := Quiet.upd1 q1 soft_thing
            refine ⟨f5.trans (Fr.put (.inl inM)), (upd_ne (ne_of hlk5 q1 (by intro z; cases z))).trans hlk5, stp _ Fr.at1 ?_, x1, x2, some (.ref l.a), rfl⟩
            rw [et1]
            refine ⟨da, o, hv', ?_, qq.t _ _ q2, q3.quiet qq⟩
            rw [upd_same]
            show _ = some (HO.ins _ da (fsThing (x.want : Nat) (x.want : Nat) o (!x.hears) hv' (l.born : Nat) l.pa))
            rw [c]
          | false =>
            have et1 : taken1 s.clock x = x := if_neg (by rw [c]; exact Bool.false_ne_true)
            refine iteF ⟨f5, hlk5, stp _ Fr.refl (by rw [et1]; exact ⟨da, o, hv', q1, q2, q3⟩), x1, x2, some (.ref l.a), rfl⟩
        · rintro σ H5 ⟨f5, hlk5, hi5, x1, x2, x3, rfl⟩
          refine ⟨hlk5, ?_⟩
          rw [mapTo_all] at hi5
          have f6 := f5.ulk dt4
          have hw : HouseAt K (upd H5 L.dt (.dK (thingsK L.ts (s.things.map (aimed (looked s)))))) L (Hr01.done s) := by
            rw [done_eq]
            exact hi5.lock (.inr ⟨od3, hlk5⟩) (.inl rfl)
          generalize upd H5 L.dt (.dK (thingsK L.ts (s.things.map (aimed (looked s))))) = H6 at hw f6
          refine k _ (((Fr.of_same s1).trans f2).trans (f4.trans f6)) hw ?_
          have nM2 : ∀ b o, H4 b = some o → (∀ c dx fs, o ≠ .ins c dx fs) → H6 b = some o := fun b o e n => f6 _ _ e (by
            intro z
            obtain ⟨c, d, ff, q, _⟩ := hv.mt_ins z
            rw [e] at q; cases q; exact n _ _ _ rfl)
          refine ⟨nM2 _ _ ds4 (by intro _ _ _ z; cases z), ?_, nM2 _ _ dr4 (by intro _ _ _ z; cases z)⟩
          have e6 : thingsK L.ts (Hr01.done s).things = thingsK L.ts (s.things.map (aimed (looked s))) := thingsK_names (by
            rw [done_eq]
            show ((s.things.map (aimed (looked s))).map (taken1 s.clock)).map (·.name) = _
            rw [List.map_map]
            exact List.map_congr_left fun x _ => taken1_name _ _)
          rw [e6]
          exact nM2 _ _ dt4 (by intro _ _ _ z; cases z)
end
end Hw
end

/-! ## part S5 -/
section
set_option Elab.async false
set_option linter.all false
set_option maxRecDepth 100000
set_option maxHeartbeats 2000000
namespace Hw
open PySem PySem.Spec PyProof.Rows L2
open Hr01 (Bytes Words Term Sum Cond ascii isName num? term? digit small sum? parted Cmd Rule cmd? Thing House By byText thingsIn thingsOf valueOf termValue sumValue isSensor thingOf ruleOf leaves joined decimal told listed termText sumText condText wanted clamped looked become wasAt minute minutes)
/-! ### the history -/
structure WasOk (c b : Nat) (ps : List Nat) (x : Thing) : Prop where
  len : ps.length + b = c
  lo : ∀ t, t < b → wasAt x t = none
  mid : ∀ j, j < ps.length → wasAt x (b + j) = ps[j]?
  hi : ∀ t, c ≤ t → wasAt x t = some x.is
theorem wasAt_snoc {x y : Thing} {c v : Nat} (h : y.was = x.was ++ [(c, v)]) (t : Nat) : wasAt y t = if c ≤ t then some v else wasAt x t := by
  unfold wasAt
  rw [h, List.filter_append]
  by_cases e : c ≤ t
  · rw [if_pos e]; simp [e]
  · rw [if_neg e]; simp [e]
/-- a value at a clock -/
theorem WasOk.become {c b : Nat} {ps : List Nat} {x y : Thing} {v : Nat} (h : WasOk c b ps x) (hi : y.is = v) (hw : y.was = if v = x.is then x.was else x.was ++ [(c, v)]) : WasOk c b ps y := by
  by_cases e : v = x.is
  · rw [if_pos e] at hw
    have ew : ∀ t, wasAt y t = wasAt x t := fun t => by unfold wasAt; rw [hw]
    refine ⟨h.len, fun t ht => (ew t).trans (h.lo t ht), fun j hj => (ew _).trans (h.mid j hj), fun t ht => ?_⟩
    rw [ew, h.hi t ht, hi, e]
  · rw [if_neg e] at hw
    have len := h.len
    refine ⟨h.len, fun t ht => ?_, fun j hj => ?_, fun t ht => ?_⟩
    · rw [wasAt_snoc hw, if_neg (by omega)]; exact h.lo t ht
    · rw [wasAt_snoc hw, if_neg (by omega)]; exact h.mid j hj
    · rw [wasAt_snoc hw, if_pos ht, hi]
/-- the same value and history -/
theorem WasOk.keep {c b : Nat} {ps : List Nat} {x y : Thing} (h : WasOk c b ps x) (hi : y.is = x.is) (hw : y.was = x.was) : WasOk c b ps y := by
  have ew : ∀ t, wasAt y t = wasAt x t := fun t => by unfold wasAt; rw [hw]
  exact ⟨h.len, fun t ht => (ew t).trans (h.lo t ht), fun j hj => (ew _).trans (h.mid j hj), fun t ht => by rw [ew, h.hi t ht, hi]⟩
/-- the minute is over -/
theorem WasOk.over {c b : Nat} {ps : List Nat} {x : Thing} (h : WasOk c b ps x) : WasOk (c + 1) b (ps ++ [x.is]) x := by
  have len := h.len
  refine ⟨by rw [List.length_append]; simp; omega, h.lo, fun j hj => ?_, fun t ht => h.hi t (by omega)⟩
  rw [List.length_append] at hj
  by_cases e : j < ps.length
  · rw [List.getElem?_append_left e]; exact h.mid j e
  · have ej : j = ps.length := by simp at hj; omega
    subst ej
    rw [List.getElem?_append_right (Nat.le_refl _), Nat.sub_self]
    exact h.hi _ (by omega)
theorem WasOk.new (c v : Nat) (n : Bytes) : WasOk c c [] ⟨n, v, v, .none_, true, none, [(c, v)]⟩ := by
  refine ⟨by simp, fun t ht => ?_, fun j hj => absurd hj (Nat.not_lt_zero _), fun t ht => ?_⟩
  · unfold wasAt
    have : ¬ c ≤ t := by omega
    simp [this]
  · unfold wasAt
    simp [ht]
def Hist (L : Lay) (pss : List (List Nat)) (s : House) : Prop := pss.length = s.things.length ∧ ∀ (i : Nat) (l : TL) (ps : List Nat) (x : Thing), L.ts[i]? = some l → pss[i]? = some ps → s.things[i]? = some x → WasOk s.clock l.born ps x
def recd (pss : List (List Nat)) (s : House) : List (List Nat) := (pss.zip s.things).map fun q => q.1 ++ [q.2.is]
theorem hist_minute {L : Lay} {pss : List (List Nat)} {s : House} (h : Hist L pss s) : Hist L (recd pss s) (minute s) := by
  have em : minute s = Hr01.done { s with clock := s.clock + 1 } := rfl
  have et : (minute s).things = (s.things.map (aimed (looked { s with clock := s.clock + 1 }))).map (taken1 (s.clock + 1)) := by rw [em, done_eq]; rfl
  have ec : (minute s).clock = s.clock + 1 := rfl
  refine ⟨by unfold recd; rw [et, List.length_map, List.length_zip, List.length_map, List.length_map, h.1]; omega, fun i l ps x hl hp hx => ?_⟩
  unfold recd at hp
  rw [List.getElem?_map] at hp
  obtain ⟨q, hq, rfl⟩ := Option.map_eq_some_iff.mp hp
  rw [List.getElem?_zip_eq_some] at hq
  rw [et, List.getElem?_map, List.getElem?_map] at hx
  rw [hq.2] at hx
  cases hx
  rw [ec]
  have o := (h.2 i l q.1 q.2 hl hq.1 hq.2).over
  unfold taken1
  split
  · refine o.become (v := (aimed (looked { s with clock := s.clock + 1 }) q.2).want) rfl ?_
    rfl
  · exact o.keep rfl rfl
/-! ### the whole house -/
def PastAt (H : Hp) (L : Lay) (pss : List (List Nat)) : Prop := Paired (fun (l : TL) (ps : List Nat) => H l.pa = some (.lst (ps.map fun n => V.int (n : Nat)))) L.ts pss
def MpL (L : Lay) (b : Addr) : Prop := b ∈ L.ts.map (·.pa)
def MaL (L : Lay) (b : Addr) : Prop := MhL L b ∨ MpL L b ∨ b = L.ds ∨ b = L.dt ∨ b = L.dr
structure Live (K : PySem.W.Frag) (H : Hp) (L : Lay) (s : House) (pss : List (List Nat)) : Prop where
  hat : HouseAt K H L s
  sep : Sep L
  opn : Opn H L s
  wf : WF s
  past : PastAt H L pss
  hist : Hist L pss s
theorem PastAt.keep {H H' : Hp} {L : Lay} {pss : List (List Nat)} (h : PastAt H L pss) (e : ∀ b xs, H b = some (.lst xs) → H' b = some (.lst xs)) : PastAt H' L pss := Paired.mapP h fun _ _ z => e _ _ z
theorem PastAt.pa_lst {H : Hp} {L : Lay} {pss : List (List Nat)} (h : PastAt H L pss) {b : Addr} (m : MpL L b) : ∃ xs, H b = some (.lst xs) := by
  obtain ⟨l, hl, rfl⟩ := List.mem_map.mp m
  obtain ⟨i, hi⟩ := List.mem_iff_getElem?.mp hl
  obtain ⟨ps, _, e⟩ := paired_get h hi
  exact ⟨_, e⟩
theorem Fr.lsts {M : Addr → Prop} {H H' : Hp} (f : Fr M H H') (n : ∀ b, M b → ∀ xs, H b ≠ some (.lst xs)) {b : Addr} {xs : List V} (e : H b = some (.lst xs)) : H' b = some (.lst xs) := f _ _ e fun m => n b m xs e
theorem HouseAt.mh_lst {K : PySem.W.Frag} {H : Hp} {L : Lay} {s : House} (h : HouseAt K H L s) (b : Addr) (m : MhL L b) (xs : List V) : H b ≠ some (.lst xs) := fun e => by
  obtain ⟨c, dx, fs, q, _⟩ := h.mh_ins m
  rw [e] at q; cases q
theorem paired_mapR {α β γ : Type} {F : α → γ → Prop} {h : β → γ} : ∀ {as : List α} {xs : List β}, Paired (fun a x => F a (h x)) as xs → Paired F as (xs.map h)
  | _, _, .nil => .nil
  | _, _, .cons r t => .cons r (paired_mapR t)
theorem paired_unmapR {α β γ : Type} {F : α → γ → Prop} {h : β → γ} : ∀ {as : List α} {xs : List β}, Paired F as (xs.map h) → Paired (fun a x => F a (h x)) as xs
  | [], [], .nil => .nil
  | a :: as, x :: xs, .cons r t => .cons r (paired_unmapR t)
theorem HouseAt.lists {K : PySem.W.Frag} {H H' : Hp} {L : Lay} {s : House} {M : Addr → Prop} (h : HouseAt K H L s) (f : Fr M H H') (m : ∀ b, M b → ∃ xs, H b = some (.lst xs)) : HouseAt K H' L s := by
  have q : Quiet H H' := Quiet.of_fr f fun b o mb e => by
    obtain ⟨xs, z⟩ := m b mb
    rw [z] at e; cases e; exact soft_lst
  have nr : ∀ a kvs, Rd H a (.dK kvs) → ¬ M a := fun a kvs r mb => by
    obtain ⟨xs, z⟩ := m a mb
    rcases r with r | ⟨o, r⟩ <;> rw [z] at r <;> cases r
  have ni : ∀ a c dx fs, H a = some (.ins c dx fs) → ¬ M a := fun a c dx fs r mb => by
    obtain ⟨xs, z⟩ := m a mb
    rw [z] at r; cases r
  refine h.away f q ?_ (nr _ _ h.ds) (nr _ _ h.dt) (nr _ _ h.dr) (fun l hl => ?_) (fun a ha => ?_)
  · obtain ⟨dx, e⟩ := h.h; exact ni _ _ _ _ e
  · obtain ⟨c, dx, fs, e, _⟩ := h.mt_ins (.inl (List.mem_map.mpr ⟨l, hl, rfl⟩))
    exact ni _ _ _ _ e
  · obtain ⟨c, dx, fs, e, _⟩ := h.mt_ins (.inr ha)
    exact ni _ _ _ _ e
section
variable {P : Program} {w : World} {K : PySem.W.Frag} {mg : Str → Option Value} {base : Heap}
def sp_pass_minute (K : PySem.W.Frag) : Sp := fun vs H Q _ => ∃ (L : Lay) (s : House), vs = [.ref L.h] ∧ HouseAt K H L s ∧ Sep L ∧ Opn H L s ∧ WF s ∧ ∀ H', Fr (MhL L) H H' → HouseAt K H' L (minute s) → Opn H' L (minute s) → Q .non H'
theorem sc_pass_minute : FnScope ["house"] ["house"] (defScope s_pass_minute) := ⟨rfl, rfl, rfl, by decide +kernel, rfl, by decide +kernel, by decide +kernel⟩
theorem ok_pass_minute (g : Good w K mg) : FnOk P w K mg base CX0 26 (He.ga K "pass_minute") (fdA K (He.ga K "pass_minute")) ["house"] (sp_pass_minute K) := by
  refine (F_pass_minute g).ok sc_pass_minute (fun vs H Q E h => ?_) (fun cdv A outer s0 H vs Q E hr h => ⟨_, PSs.nox (pss_cons (ps_fldaug (pv 0) pe_int in_add) (pss_one (ps_expr (pe_call (ok_settle g) (hr.mono (by decide)) rfl (m_settle g) (F_settle g).kp (b_settle g) .nil pass0 (pa_cons (pv 0) pa_nil))))), ?_⟩)
  · obtain ⟨L, s, rfl, _⟩ := h; rfl
  · obtain ⟨L, s, rfl, hh, sp, op, wf, k⟩ := h
    obtain ⟨dx, hH⟩ := hh.h
    refine ⟨_, rfl, L.h, _, dx, _, _, rfl, hH, cl_House g, na_House_clock g, lk_House_clock .., ?_⟩
    refine ⟨_, _, rfl, rfl, dx, _, hH, (by show 4 < 1000; decide), ?_⟩
    rw [pt_House_clock]
    have hc : HouseAt K (upd H L.h (.ins (cHouse K) dx (fsHouse ((s.clock : Nat) + 1 : Int) L.ds L.dt L.dr))) L { s with clock := s.clock + 1 } := hh.clock hH (s.clock + 1)
    have ni : ∀ b o, H b = some o → (∀ c dx fs, o ≠ .ins c dx fs) → upd H L.h (.ins (cHouse K) dx (fsHouse ((s.clock : Nat) + 1 : Int) L.ds L.dt L.dr)) b = some o := fun b o e n => by
      rw [upd_ne (fun z => by rw [z, hH] at e; cases e; exact n _ _ _ rfl)]; exact e
    refine ⟨_, rfl, L, { s with clock := s.clock + 1 }, rfl, hc, sp, ⟨ni _ _ op.ds (by intro _ _ _ z; cases z), ni _ _ op.dt (by intro _ _ _ z; cases z), ni _ _ op.dr (by intro _ _ _ z; cases z)⟩, wf.at _, fun H' f h' o' => ?_⟩
    exact k _ ((Fr.put (.inl rfl)).trans (f.mono fun b z => .inr z)) h' o'
def sp_record_minute (K : PySem.W.Frag) : Sp := fun vs H Q _ => ∃ (L : Lay) (s : House) (pss : List (List Nat)), vs = [.ref L.h] ∧ HouseAt K H L s ∧ Sep L ∧ Opn H L s ∧ PastAt H L pss ∧ (∀ ps ∈ pss, ps.length ≤ 99999) ∧
  ∀ H', Fr (MpL L) H H' → PastAt H' L (recd pss s) → Q .non H'
theorem sc_record_minute : FnScope ["house", "thing"] ["house"] (defScope s_record_minute) := ⟨rfl, rfl, rfl, by decide +kernel, rfl, by decide +kernel, by decide +kernel⟩
theorem ok_record_minute (g : Good w K mg) : FnOk P w K mg base CX0 1 (He.ga K "record_minute") (fdA K (He.ga K "record_minute")) ["house"] (sp_record_minute K) := by
  refine (F_record_minute g).ok sc_record_minute (fun vs H Q E h => ?_) (fun cdv A outer s0 H vs Q E hr h => ⟨_, PSs.nox (pss_one (ps_lock (ps_for PassesOwn.never rfl (pi_values (pe_fld (pv 0) rfl)) (pg_name (i := 1) sc_record_minute.nd rfl (Or.inl rfl)) (pss_one (ps_expr (pe_bm PySem.F.plainAttrs_list PySem.F.slot_list_append PySem.F.type_list_append mt_append (pe_fld (pv 1) rfl) (pa_cons (pe_fld (pv 1) rfl) pa_nil))))))), ?_⟩)
  · obtain ⟨L, s, pss, rfl, _⟩ := h; rfl
  · obtain ⟨L, s, pss, rfl, hh, sp, op, pa, sm, k⟩ := h
    obtain ⟨dx, hH⟩ := hh.h
    have hdt := op.dt
    have elen : pss.length = s.things.length := pa.length.symm.trans hh.lt
    refine ⟨L.dt, _, hdt, trivial, fun od => ?_⟩
    refine ⟨_, rfl, L.h, _, dx, _, _, rfl, (upd_ne (ne_of hH hdt (by intro z; cases z))).trans hH, cl_House g, na_House_things g, lk_House_things .., ?_⟩
    refine ⟨L.dt, od, _, rfl, upd_same, ?_⟩
    have pa0 : Paired (fun (l : TL) (q : List Nat × Thing) => H l.pa = some (.lst (q.1.map fun n => V.int (n : Nat)))) L.ts (pss.zip s.things) := paired_unmapR (F := fun (l : TL) (ps : List Nat) => H l.pa = some (.lst (ps.map fun n => V.int (n : Nat)))) (h := Prod.fst) (by rw [List.map_fst_zip (by omega)]; exact pa)
    have nd : ∀ (b : Addr) (xs : List V), H b = some (.lst xs) → b ≠ L.dt := fun b xs e => ne_of e hdt (by intro z; cases z)
    let gg : List Nat × Thing → List Nat × Thing := fun q => (q.1 ++ [q.2.is], q.2)
    refine for_it (walk_vT hh.lt) (fun i σ H' => Fr (fun b => MpL L b ∨ b = L.dt) H H' ∧ H' L.dt = some (.frz od (.dK (thingsK L.ts s.things))) ∧ Paired (fun (l : TL) (q : List Nat × Thing) => H' l.pa = some (.lst (q.1.map fun n => V.int (n : Nat)))) L.ts (mapTo gg i (pss.zip s.things)) ∧ ∃ z1, σ = [some (.ref L.h), z1])
      ⟨Fr.lk Fr.refl, upd_same, by rw [mapTo_zero]; exact Paired.mapP pa0 fun l q z => (upd_ne (nd _ _ z)).trans z, none, rfl⟩ (fun i σ H' _ z => z.2.1) ?_ ?_
    · rintro i y σ H' H2 hi ⟨f, hlk, hpi, z1, rfl⟩ ⟨rfl, l, x, hl, hx, rfl⟩
      obtain ⟨x', hx', tx⟩ := paired_get hh.ts hl
      rw [hx] at hx'; cases hx'
      obtain ⟨da, o, hv', q1, q2, q3⟩ := tx
      have q1' : H2 l.a = some (.ins (cThing K) da (fsThing (x.is : Nat) (x.want : Nat) o (!x.hears) hv' (l.born : Nat) l.pa)) := f _ _ q1 (by
        rintro (z | z)
        · obtain ⟨xs, e⟩ := pa.pa_lst z; rw [q1] at e; cases e
        · exact ne_of q1 hdt (by intro z; cases z) z)
      obtain ⟨ps, hps, ep⟩ := paired_get pa hl
      have hz : (pss.zip s.things)[i]? = some (ps, x) := List.getElem?_zip_eq_some.mpr ⟨hps, hx⟩
      have hm := mapTo_get (f := gg) hz
      obtain ⟨q', hq', eq'⟩ := paired_get hpi hl
      rw [hm] at hq'; cases hq'
      have lp := sm ps (List.mem_of_getElem? hps)
      refine ⟨_, rfl, l.a, _, da, _, _, rfl, q1', cl_Thing g, na_Thing_past g, lk_Thing_past .., Or.inl ⟨rfl, _, SqL.of eq'⟩, ?_⟩
      refine ⟨_, rfl, l.a, _, da, _, _, rfl, q1', cl_Thing g, na_Thing_value g, lk_Thing_value .., l.pa, _, _, rfl, rfl, eq', by rw [List.length_map, sizeLine_eq]; show ps.length < _; omega, ?_⟩
      refine ⟨f.trans (Fr.put (.inl (List.mem_map.mpr ⟨l, List.mem_of_getElem? hl, rfl⟩))), (upd_ne (ne_of hlk eq' (by intro z; cases z))).trans hlk, ?_, some (.ref l.a), rfl⟩
      rw [← mapTo_set hz]
      refine paired_set hpi (fun j a q h1 h2 h3 h4 => ?_) fun a e => ?_
      · rw [upd_ne (fun z => h4 (nodup_at sp.ps (by rw [List.getElem?_map, h1]; rfl) (by rw [List.getElem?_map, hl]; rfl) z))]; exact h3
      · rw [hl] at e; cases e
        rw [upd_same]
        show _ = some (HO.lst ((ps ++ [x.is]).map fun n => V.int (n : Nat)))
        rw [List.map_append]; rfl
    · rintro σ H' ⟨f, hlk, hpi, z1, rfl⟩
      refine ⟨hlk, ?_⟩
      have e2 : (pss.zip s.things).length = s.things.length := by rw [List.length_zip]; omega
      rw [← e2, mapTo_all] at hpi
      refine k _ (f.ulk hdt) ?_
      have : recd pss s = ((pss.zip s.things).map gg).map Prod.fst := by rw [List.map_map]; rfl
      rw [this]
      refine paired_mapR (Paired.mapP hpi fun l q z => ?_)
      exact (upd_ne (ne_of z hlk (by intro z; cases z))).trans z
end
end Hw
end

/-! ## part S6 -/
section
set_option Elab.async false
set_option linter.all false
set_option maxRecDepth 100000
set_option maxHeartbeats 2000000
namespace Hw
open PySem PySem.Spec PyProof.Rows L2
open Hr01 (Bytes Words Term Sum Cond ascii isName num? term? digit small sum? parted Cmd Rule cmd? Thing House By byText thingsIn thingsOf valueOf termValue sumValue isSensor thingOf ruleOf leaves joined decimal told listed termText sumText condText wanted clamped looked become wasAt minute minutes taken withThing setSensor does no)
/-! ### what stands at a name -/
theorem sens_some (s : House) (n : Bytes) : (valV (sensK s.sensors) (.inr (S n))).isSome = isSensor s n := by
  rw [sens_val, Option.isSome_map]
  unfold isSensor
  rw [Bool.eq_iff_iff, List.find?_isSome, List.any_eq_true]
theorem things_some {K : PySem.W.Frag} {H : Hp} {L : Lay} {s : House} (h : HouseAt K H L s) (N : Names s) (n : Bytes) : (valV (thingsK L.ts s.things) (.inr (S n))).isSome = (thingOf s n).isSome := by
  have := things_val h.lt (nd_things N) n
  cases e : thingOf s n with
  | none => rw [e] at this; rw [this]; rfl
  | some x => rw [e] at this; obtain ⟨_, i, l, _, _, z⟩ := this; rw [z]; rfl
theorem rules_some {K : PySem.W.Frag} {H : Hp} {L : Lay} {s : House} (h : HouseAt K H L s) (N : (s.rules.map (·.name)).Nodup) (n : Bytes) : (valV (rulesK L.rs s.rules) (.inr (S n))).isSome = (ruleOf s n).isSome := by
  have := rules_val h.lr N n
  cases e : ruleOf s n with
  | none => rw [e] at this; rw [this]; rfl
  | some x => rw [e] at this; obtain ⟨_, i, l, _, _, z⟩ := this; rw [z]; rfl
theorem dget_s {K : PySem.W.Frag} {H : Hp} {L : Lay} {s : House} (h : HouseAt K H L s) (n : Bytes) : DGet H L.ds (vS n) (valV (sensK s.sensors) (.inr (S n))) := .inl ⟨_, .inr (S n), h.ds, rfl, rfl⟩
theorem dget_t {K : PySem.W.Frag} {H : Hp} {L : Lay} {s : House} (h : HouseAt K H L s) (n : Bytes) : DGet H L.dt (vS n) (valV (thingsK L.ts s.things) (.inr (S n))) := .inl ⟨_, .inr (S n), h.dt, rfl, rfl⟩
theorem dget_r {K : PySem.W.Frag} {H : Hp} {L : Lay} {s : House} (h : HouseAt K H L s) (n : Bytes) : DGet H L.dr (vS n) (valV (rulesK L.rs s.rules) (.inr (S n))) := .inl ⟨_, .inr (S n), h.dr, rfl, rfl⟩
/-- the device of a name -/
theorem thing_at {K : PySem.W.Frag} {H : Hp} {L : Lay} {s : House} (h : HouseAt K H L s) (N : Names s) {n : Bytes} {x : Thing} (e : thingOf s n = some x) :
    x.name = n ∧ ∃ (i : Nat) (l : TL), s.things[i]? = some x ∧ L.ts[i]? = some l ∧ ThingAt K H l x ∧ DGet H L.dt (vS n) (some (.ref l.a)) := by
  have := things_val h.lt (nd_things N) n
  rw [e] at this
  obtain ⟨h1, i, l, h2, h3, h4⟩ := this
  obtain ⟨x', hx', t⟩ := paired_get h.ts h3
  rw [h2] at hx'; cases hx'
  exact ⟨h1, i, l, h2, h3, t, by rw [← h4]; exact dget_t h n⟩
theorem rule_at {K : PySem.W.Frag} {H : Hp} {L : Lay} {s : House} (h : HouseAt K H L s) (N : (s.rules.map (·.name)).Nodup) {n : Bytes} {x : Rule} (e : ruleOf s n = some x) :
    x.name = n ∧ ∃ (i : Nat) (l : Addr), s.rules[i]? = some x ∧ L.rs[i]? = some l ∧ RuleAt K H l x ∧ DGet H L.dr (vS n) (some (.ref l)) := by
  have := rules_val h.lr N n
  rw [e] at this
  obtain ⟨h1, i, l, h2, h3, h4⟩ := this
  obtain ⟨x', hx', t⟩ := paired_get h.rs h3
  rw [h2] at hx'; cases hx'
  exact ⟨h1, i, l, h2, h3, t, by rw [← h4]; exact dget_r h n⟩
/-! ### a device is changed -/
theorem with_set {s : House} (nd : (s.things.map (·.name)).Nodup) {i : Nat} {x y : Thing} (hx : s.things[i]? = some x) (n : y.name = x.name) : withThing s y = { s with things := s.things.set i y } := by
  unfold withThing
  congr 1
  refine List.ext_getElem? fun j => ?_
  rw [List.getElem?_map, List.getElem?_set]
  by_cases e : i = j
  · subst e
    rw [if_pos rfl, if_pos (List.getElem?_eq_some_iff.mp hx).1, hx]
    show some (if x.name = y.name then y else x) = _
    rw [if_pos n.symm]
  · rw [if_neg e]
    cases h : s.things[j]? with
    | none => rfl
    | some z =>
      show some (if z.name = y.name then y else z) = some z
      rw [if_neg]
      intro ez
      exact e (nodup_at nd (a := x.name) (b := z.name) (by rw [List.getElem?_map, hx]; rfl) (by rw [List.getElem?_map, h]; rfl) (n.symm.trans ez.symm))
theorem mem_set {α : Type} {l : List α} {i : Nat} {y z : α} (h : z ∈ l.set i y) : z ∈ l ∨ z = y := List.mem_or_eq_of_mem_set h
section
variable {K : PySem.W.Frag} {H H' : Hp} {L : Lay} {s : House} {pss : List (List Nat)}
theorem Live.nd (v : Live K H L s pss) : (s.things.map (·.name)).Nodup := nd_things v.wf.names
theorem Live.putT (v : Live K H L s pss) {i : Nat} {l : TL} {x y : Thing} (hx : s.things[i]? = some x) (hl : L.ts[i]? = some l) (n : y.name = x.name) (f : Fr (At l.a) H H') (t : ThingAt K H' l y) (ok : TOk y)
    (wo : ∀ ps, WasOk s.clock l.born ps x → WasOk s.clock l.born ps y) : Live K H' L (withThing s y) pss := by
  rw [with_set v.nd hx n]
  obtain ⟨x', hx', tx⟩ := paired_get v.hat.ts hl
  obtain ⟨_, _, _, _, _, _, _, _, _, e3⟩ := tx.there
  have ni : ∀ b o, H b = some o → (∀ c dx fs, o ≠ .ins c dx fs) → H' b = some o := fun b o e m => f _ _ e (fun z => by rw [z, e3] at e; cases e; exact m _ _ _ rfl)
  have en : thingsK L.ts (s.things.set i y) = thingsK L.ts s.things := thingsK_names (set_names hx n)
  refine ⟨v.hat.putT v.sep hl hx n f t, v.sep, ⟨ni _ _ v.opn.ds (by intro _ _ _ z; cases z), ?_, ni _ _ v.opn.dr (by intro _ _ _ z; cases z)⟩, ?_, v.past.keep fun b xs e => ni _ _ e (by intro _ _ _ z; cases z), ?_⟩
  · show H' L.dt = some (.dK (thingsK L.ts (s.things.set i y)))
    rw [en]; exact ni _ _ v.opn.dt (by intro _ _ _ z; cases z)
  · refine v.wf.of rfl (set_names hx n) rfl v.wf.sv fun z hz => ?_
    rcases mem_set hz with hz | rfl
    · exact v.wf.to z hz
    · exact ok
  · refine ⟨by rw [v.hist.1]; show _ = (s.things.set i y).length; rw [List.length_set], fun j m ps z h1 h2 h3 => ?_⟩
    have h3' : (s.things.set i y)[j]? = some z := h3
    rw [List.getElem?_set] at h3'
    by_cases e : i = j
    · subst e
      rw [if_pos rfl, if_pos (List.getElem?_eq_some_iff.mp hx).1] at h3'
      cases h3'
      rw [hl] at h1; cases h1
      exact wo ps (v.hist.2 i l ps x hl h2 hx)
    · rw [if_neg e] at h3'
      exact v.hist.2 j m ps z h1 h2 h3'
theorem MaL.thing {l : TL} {i : Nat} (hl : L.ts[i]? = some l) : MaL L l.a := .inl (.inr (.inl (List.mem_map.mpr ⟨l, List.mem_of_getElem? hl, rfl⟩)))
/-- what a command that changes is to do -/
def Did (K : PySem.W.Frag) (L : Lay) (H : Hp) (Q : VK) (r : House × Bytes) : Prop := ∀ H' L' pss', Live K H' L' r.1 pss' → L'.h = L.h → Fr (MaL L) H H' → (∀ b, MaL L' b → MaL L b ∨ H b = none) → Q (vS r.2) H'
theorem Did.same {Q : VK} {t : Bytes} {r : House × Bytes} (k : Did K L H Q r) (v : Live K H L s pss) (e : r = (s, t)) : Q (vS t) H := by
  subst e
  exact k H L pss v rfl Fr.refl fun b m => .inl m
theorem Did.thing {Q : VK} {y : Thing} {i : Nat} {l : TL} {x : Thing} {t : Bytes} {r : House × Bytes} (k : Did K L H Q r) (e : r = (withThing s y, t)) (v : Live K H L s pss) (hx : s.things[i]? = some x) (hl : L.ts[i]? = some l) (n : y.name = x.name) (f : Fr (At l.a) H H') (ty : ThingAt K H' l y) (ok : TOk y)
    (wo : ∀ ps, WasOk s.clock l.born ps x → WasOk s.clock l.born ps y) : Q (vS t) H' := by
  subst e
  exact k H' L pss (v.putT hx hl n f ty ok wo) rfl (f.mono fun b z => by rw [z]; exact MaL.thing hl) fun b m => .inl m
theorem on_none {n : Bytes} {f : Thing → House × Bytes} (e : thingOf s n = none) : Hr01.onThing s n f = (s, no "thing") := by unfold Hr01.onThing; rw [e]
theorem on_some {n : Bytes} {f : Thing → House × Bytes} {x : Thing} (e : thingOf s n = some x) : Hr01.onThing s n f = f x := by unfold Hr01.onThing; rw [e]
end
theorem no_S (w : String) (z : String) (h : ascii z = no w := by rfl) : ((z : String) : Str) = S (no w) := by rw [S_of, h]
section
variable {P : Program} {w : World} {K : PySem.W.Frag} {mg : Str → Option Value} {base : Heap}
def sp_is_taken (K : PySem.W.Frag) : Sp := fun vs H Q _ => ∃ (L : Lay) (s : House) (n : Bytes), vs = [.ref L.h, vS n] ∧ HouseAt K H L s ∧ WF s ∧ Q (.bl (taken s n)) H
theorem sc_is_taken : FnScope ["house", "name"] ["house", "name"] (defScope s_is_taken) := ⟨rfl, rfl, rfl, by decide +kernel, rfl, by decide +kernel, by decide +kernel⟩
theorem ok_is_taken (g : Good w K mg) : FnOk P w K mg base CX0 1 (He.ga K "is_taken") (fdA K (He.ga K "is_taken")) ["house", "name"] (sp_is_taken K) := by
  refine (F_is_taken g).ok sc_is_taken (fun vs H Q E h => ?_) (fun cdv A outer s0 H vs Q E hr h => ⟨_, PSs.nox (pss_one (ps_ret (pe_or (pe_cmp (pc_din (hu_of hr) (pv 1) (pe_fld (pv 0) rfl))) (pe_or (pe_cmp (pc_din (hu_of hr) (pv 1) (pe_fld (pv 0) rfl))) (pe_one (pe_cmp (pc_din (hu_of hr) (pv 1) (pe_fld (pv 0) rfl)))))))), ?_⟩)
  · obtain ⟨L, s, n, rfl, _⟩ := h; rfl
  · obtain ⟨L, s, n, rfl, hh, wf, k⟩ := h
    obtain ⟨dx, hH⟩ := hh.h
    unfold taken at k
    refine ⟨_, rfl, _, rfl, L.h, _, dx, _, _, rfl, hH, cl_House g, na_House_sensors g, lk_House_sensors .., L.ds, _, rfl, dget_s hh n, ?_⟩
    rw [sens_some]
    cases e1 : isSensor s n with
    | true => rw [e1] at k; exact ⟨_, rfl, iteT k⟩
    | false =>
      rw [e1] at k
      refine ⟨_, rfl, iteF ⟨_, rfl, _, rfl, L.h, _, dx, _, _, rfl, hH, cl_House g, na_House_things g, lk_House_things .., L.dt, _, rfl, dget_t hh n, ?_⟩⟩
      rw [things_some hh wf.names]
      cases e2 : (thingOf s n).isSome with
      | true => rw [e2] at k; exact ⟨_, rfl, iteT k⟩
      | false =>
        rw [e2] at k
        refine ⟨_, rfl, iteF ⟨_, rfl, _, rfl, L.h, _, dx, _, _, rfl, hH, cl_House g, na_House_rules g, lk_House_rules .., L.dr, _, rfl, dget_r hh n, ?_⟩⟩
        rw [rules_some hh wf.rn]
        exact k
def sp_has_value (K : PySem.W.Frag) : Sp := fun vs H Q _ => ∃ (L : Lay) (s : House) (n : Bytes), vs = [.ref L.h, vS n] ∧ HouseAt K H L s ∧ WF s ∧ Q (.bl (isSensor s n || (thingOf s n).isSome)) H
theorem sc_has_value : FnScope ["house", "name"] ["house", "name"] (defScope s_has_value) := ⟨rfl, rfl, rfl, by decide +kernel, rfl, by decide +kernel, by decide +kernel⟩
theorem ok_has_value (g : Good w K mg) : FnOk P w K mg base CX0 1 (He.ga K "has_value") (fdA K (He.ga K "has_value")) ["house", "name"] (sp_has_value K) := by
  refine (F_has_value g).ok sc_has_value (fun vs H Q E h => ?_) (fun cdv A outer s0 H vs Q E hr h => ⟨_, PSs.nox (pss_one (ps_ret (pe_or (pe_cmp (pc_din (hu_of hr) (pv 1) (pe_fld (pv 0) rfl))) (pe_one (pe_cmp (pc_din (hu_of hr) (pv 1) (pe_fld (pv 0) rfl))))))), ?_⟩)
  · obtain ⟨L, s, n, rfl, _⟩ := h; rfl
  · obtain ⟨L, s, n, rfl, hh, wf, k⟩ := h
    obtain ⟨dx, hH⟩ := hh.h
    refine ⟨_, rfl, _, rfl, L.h, _, dx, _, _, rfl, hH, cl_House g, na_House_sensors g, lk_House_sensors .., L.ds, _, rfl, dget_s hh n, ?_⟩
    rw [sens_some]
    cases e1 : isSensor s n with
    | true => rw [e1] at k; exact ⟨_, rfl, iteT k⟩
    | false =>
      rw [e1] at k
      refine ⟨_, rfl, iteF ⟨_, rfl, _, rfl, L.h, _, dx, _, _, rfl, hH, cl_House g, na_House_things g, lk_House_things .., L.dt, _, rfl, dget_t hh n, ?_⟩⟩
      rw [things_some hh wf.names]
      exact k
/-! deaf, hears -/
def sp_set_deaf (K : PySem.W.Frag) : Sp := fun vs H Q _ => ∃ (L : Lay) (s : House) (pss : List (List Nat)) (n : Bytes) (d : Bool), vs = [.ref L.h, vS n, .bl d] ∧ Live K H L s pss ∧ Did K L H Q (does s (if d then .deaf n else .hears n))
theorem sc_set_deaf : FnScope ["house", "name", "deaf"] ["house", "name", "deaf"] (defScope s_set_deaf) := ⟨rfl, rfl, rfl, by decide +kernel, rfl, by decide +kernel, by decide +kernel⟩
theorem ok_set_deaf (g : Good w K mg) : FnOk P w K mg base CX0 1 (He.ga K "set_deaf") (fdA K (He.ga K "set_deaf")) ["house", "name", "deaf"] (sp_set_deaf K) := by
  refine (F_set_deaf g).ok sc_set_deaf (fun vs H Q E h => ?_) (fun cdv A outer s0 H vs Q E hr h => ⟨_, PSs.nox (pss_cons (ps_if (pt_cmp (pc_dnotin (hu_of hr) (pv 1) (pe_fld (pv 0) rfl))) (pss_one (ps_ret pe_str)) pss_nil) (pss_cons (ps_fld (pe_dget (hu_of hr) (pe_fld (pv 0) rfl) (pv 1) (fun _ _ => rfl)) (pv 2) rfl) (pss_one (ps_ret pe_str)))), ?_⟩)
  · obtain ⟨L, s, pss, n, d, rfl, _⟩ := h; rfl
  · obtain ⟨L, s, pss, n, d, rfl, v, k⟩ := h
    have hh := v.hat
    obtain ⟨dx, hH⟩ := hh.h
    have ed : does s (if d then .deaf n else .hears n) = Hr01.onThing s n fun x => (withThing s { x with hears := !d }, Hr01.ok) := by cases d <;> rfl
    rw [ed] at k
    refine ⟨_, rfl, _, rfl, L.h, _, dx, _, _, rfl, hH, cl_House g, na_House_things g, lk_House_things .., L.dt, _, rfl, dget_t hh n, _, rfl, ?_⟩
    rw [things_some hh v.wf.names]
    cases e : thingOf s n with
    | none =>
      rw [on_none e] at k
      refine iteT ?_
      rw [no_S "thing" "no thing"]
      exact k.same v rfl
    | some x =>
      rw [on_some e] at k
      obtain ⟨en, i, l, hx, hl, tx, dg⟩ := thing_at hh v.wf.names e
      have ox := v.wf.to x (List.mem_of_getElem? hx)
      obtain ⟨dy, o, hv, q1, q2, q3⟩ := tx
      refine iteF ⟨_, rfl, _, rfl, L.h, _, dx, _, _, rfl, hH, cl_House g, na_House_things g, lk_House_things .., _, rfl, L.dt, _, rfl, dg, ?_⟩
      refine ⟨l.a, _, dy, _, rfl, q1, cl_Thing g, na_Thing_deaf g, (by show 7 < 1000; decide), ?_⟩
      rw [pt_Thing_deaf]
      have qq : Quiet H (upd H l.a (.ins (cThing K) dy (fsThing (x.is : Nat) (x.want : Nat) o d hv (l.born : Nat) l.pa))) := Quiet.upd1 q1 soft_thing
      rw [S_of]
      refine k.thing rfl v hx hl rfl Fr.at1 ⟨dy, o, hv, ?_, qq.t _ _ q2, q3.quiet qq⟩ ⟨ox.is, ox.want, ox.by_, ox.hold, ox.was⟩ fun ps z => z.keep rfl rfl
      rw [upd_same]
      show _ = some (HO.ins _ dy (fsThing (x.is : Nat) (x.want : Nat) o (!(!d)) hv (l.born : Nat) l.pa))
      rw [Bool.not_not]
def sp_make_deaf (K : PySem.W.Frag) (d : Bool) : Sp := fun vs H Q _ => ∃ (L : Lay) (s : House) (pss : List (List Nat)) (ar : Addr) (n : Bytes), vs = [.ref L.h, .ref ar] ∧ H ar = some (.lst [vS n]) ∧ Live K H L s pss ∧ Did K L H Q (does s (if d then .deaf n else .hears n))
theorem sc_make_deaf : FnScope ["house", "arguments"] ["house", "arguments"] (defScope s_make_deaf) := ⟨rfl, rfl, rfl, by decide +kernel, rfl, by decide +kernel, by decide +kernel⟩
theorem sc_make_hear : FnScope ["house", "arguments"] ["house", "arguments"] (defScope s_make_hear) := ⟨rfl, rfl, rfl, by decide +kernel, rfl, by decide +kernel, by decide +kernel⟩
theorem ok_make_deaf (g : Good w K mg) : FnOk P w K mg base CX0 2 (He.ga K "make_deaf") (fdA K (He.ga K "make_deaf")) ["house", "arguments"] (sp_make_deaf K true) := by
  refine (F_make_deaf g).ok sc_make_deaf (fun vs H Q E h => ?_) (fun cdv A outer s0 H vs Q E hr h => ⟨_, PSs.nox (pss_one (ps_ret (pe_call (ok_set_deaf g) (hr.mono (by decide)) rfl (m_set_deaf g) (F_set_deaf g).kp (b_set_deaf g) .nil pass0 (pa_cons (pv 0) (pa_cons (pe_ix ix_list (pv 1) pe_int (fun _ _ => rfl)) (pa_cons pe_bl pa_nil)))))), ?_⟩)
  · obtain ⟨L, s, pss, ar, n, rfl, _⟩ := h; rfl
  · obtain ⟨L, s, pss, ar, n, rfl, ha, v, k⟩ := h
    exact ⟨_, rfl, _, rfl, ar, _, _, _, rfl, rfl, SqL.of ha, atI_nat (j := 0) rfl, L, s, pss, n, true, rfl, v, k⟩
theorem ok_make_hear (g : Good w K mg) : FnOk P w K mg base CX0 2 (He.ga K "make_hear") (fdA K (He.ga K "make_hear")) ["house", "arguments"] (sp_make_deaf K false) := by
  refine (F_make_hear g).ok sc_make_hear (fun vs H Q E h => ?_) (fun cdv A outer s0 H vs Q E hr h => ⟨_, PSs.nox (pss_one (ps_ret (pe_call (ok_set_deaf g) (hr.mono (by decide)) rfl (m_set_deaf g) (F_set_deaf g).kp (b_set_deaf g) .nil pass0 (pa_cons (pv 0) (pa_cons (pe_ix ix_list (pv 1) pe_int (fun _ _ => rfl)) (pa_cons pe_bl pa_nil)))))), ?_⟩)
  · obtain ⟨L, s, pss, ar, n, rfl, _⟩ := h; rfl
  · obtain ⟨L, s, pss, ar, n, rfl, ha, v, k⟩ := h
    exact ⟨_, rfl, _, rfl, ar, _, _, _, rfl, rfl, SqL.of ha, atI_nat (j := 0) rfl, L, s, pss, n, false, rfl, v, k⟩
end
end Hw
end

/-! ## part S7 -/
section
set_option Elab.async false
set_option linter.all false
set_option maxRecDepth 100000
set_option maxHeartbeats 2000000
namespace Hw
open PySem PySem.Spec PyProof.Rows L2
open Hr01 (Bytes Words Term Sum Cond ascii isName num? term? digit small sum? parted Cmd Rule cmd? Thing House By byText thingsIn thingsOf valueOf termValue sumValue isSensor thingOf ruleOf leaves joined decimal told listed termText sumText condText wanted clamped looked become wasAt minute minutes taken withThing setSensor does no)
theorem made_same {H H1 : Hp} {x dx : Addr} {C : Addr} (nx : H x = none) (nd : H dx = none) (f : Fr (At x) (upd (upd H dx (.own x)) x (.ins C dx [])) H1) : Same H H1 := fun b o e =>
  f b o (by rw [upd_ne (ne_of_none e nx), upd_ne (ne_of_none e nd)]; exact e) (ne_of_none e nx)
/-! ### the sensors -/
theorem sens_none {s : House} {n : Bytes} (h : isSensor s n = false) : valV (sensK s.sensors) (.inr (S n)) = none := by
  have := sens_some s n
  rw [h] at this
  cases e : valV (sensK s.sensors) (.inr (S n)) with
  | none => rfl
  | some v => rw [e] at this; cases this
theorem putS_new {s : House} {n : Bytes} {v : Nat} (h : isSensor s n = false) : putK (sensK s.sensors) (.inr (S n)) (.int (v : Nat)) = sensK (s.sensors ++ [(n, v)]) := by
  rw [putK_new _ (sens_none h)]
  unfold sensK
  rw [List.map_append]; rfl
theorem putS_old {s : House} {n : Bytes} {v : Nat} (h : isSensor s n = true) : putK (sensK s.sensors) (.inr (S n)) (.int (v : Nat)) = sensK (setSensor s n v).sensors := by
  unfold putK
  rw [if_pos (by rw [valV_any, sens_some]; exact h)]
  unfold setSensor sensK
  rw [List.map_map, List.map_map]
  refine List.map_congr_left fun p _ => ?_
  show (if (Sum.inr (S p.1) : Key) = .inr (S n) then ((Sum.inr (S p.1) : Key), V.int (v : Nat)) else (.inr (S p.1), .int (p.2 : Nat))) = ((Sum.inr (S (if p.1 = n then (n, v) else p).1) : Key), V.int ((if p.1 = n then (n, v) else p).2 : Nat))
  by_cases e : p.1 = n
  · rw [if_pos (key_iff.mpr e), if_pos e, e]
  · rw [if_neg (fun z => e (key_iff.mp z)), if_neg e]
theorem isSensor_mem {s : House} {n : Bytes} : isSensor s n = true ↔ n ∈ s.sensors.map (·.1) := by
  unfold isSensor
  rw [List.any_eq_true, List.mem_map]
  exact ⟨fun ⟨x, h1, h2⟩ => ⟨x, h1, eq_of_beq h2⟩, fun ⟨x, h1, h2⟩ => ⟨x, h1, beq_iff_eq.mpr h2⟩⟩
theorem thingOf_mem {s : House} {n : Bytes} : (thingOf s n).isSome = true ↔ n ∈ s.things.map (·.name) := by
  unfold thingOf
  rw [List.find?_isSome, List.mem_map]
  exact ⟨fun ⟨x, h1, h2⟩ => ⟨x, h1, eq_of_beq h2⟩, fun ⟨x, h1, h2⟩ => ⟨x, h1, beq_iff_eq.mpr h2⟩⟩
theorem ruleOf_mem {s : House} {n : Bytes} : (ruleOf s n).isSome = true ↔ n ∈ s.rules.map (·.name) := by
  unfold ruleOf
  rw [List.find?_isSome, List.mem_map]
  exact ⟨fun ⟨x, h1, h2⟩ => ⟨x, h1, eq_of_beq h2⟩, fun ⟨x, h1, h2⟩ => ⟨x, h1, beq_iff_eq.mpr h2⟩⟩
theorem taken_not {s : House} {n : Bytes} (h : taken s n = false) : isSensor s n = false ∧ n ∉ s.sensors.map (·.1) ∧ n ∉ s.things.map (·.name) ∧ n ∉ s.rules.map (·.name) := by
  unfold taken at h
  rw [Bool.or_eq_false_iff, Bool.or_eq_false_iff] at h
  refine ⟨h.1, fun z => ?_, fun z => ?_, fun z => ?_⟩
  · rw [isSensor_mem.mpr z] at h; cases h.1
  · rw [thingOf_mem.mpr z] at h; cases h.2.1
  · rw [ruleOf_mem.mpr z] at h; cases h.2.2
theorem setS_names (s : House) (n : Bytes) (v : Nat) : (setSensor s n v).sensors.map (·.1) = s.sensors.map (·.1) := by
  unfold setSensor
  rw [List.map_map]
  refine List.map_congr_left fun p _ => ?_
  show (if p.1 = n then (n, v) else p).1 = p.1
  split
  · rename_i e; exact e.symm
  · rfl
theorem WF.setS {s : House} (h : WF s) {n : Bytes} {v : Nat} (hv : v ≤ 999) : WF (setSensor s n v) := by
  refine h.of (setS_names s n v) rfl rfl (fun p hp => ?_) h.to
  obtain ⟨q, hq, rfl⟩ := List.mem_map.mp hp
  split
  · exact hv
  · exact h.sv q hq
theorem WF.addS {s : House} (h : WF s) {n : Bytes} {v : Nat} (hn : isName n = true) (ht : taken s n = false) (hl : ¬ 4 ≤ s.sensors.length) (hv : v ≤ 999) : WF { s with sensors := s.sensors ++ [(n, v)] } := by
  obtain ⟨_, h1, h2, _⟩ := taken_not ht
  have nd := List.nodup_append.mp h.names.nd
  refine ⟨⟨fun p hp => ?_, h.names.tn, ?_⟩, h.rn, ⟨?_, h.few.ft, h.few.fr⟩, fun r hr x hx => ?_, fun r hr x hx => ?_, h.ro, fun p hp => ?_, h.to⟩
  · rcases List.mem_append.mp hp with hp | hp
    · exact h.names.sn p hp
    · simp at hp; subst hp; exact hn
  · show ((s.sensors ++ [(n, v)]).map (·.1) ++ s.things.map (·.name)).Nodup
    rw [List.map_append, List.nodup_append]
    refine ⟨List.nodup_append.mpr ⟨nd.1, by simp, fun a ha b hb => by simp at hb; subst hb; exact fun z => h1 (z ▸ ha)⟩, nd.2.1, fun a ha b hb => ?_⟩
    rcases List.mem_append.mp ha with ha | ha
    · exact nd.2.2 a ha b hb
    · simp at ha; subst ha; exact fun z => h2 (z ▸ hb)
  · show (s.sensors ++ [(n, v)]).length ≤ 4
    rw [List.length_append]; simp; omega
  · rcases h.kc r hr x hx with z | z
    · exact .inl (by show x ∈ (s.sensors ++ [(n, v)]).map (·.1); rw [List.map_append]; exact List.mem_append_left _ z)
    · exact .inr z
  · rcases h.kv r hr x hx with z | z
    · exact .inl (by show x ∈ (s.sensors ++ [(n, v)]).map (·.1); rw [List.map_append]; exact List.mem_append_left _ z)
    · exact .inr z
  · rcases List.mem_append.mp hp with hp | hp
    · exact h.sv p hp
    · simp at hp; subst hp; exact hv
section
variable {K : PySem.W.Frag} {H H' : Hp} {L : Lay} {s : House} {pss : List (List Nat)}
theorem Live.sens (v : Live K H L s pss) {sn : List (Bytes × Nat)} (wf : WF { s with sensors := sn }) : Live K (upd H L.ds (.dK (sensK sn))) L { s with sensors := sn } pss := by
  have hh := v.hat
  have hds := v.opn.ds
  have q : Quiet H (upd H L.ds (.dK (sensK sn))) := Quiet.upd1 hds soft_dK
  have f : Fr (At L.ds) H (upd H L.ds (.dK (sensK sn))) := Fr.at1
  have ni : ∀ a c dx fs, H a = some (.ins c dx fs) → ¬ At L.ds a := fun a c dx fs e z => ne_of e hds (by intro z; cases z) z
  refine ⟨⟨?_, .inl upd_same, .inl (f _ _ v.opn.dt v.sep.d1.symm), .inl (f _ _ v.opn.dr v.sep.d2.symm), ?_, ?_⟩, v.sep, ⟨upd_same, f _ _ v.opn.dt v.sep.d1.symm, f _ _ v.opn.dr v.sep.d2.symm⟩, wf, ?_, v.hist⟩
  · obtain ⟨dx, e⟩ := hh.h; exact ⟨dx, f _ _ e (ni _ _ _ _ e)⟩
  · refine paired_map2 hh.ts fun j b z h1 h2 h3 => ?_
    obtain ⟨_, _, _, _, _, _, _, _, _, e3⟩ := h3.there
    exact h3.quiet q (f.eq e3 (ni _ _ _ _ e3))
  · refine paired_map2 hh.rs fun j b z h1 h2 h3 => ?_
    obtain ⟨_, _, _, _, _, _, _, _, e3⟩ := h3.there
    exact h3.quiet q (f.eq e3 (ni _ _ _ _ e3))
  · exact v.past.keep fun b xs e => f _ _ e (ne_of e hds (by intro z; cases z))
theorem Did.sens {Q : VK} {sn : List (Bytes × Nat)} {t : Bytes} {r : House × Bytes} (k : Did K L H Q r) (e : r = ({ s with sensors := sn }, t)) (v : Live K H L s pss) (wf : WF { s with sensors := sn }) : Q (vS t) (upd H L.ds (.dK (sensK sn))) := by
  subst e
  exact k _ L pss (v.sens wf) rfl (Fr.put (.inr (.inr (.inl rfl)))) fun b m => .inl m
end
section
variable {P : Program} {w : World} {K : PySem.W.Frag} {mg : Str → Option Value} {base : Heap}
def sp_add_sensor (K : PySem.W.Frag) : Sp := fun vs H Q _ => ∃ (L : Lay) (s : House) (pss : List (List Nat)) (ar : Addr) (n : Bytes) (v : Nat), vs = [.ref L.h, .ref ar] ∧ H ar = some (.lst [vS n, .int (v : Nat)]) ∧ isName n = true ∧ v ≤ 999 ∧ Live K H L s pss ∧ Did K L H Q (does s (.sensor n v))
theorem sc_add_sensor : FnScope ["house", "arguments", "name"] ["house", "arguments"] (defScope s_add_sensor) := ⟨rfl, rfl, rfl, by decide +kernel, rfl, by decide +kernel, by decide +kernel⟩
theorem ok_add_sensor (g : Good w K mg) : FnOk P w K mg base CX0 2 (He.ga K "add_sensor") (fdA K (He.ga K "add_sensor")) ["house", "arguments"] (sp_add_sensor K) := by
  refine (F_add_sensor g).ok sc_add_sensor (fun vs H Q E h => ?_) (fun cdv A outer s0 H vs Q E hr h => ⟨_, PSs.nox (pss_cons (ps_set (i := 2) sc_add_sensor.nd rfl (Or.inl rfl) (pe_ix ix_list (pv 1) pe_int (fun _ _ => rfl))) (pss_cons (ps_if (pt_val (pe_call (ok_is_taken g) (hr.mono (by decide)) rfl (m_is_taken g) (F_is_taken g).kp (b_is_taken g) .nil pass0 (pa_cons (pv 0) (pa_cons (pv 2) pa_nil)))) (pss_one (ps_ret pe_str)) pss_nil) (pss_cons (ps_if (pt_cmpR op_ge (pe_callB call_lenD rfl (fr_len g) (by decide +kernel) (pa_cons (pe_fld (pv 0) rfl) pa_nil)) (pe_gI rfl (i_MOST_SENSORS g)) (nomark _)) (pss_one (ps_ret pe_str)) pss_nil) (pss_cons (ps_dput (hu_of hr) (pe_fld (pv 0) rfl) (pv 2) (pe_ix ix_list (pv 1) pe_int (fun _ _ => rfl)) rfl) (pss_one (ps_ret pe_str)))))), ?_⟩)
  · obtain ⟨L, s, pss, ar, n, v, rfl, _⟩ := h; rfl
  · obtain ⟨L, s, pss, ar, n, v, rfl, ha, hn, hv, lv, k⟩ := h
    have hh := lv.hat
    obtain ⟨dx, hH⟩ := hh.h
    have fs := lv.wf.few.fs
    have ed : does s (.sensor n v) = if taken s n = true then (s, no "name") else if 4 ≤ s.sensors.length then (s, no "many") else ({ s with sensors := s.sensors ++ [(n, v)] }, Hr01.ok) := rfl
    rw [ed] at k
    refine ⟨_, rfl, ar, _, _, _, rfl, rfl, SqL.of ha, atI_nat (j := 0) rfl, ?_⟩
    refine ⟨_, rfl, _, rfl, L, s, n, rfl, hh, lv.wf, _, rfl, ?_⟩
    cases e : taken s n with
    | true =>
      rw [if_pos e] at k
      refine iteT ?_
      rw [no_S "name" "no name"]
      exact k.same lv rfl
    | false =>
      rw [if_neg (by rw [e]; exact Bool.false_ne_true)] at k
      refine iteF ⟨_, rfl, L.h, _, dx, _, _, rfl, hH, cl_House g, na_House_sensors g, lk_House_sensors .., L.ds, _, rfl, lv.opn.ds, ?_⟩
      refine ⟨_, _, rfl, rfl, _, rfl, ?_⟩
      have el : (sensK s.sensors).length = s.sensors.length := List.length_map _
      rw [el]
      by_cases c : 4 ≤ s.sensors.length
      · rw [if_pos c] at k
        rw [decide_eq_true (by omega : (4 : Int) ≤ (s.sensors.length : Nat))]
        refine iteT ?_
        rw [no_S "many" "no many"]
        exact k.same lv rfl
      · rw [if_neg c] at k
        rw [decide_eq_false (by omega : ¬ (4 : Int) ≤ (s.sensors.length : Nat))]
        refine iteF ⟨_, rfl, ar, _, _, _, rfl, rfl, SqL.of ha, atI_nat (j := 1) rfl, ?_⟩
        refine ⟨_, rfl, L.h, _, dx, _, _, rfl, hH, cl_House g, na_House_sensors g, lk_House_sensors .., ?_⟩
        refine ⟨_, rfl, L.ds, _, rfl, DPut.k (k := .inr (S n)) lv.opn.ds (by rw [el, sizeLine_eq]; omega), ?_⟩
        rw [putS_new (taken_not e).1, S_of]
        exact k.sens rfl lv (lv.wf.addS hn e c hv)
def sp_set_sensor (K : PySem.W.Frag) : Sp := fun vs H Q _ => ∃ (L : Lay) (s : House) (pss : List (List Nat)) (ar : Addr) (n : Bytes) (v : Nat), vs = [.ref L.h, .ref ar] ∧ H ar = some (.lst [vS n, .int (v : Nat)]) ∧ v ≤ 999 ∧ Live K H L s pss ∧ Did K L H Q (does s (.set n v))
theorem sc_set_sensor : FnScope ["house", "arguments", "name"] ["house", "arguments"] (defScope s_set_sensor) := ⟨rfl, rfl, rfl, by decide +kernel, rfl, by decide +kernel, by decide +kernel⟩
theorem ok_set_sensor (g : Good w K mg) : FnOk P w K mg base CX0 2 (He.ga K "set_sensor") (fdA K (He.ga K "set_sensor")) ["house", "arguments"] (sp_set_sensor K) := by
  refine (F_set_sensor g).ok sc_set_sensor (fun vs H Q E h => ?_) (fun cdv A outer s0 H vs Q E hr h => ⟨_, PSs.nox (pss_cons (ps_set (i := 2) sc_set_sensor.nd rfl (Or.inl rfl) (pe_ix ix_list (pv 1) pe_int (fun _ _ => rfl))) (pss_cons (ps_if (pt_cmp (pc_dnotin (hu_of hr) (pv 2) (pe_fld (pv 0) rfl))) (pss_one (ps_ret pe_str)) pss_nil) (pss_cons (ps_dput (hu_of hr) (pe_fld (pv 0) rfl) (pv 2) (pe_ix ix_list (pv 1) pe_int (fun _ _ => rfl)) rfl) (pss_one (ps_ret pe_str))))), ?_⟩)
  · obtain ⟨L, s, pss, ar, n, v, rfl, _⟩ := h; rfl
  · obtain ⟨L, s, pss, ar, n, v, rfl, ha, hv, lv, k⟩ := h
    have hh := lv.hat
    obtain ⟨dx, hH⟩ := hh.h
    have fs := lv.wf.few.fs
    have ed : does s (.set n v) = if isSensor s n = false then (s, no "sensor") else (setSensor s n v, Hr01.ok) := rfl
    rw [ed] at k
    have el : (sensK s.sensors).length = s.sensors.length := List.length_map _
    refine ⟨_, rfl, ar, _, _, _, rfl, rfl, SqL.of ha, atI_nat (j := 0) rfl, ?_⟩
    refine ⟨_, rfl, _, rfl, L.h, _, dx, _, _, rfl, hH, cl_House g, na_House_sensors g, lk_House_sensors .., L.ds, _, rfl, dget_s hh n, _, rfl, ?_⟩
    rw [sens_some]
    cases e : isSensor s n with
    | false =>
      rw [if_pos e] at k
      refine iteT ?_
      rw [no_S "sensor" "no sensor"]
      exact k.same lv rfl
    | true =>
      rw [if_neg (by rw [e]; exact fun z => nomatch z)] at k
      refine iteF ⟨_, rfl, ar, _, _, _, rfl, rfl, SqL.of ha, atI_nat (j := 1) rfl, ?_⟩
      refine ⟨_, rfl, L.h, _, dx, _, _, rfl, hH, cl_House g, na_House_sensors g, lk_House_sensors .., ?_⟩
      refine ⟨_, rfl, L.ds, _, rfl, DPut.k (k := .inr (S n)) lv.opn.ds (by rw [el, sizeLine_eq]; omega), ?_⟩
      rw [putS_old e, S_of]
      exact k.sens rfl lv (lv.wf.setS hv)
def sp_move_by_hand (K : PySem.W.Frag) : Sp := fun vs H Q _ => ∃ (L : Lay) (s : House) (pss : List (List Nat)) (ar : Addr) (n : Bytes) (v : Nat), vs = [.ref L.h, .ref ar] ∧ H ar = some (.lst [vS n, .int (v : Nat)]) ∧ v ≤ 999 ∧ Live K H L s pss ∧ Did K L H Q (does s (.hand n v))
theorem sc_move_by_hand : FnScope ["house", "arguments", "name", "thing"] ["house", "arguments"] (defScope s_move_by_hand) := ⟨rfl, rfl, rfl, by decide +kernel, rfl, by decide +kernel, by decide +kernel⟩
theorem ok_move_by_hand (g : Good w K mg) : FnOk P w K mg base CX0 2 (He.ga K "move_by_hand") (fdA K (He.ga K "move_by_hand")) ["house", "arguments"] (sp_move_by_hand K) := by
  refine (F_move_by_hand g).ok sc_move_by_hand (fun vs H Q E h => ?_) (fun cdv A outer s0 H vs Q E hr h => ⟨_, PSs.nox (pss_cons (ps_set (i := 2) sc_move_by_hand.nd rfl (Or.inl rfl) (pe_ix ix_list (pv 1) pe_int (fun _ _ => rfl))) (pss_cons (ps_if (pt_cmp (pc_dnotin (hu_of hr) (pv 2) (pe_fld (pv 0) rfl))) (pss_one (ps_ret pe_str)) pss_nil) (pss_cons (ps_set (i := 3) sc_move_by_hand.nd rfl (Or.inl rfl) (pe_dget (hu_of hr) (pe_fld (pv 0) rfl) (pv 2) (fun _ _ => rfl))) (pss_cons (ps_fld (pv 3) (pe_ix ix_list (pv 1) pe_int (fun _ _ => rfl)) rfl) (pss_cons (ps_if (pt_not (pt_val (pe_fld (pv 3) rfl))) (pss_cons (ps_fld (pv 3) (pe_ix ix_list (pv 1) pe_int (fun _ _ => rfl)) rfl) (pss_one (ps_fld (pv 3) (pe_tup (pa_cons pe_str pa_nil)) rfl))) pss_nil) (pss_one (ps_ret pe_str))))))), ?_⟩)
  · obtain ⟨L, s, pss, ar, n, v, rfl, _⟩ := h; rfl
  · obtain ⟨L, s, pss, ar, n, v, rfl, ha, hv, lv, k⟩ := h
    have hh := lv.hat
    obtain ⟨dx, hH⟩ := hh.h
    have ed : does s (.hand n v) = Hr01.onThing s n fun x => (withThing s (if x.hears then { become s.clock x v with want := v, by_ := .hand } else become s.clock x v), Hr01.ok) := rfl
    rw [ed] at k
    have eh : (("hand" : String) : Str) = S (ascii "hand") := S_of "hand"
    refine ⟨_, rfl, ar, _, _, _, rfl, rfl, SqL.of ha, atI_nat (j := 0) rfl, ?_⟩
    refine ⟨_, rfl, _, rfl, L.h, _, dx, _, _, rfl, hH, cl_House g, na_House_things g, lk_House_things .., L.dt, _, rfl, dget_t hh n, _, rfl, ?_⟩
    rw [things_some hh lv.wf.names]
    cases e : thingOf s n with
    | none =>
      rw [on_none e] at k
      refine iteT ?_
      rw [no_S "thing" "no thing"]
      exact k.same lv rfl
    | some x =>
      rw [on_some e] at k
      obtain ⟨en, i, l, hx, hl, tx, dg⟩ := thing_at hh lv.wf.names e
      have ox := lv.wf.to x (List.mem_of_getElem? hx)
      obtain ⟨dy, o, hv', q1, q2, q3⟩ := tx
      refine iteF ⟨_, rfl, L.h, _, dx, _, _, rfl, hH, cl_House g, na_House_things g, lk_House_things .., _, rfl, L.dt, _, rfl, dg, ?_⟩
      refine ⟨_, rfl, ar, _, _, _, rfl, rfl, SqL.of ha, atI_nat (j := 1) rfl, ?_⟩
      refine ⟨_, rfl, l.a, _, dy, _, rfl, q1, cl_Thing g, na_Thing_value g, (by show 7 < 1000; decide), ?_⟩
      rw [pt_Thing_value]
      refine ⟨_, rfl, l.a, _, dy, _, _, rfl, upd_same, cl_Thing g, na_Thing_deaf g, lk_Thing_deaf .., _, rfl, ?_⟩
      have nar : ar ≠ l.a := ne_of ha q1 (by intro z; cases z)
      cases c : x.hears with
      | true =>
        rw [if_pos c] at k
        refine iteT ⟨_, rfl, ar, _, _, _, rfl, rfl, SqL.of ((upd_ne nar).trans ha), atI_nat (j := 1) rfl, ?_⟩
        refine ⟨_, rfl, l.a, _, dy, _, rfl, upd_same, cl_Thing g, na_Thing_target g, (by show 7 < 1000; decide), ?_⟩
        rw [pt_Thing_target]
        refine ⟨by show 1 ≤ sizeLine; decide, fun q hq => ?_⟩
        have nq : l.a ≠ q := fun z => by rw [← z, upd_same] at hq; cases hq
        refine ⟨_, rfl, l.a, _, dy, _, rfl, (upd_ne nq).trans upd_same, cl_Thing g, na_Thing_origin g, (by show 7 < 1000; decide), ?_⟩
        rw [pt_Thing_origin, S_of]
        refine k.thing rfl lv hx hl rfl (((Fr.at1 (a := l.a)).trans Fr.at1).trans ((Fr.new hq).trans Fr.at1)) ⟨dy, q, hv', ?_, ?_, q3.quiet (Quiet.at1 (((Fr.at1 (a := l.a)).trans Fr.at1).trans ((Fr.new hq).trans Fr.at1)) q1 soft_thing)⟩ ⟨hv, hv, fun n z => (by cases z), ox.hold, become_was ox.was hv⟩ fun ps z => (z.become (v := v) (y := become s.clock x v) rfl rfl).keep rfl rfl
        · rw [upd_same]
          show _ = some (HO.ins _ dy (fsThing (v : Nat) (v : Nat) q (!x.hears) hv' (l.born : Nat) l.pa))
          rw [c]
        · rw [upd_ne nq.symm, upd_same, eh]; rfl
      | false =>
        rw [if_neg (by rw [c]; exact Bool.false_ne_true)] at k
        rw [S_of]
        have f : Fr (At l.a) H _ := Fr.at1 (a := l.a) (o := .ins (cThing K) dy (fsThing (v : Nat) (x.want : Nat) o (!false) hv' (l.born : Nat) l.pa))
        have qq := Quiet.at1 f q1 soft_thing
        refine iteF (k.thing rfl lv hx hl rfl f ⟨dy, o, hv', ?_, qq.t _ _ q2, q3.quiet qq⟩ ⟨hv, ox.want, ox.by_, ox.hold, become_was ox.was hv⟩ fun ps z => z.become (v := v) (y := become s.clock x v) rfl rfl)
        rw [upd_same]
        show _ = some (HO.ins _ dy (fsThing (v : Nat) (x.want : Nat) o (!x.hears) hv' (l.born : Nat) l.pa))
        rw [c]
def sp_hold_thing (K : PySem.W.Frag) : Sp := fun vs H Q _ => ∃ (L : Lay) (s : House) (pss : List (List Nat)) (ar : Addr) (n : Bytes) (v p m : Nat), vs = [.ref L.h, .ref ar] ∧ H ar = some (.lst [vS n, .int (v : Nat), .int (p : Nat), .int (m : Nat)]) ∧ v ≤ 999 ∧ p ≤ 9 ∧ m ≤ 999 ∧ s.clock ≤ 90000 ∧ Live K H L s pss ∧ Did K L H Q (does s (.hold n v p m))
theorem sc_hold_thing : FnScope ["house", "arguments", "name", "end"] ["house", "arguments"] (defScope s_hold_thing) := ⟨rfl, rfl, rfl, by decide +kernel, rfl, by decide +kernel, by decide +kernel⟩
theorem ok_text (n : Nat) : (S [111, 107, 32]) ++ S (decimal n) = S (told [Hr01.ok, decimal n]) := by rw [S_append]; rfl
theorem fsHold_ne {v p e : Int} {v' t : Int} {o : Addr} {d : Bool} {h : V} {b : Int} {pa : Addr} {c dx c' dx' : Addr} : HO.ins c dx (fsHold v p e) ≠ .ins c' dx' (fsThing v' t o d h b pa) := fun z => absurd (congrArg List.length (HO.ins.inj z).2.2) (by simp [fsThing, fsHold])
theorem ok_hold_thing (g : Good w K mg) : FnOk P w K mg base CX0 3 (He.ga K "hold_thing") (fdA K (He.ga K "hold_thing")) ["house", "arguments"] (sp_hold_thing K) := by
  refine (F_hold_thing g).ok sc_hold_thing (fun vs H Q E h => ?_) (fun cdv A outer s0 H vs Q E hr h => ⟨_, PSs.nox (pss_cons (ps_set (i := 2) sc_hold_thing.nd rfl (Or.inl rfl) (pe_ix ix_list (pv 1) pe_int (fun _ _ => rfl))) (pss_cons (ps_if (pt_cmp (pc_dnotin (hu_of hr) (pv 2) (pe_fld (pv 0) rfl))) (pss_one (ps_ret pe_str)) pss_nil) (pss_cons (ps_set (i := 3) sc_hold_thing.nd rfl (Or.inl rfl) (pe_op op_add (pe_fld (pv 0) rfl) (pe_ix ix_list (pv 1) pe_int (fun _ _ => rfl)))) (pss_cons (ps_fld (pe_dget (hu_of hr) (pe_fld (pv 0) rfl) (pv 2) (fun _ _ => rfl)) (pe_make (mk_Hold g) (ok_Hold_init g) (hr.mono (by decide)) rfl (m_Hold g) (b_Hold_init g) .nil pass0 (pa_cons (pe_ix ix_list (pv 1) pe_int (fun _ _ => rfl)) (pa_cons (pe_ix ix_list (pv 1) pe_int (fun _ _ => rfl)) (pa_cons (pv 3) pa_nil)))) rfl) (pss_one (ps_ret (pe_joined (.cons pe_str (.cons (pe_fmt (pv 3)) .nil))))))))), ?_⟩)
  · obtain ⟨L, s, pss, ar, n, v, p, m, rfl, _⟩ := h; rfl
  · obtain ⟨L, s, pss, ar, n, v, p, m, rfl, ha, hv, hp, hm, hc, lv, k⟩ := h
    have hh := lv.hat
    obtain ⟨dx, hH⟩ := hh.h
    have ed : does s (.hold n v p m) = Hr01.onThing s n fun x => (withThing s { x with hold := some (v, p, s.clock + m) }, told [Hr01.ok, decimal (s.clock + m)]) := rfl
    rw [ed] at k
    refine ⟨_, rfl, ar, _, _, _, rfl, rfl, SqL.of ha, atI_nat (j := 0) rfl, ?_⟩
    refine ⟨_, rfl, _, rfl, L.h, _, dx, _, _, rfl, hH, cl_House g, na_House_things g, lk_House_things .., L.dt, _, rfl, dget_t hh n, _, rfl, ?_⟩
    rw [things_some hh lv.wf.names]
    cases e : thingOf s n with
    | none =>
      rw [on_none e] at k
      refine iteT ?_
      rw [no_S "thing" "no thing"]
      exact k.same lv rfl
    | some x =>
      rw [on_some e] at k
      obtain ⟨en, i, l, hx, hl, tx, dg⟩ := thing_at hh lv.wf.names e
      have ox := lv.wf.to x (List.mem_of_getElem? hx)
      have tx0 := tx
      obtain ⟨dy, o, hv', q1, q2, q3⟩ := tx
      refine iteF ⟨_, rfl, L.h, _, dx, _, _, rfl, hH, cl_House g, na_House_clock g, lk_House_clock .., ?_⟩
      refine ⟨_, rfl, ar, _, _, _, rfl, rfl, SqL.of ha, atI_nat (j := 3) rfl, _, _, rfl, rfl, ?_⟩
      refine ⟨_, rfl, ar, _, _, _, rfl, rfl, SqL.of ha, atI_nat (j := 1) rfl, ?_⟩
      refine ⟨_, rfl, ar, _, _, _, rfl, rfl, SqL.of ha, atI_nat (j := 2) rfl, ?_⟩
      refine ⟨_, rfl, fun b db nb ndb nn => ?_⟩
      refine ⟨b, db, _, _, _, rfl, upd_same, fun H2 hb f2 => ⟨rfl, ?_⟩⟩
      have sm : Same H H2 := made_same nb ndb f2
      have dg2 : DGet H2 L.dt (vS n) (some (.ref l.a)) := by
        have := things_val (hh.same sm).lt lv.nd n
        rw [e] at this
        obtain ⟨_, j, l', hj, hl', hv2⟩ := this
        have ej := nodup_at lv.nd (a := x.name) (b := x.name) (by rw [List.getElem?_map, hx]; rfl) (by rw [List.getElem?_map, hj]; rfl) rfl
        subst ej
        rw [hl] at hl'; cases hl'
        rw [← hv2]
        exact dget_t (hh.same sm) n
      refine ⟨_, rfl, L.h, _, dx, _, _, rfl, sm _ _ hH, cl_House g, na_House_things g, lk_House_things .., _, rfl, L.dt, _, rfl, dg2, ?_⟩
      refine ⟨l.a, _, dy, _, rfl, sm _ _ q1, cl_Thing g, na_Thing_hold g, (by show 7 < 1000; decide), ?_⟩
      rw [pt_Thing_hold]
      have q1' := sm _ _ q1
      have f : Fr (At l.a) H _ := (Fr.of_same sm).trans (Fr.at1 (a := l.a) (o := .ins (cThing K) dy (fsThing (x.is : Nat) (x.want : Nat) o (!x.hears) (.ref b) (l.born : Nat) l.pa)))
      have qq : Quiet H _ := (Quiet.of_same sm).trans (Quiet.upd1 (o' := .ins (cThing K) dy (fsThing (x.is : Nat) (x.want : Nat) o (!x.hears) (.ref b) (l.born : Nat) l.pa)) q1' soft_thing)
      have ec : ((s.clock : Nat) : Int) + ((m : Nat) : Int) = ((s.clock + m : Nat) : Int) := by omega
      rw [ec] at hb
      have e3 : (("ok " : String) : Str) = S [111, 107, 32] := S_of "ok "
      refine ⟨_, rfl, by rw [e3]; show (Str.empty ++ S [111, 107, 32]).length ≤ sizeLine; decide, _, rfl, .inr ⟨((s.clock + m : Nat) : Int), congrArg V.int ec, log_small (by omega), _, rfl, ?_, ?_⟩⟩
      · rw [e3, dec_S]
        show (S ([111, 107, 32] : Bytes) ++ S (decimal (s.clock + m))).length ≤ sizeLine
        rw [S_append, S_len, List.length_append, sizeLine_eq]
        have := dec_len (n := s.clock + m) (k := 6) (by decide) (by omega)
        simp only [List.length_cons, List.length_nil]; omega
      · rw [e3, dec_S]
        show Q (.str (S ([111, 107, 32] : Bytes) ++ S (decimal (s.clock + m)))) _
        rw [ok_text]
        refine k.thing rfl lv hx hl rfl f ⟨dy, o, .ref b, upd_same, qq.t _ _ q2, b, db, rfl, ?_⟩ ⟨ox.is, ox.want, ox.by_, fun h z => (by cases z; exact ⟨hv, hp, by show s.clock + m ≤ 99999; omega⟩), ox.was⟩ fun ps z => z.keep rfl rfl
        rw [upd_ne (ne_of hb q1' fsHold_ne)]
        exact hb
def sp_free_thing (K : PySem.W.Frag) : Sp := fun vs H Q _ => ∃ (L : Lay) (s : House) (pss : List (List Nat)) (ar : Addr) (n : Bytes), vs = [.ref L.h, .ref ar] ∧ H ar = some (.lst [vS n]) ∧ Live K H L s pss ∧ Did K L H Q (does s (.free n))
theorem sc_free_thing : FnScope ["house", "arguments", "name", "thing"] ["house", "arguments"] (defScope s_free_thing) := ⟨rfl, rfl, rfl, by decide +kernel, rfl, by decide +kernel, by decide +kernel⟩
theorem ok_free_thing (g : Good w K mg) : FnOk P w K mg base CX0 2 (He.ga K "free_thing") (fdA K (He.ga K "free_thing")) ["house", "arguments"] (sp_free_thing K) := by
  refine (F_free_thing g).ok sc_free_thing (fun vs H Q E h => ?_) (fun cdv A outer s0 H vs Q E hr h => ⟨_, PSs.nox (pss_cons (ps_set (i := 2) sc_free_thing.nd rfl (Or.inl rfl) (pe_ix ix_list (pv 1) pe_int (fun _ _ => rfl))) (pss_cons (ps_if (pt_cmp (pc_dnotin (hu_of hr) (pv 2) (pe_fld (pv 0) rfl))) (pss_one (ps_ret pe_str)) pss_nil) (pss_cons (ps_set (i := 3) sc_free_thing.nd rfl (Or.inl rfl) (pe_dget (hu_of hr) (pe_fld (pv 0) rfl) (pv 2) (fun _ _ => rfl))) (pss_cons (ps_if (pt_not (pt_val (pe_call (ok_hold_lasts g) (hr.mono (by decide)) rfl (m_hold_lasts g) (F_hold_lasts g).kp (b_hold_lasts g) .nil pass0 (pa_cons (pv 3) (pa_cons (pe_fld (pv 0) rfl) pa_nil))))) (pss_one (ps_ret pe_str)) pss_nil) (pss_cons (ps_fld (pv 3) pe_non rfl) (pss_one (ps_ret pe_str))))))), ?_⟩)
  · obtain ⟨L, s, pss, ar, n, rfl, _⟩ := h; rfl
  · obtain ⟨L, s, pss, ar, n, rfl, ha, lv, k⟩ := h
    have hh := lv.hat
    obtain ⟨dx, hH⟩ := hh.h
    have ed : does s (.free n) = Hr01.onThing s n fun x => match x.hold with
      | some h => if s.clock < h.2.2 then (withThing s { x with hold := none }, Hr01.ok) else (s, no "hold")
      | none => (s, no "hold") := rfl
    rw [ed] at k
    refine ⟨_, rfl, ar, _, _, _, rfl, rfl, SqL.of ha, atI_nat (j := 0) rfl, ?_⟩
    refine ⟨_, rfl, _, rfl, L.h, _, dx, _, _, rfl, hH, cl_House g, na_House_things g, lk_House_things .., L.dt, _, rfl, dget_t hh n, _, rfl, ?_⟩
    rw [things_some hh lv.wf.names]
    cases e : thingOf s n with
    | none =>
      rw [on_none e] at k
      refine iteT ?_
      rw [no_S "thing" "no thing"]
      exact k.same lv rfl
    | some x =>
      rw [on_some e] at k
      obtain ⟨en, i, l, hx, hl, tx, dg⟩ := thing_at hh lv.wf.names e
      have ox := lv.wf.to x (List.mem_of_getElem? hx)
      have tx0 := tx
      obtain ⟨dy, o, hv', q1, q2, q3⟩ := tx
      refine iteF ⟨_, rfl, L.h, _, dx, _, _, rfl, hH, cl_House g, na_House_things g, lk_House_things .., _, rfl, L.dt, _, rfl, dg, ?_⟩
      refine ⟨_, rfl, _, rfl, L.h, _, dx, _, _, rfl, hH, cl_House g, na_House_clock g, lk_House_clock .., l, x, s.clock, rfl, tx0, _, rfl, ?_⟩
      cases c : lasts s.clock x.hold with
      | false =>
        have ek : (match x.hold with
          | some h => if s.clock < h.2.2 then (withThing s { x with hold := none }, Hr01.ok) else (s, no "hold")
          | none => (s, no "hold")) = (s, no "hold") := by
          cases eh : x.hold with
          | none => rfl
          | some h => rw [eh] at c; exact if_neg (of_decide_eq_false c)
        refine iteT ?_
        rw [no_S "hold" "no hold"]
        exact k.same lv ek
      | true =>
        have ek : (match x.hold with
          | some h => if s.clock < h.2.2 then (withThing s { x with hold := none }, Hr01.ok) else (s, no "hold")
          | none => (s, no "hold")) = (withThing s { x with hold := none }, Hr01.ok) := by
          cases eh : x.hold with
          | none => rw [eh] at c; cases c
          | some h => rw [eh] at c; exact if_pos (of_decide_eq_true c)
        refine iteF ⟨_, rfl, l.a, _, dy, _, rfl, q1, cl_Thing g, na_Thing_hold g, (by show 7 < 1000; decide), ?_⟩
        rw [pt_Thing_hold, S_of]
        have qq : Quiet H _ := Quiet.upd1 (o' := .ins (cThing K) dy (fsThing (x.is : Nat) (x.want : Nat) o (!x.hears) .non (l.born : Nat) l.pa)) q1 soft_thing
        exact k.thing ek lv hx hl rfl Fr.at1 ⟨dy, o, .non, upd_same, qq.t _ _ q2, rfl⟩ ⟨ox.is, ox.want, ox.by_, fun h z => (by cases z), ox.was⟩ fun ps z => z.keep rfl rfl
end
end Hw
end

/-! ## part S8 -/
section
set_option Elab.async false
set_option linter.all false
set_option maxRecDepth 100000
set_option maxHeartbeats 2000000
namespace Hw
open PySem PySem.Spec PyProof.Rows L2
open Hr01 (Bytes Words Term Sum Cond ascii isName num? term? digit small sum? parted Cmd Rule cmd? Thing House By byText thingsIn thingsOf valueOf termValue sumValue isSensor thingOf ruleOf leaves joined decimal told listed termText sumText condText wanted clamped looked become wasAt minute minutes taken withThing setSensor does no)
/-! ### a new device -/
theorem valV_none_things {K : PySem.W.Frag} {H : Hp} {L : Lay} {s : House} (h : HouseAt K H L s) (N : Names s) {n : Bytes} (e : n ∉ s.things.map (·.name)) : valV (thingsK L.ts s.things) (.inr (S n)) = none := by
  have := things_some h N n
  cases e2 : valV (thingsK L.ts s.things) (.inr (S n)) with
  | none => rfl
  | some v => rw [e2] at this; exact absurd (thingOf_mem.mp this.symm) e
theorem valV_none_rules {K : PySem.W.Frag} {H : Hp} {L : Lay} {s : House} (h : HouseAt K H L s) (N : (s.rules.map (·.name)).Nodup) {n : Bytes} (e : n ∉ s.rules.map (·.name)) : valV (rulesK L.rs s.rules) (.inr (S n)) = none := by
  have := rules_some h N n
  cases e2 : valV (rulesK L.rs s.rules) (.inr (S n)) with
  | none => rfl
  | some v => rw [e2] at this; exact absurd (ruleOf_mem.mp this.symm) e
theorem thingsK_snoc {ts : List TL} {xs : List Thing} (h : ts.length = xs.length) (l : TL) (x : Thing) : thingsK (ts ++ [l]) (xs ++ [x]) = thingsK ts xs ++ [(.inr (S x.name), .ref l.a)] := by
  unfold thingsK; rw [List.zipWith_append h]; rfl
theorem rulesK_snoc {ts : List Addr} {xs : List Rule} (h : ts.length = xs.length) (l : Addr) (x : Rule) : rulesK (ts ++ [l]) (xs ++ [x]) = rulesK ts xs ++ [(.inr (S x.name), .ref l)] := by
  unfold rulesK; rw [List.zipWith_append h]; rfl
theorem nodup_snoc {α : Type} {l : List α} {a : α} (h : l.Nodup) (n : a ∉ l) : (l ++ [a]).Nodup := List.nodup_append.mpr ⟨h, by simp, fun x hx y hy => by simp at hy; subst hy; exact fun z => n (z ▸ hx)⟩
theorem WF.addT {s : House} (h : WF s) {n : Bytes} {v : Nat} (hn : isName n = true) (ht : taken s n = false) (hl : ¬ 4 ≤ s.things.length) (hv : v ≤ 999) : WF { s with things := s.things ++ [⟨n, v, v, .none_, true, none, [(s.clock, v)]⟩] } := by
  obtain ⟨_, h1, h2, _⟩ := taken_not ht
  have nd := List.nodup_append.mp h.names.nd
  have kn : ∀ x, known s x → known { s with things := s.things ++ [⟨n, v, v, .none_, true, none, [(s.clock, v)]⟩] } x := fun x z => by
    rcases z with z | z
    · exact .inl z
    · exact .inr (by show x ∈ (s.things ++ [_]).map (fun y : Thing => y.name); rw [List.map_append]; exact List.mem_append_left _ z)
  refine ⟨⟨h.names.sn, fun x hx => ?_, ?_⟩, h.rn, ⟨h.few.fs, ?_, h.few.fr⟩, fun r hr x hx => kn x (h.kc r hr x hx), fun r hr x hx => kn x (h.kv r hr x hx), h.ro, h.sv, fun x hx => ?_⟩
  · rcases List.mem_append.mp hx with hx | hx
    · exact h.names.tn x hx
    · simp at hx; subst hx; exact hn
  · show (s.sensors.map (·.1) ++ (s.things ++ [_]).map (fun y : Thing => y.name)).Nodup
    rw [List.map_append, ← List.append_assoc]
    refine nodup_snoc h.names.nd fun z => ?_
    rcases List.mem_append.mp z with z | z
    · exact h1 z
    · exact h2 z
  · show (s.things ++ [_]).length ≤ 4
    rw [List.length_append]; simp; omega
  · rcases List.mem_append.mp hx with hx | hx
    · exact h.to x hx
    · simp at hx; subst hx; exact ⟨hv, hv, fun n z => (by cases z), fun h z => (by cases z), fun p hp => (by simp at hp; rw [hp]; exact hv)⟩
theorem paired_end {α β : Type} {F : α → β → Prop} {as : List α} {xs : List β} {a : α} {x : β} (h : Paired F as xs) (r : F a x) : Paired F (as ++ [a]) (xs ++ [x]) := paired_append h (.cons r .nil)
theorem get_snoc {α : Type} {l : List α} {a z : α} {i : Nat} (h : (l ++ [a])[i]? = some z) : (i < l.length ∧ l[i]? = some z) ∨ (i = l.length ∧ z = a) := by
  by_cases c : i < l.length
  · rw [List.getElem?_append_left c] at h; exact .inl ⟨c, h⟩
  · rw [List.getElem?_append_right (by omega)] at h
    have : i - l.length = 0 := by
      cases e : i - l.length with
      | zero => rfl
      | succ k => rw [e] at h; cases h
    rw [this] at h
    cases h
    exact .inr ⟨by omega, rfl⟩
section
variable {K : PySem.W.Frag} {H H' : Hp} {L : Lay} {s : House} {pss : List (List Nat)}
/-- a device at the end -/
theorem Live.addT (v : Live K H L s pss) {l : TL} {x : Thing} (sm : Same H H') (na : H l.a = none) (np : H l.pa = none) (hd : l.a ≠ l.pa) (tx : ThingAt K H' l x) (hp : H' l.pa = some (.lst [])) (wf : WF { s with things := s.things ++ [x] }) (wo : WasOk s.clock l.born [] x) :
    Live K (upd H' L.dt (.dK (thingsK (L.ts ++ [l]) (s.things ++ [x])))) { L with ts := L.ts ++ [l] } { s with things := s.things ++ [x] } (pss ++ [[]]) := by
  have hh := v.hat.same sm
  have hdt := sm _ _ v.opn.dt
  have q : Quiet H' (upd H' L.dt (.dK (thingsK (L.ts ++ [l]) (s.things ++ [x])))) := Quiet.upd1 hdt soft_dK
  have f : Fr (At L.dt) H' (upd H' L.dt (.dK (thingsK (L.ts ++ [l]) (s.things ++ [x])))) := Fr.at1
  have ni : ∀ a c dx fs, H' a = some (.ins c dx fs) → ¬ At L.dt a := fun a c dx fs e z => ne_of e hdt (by intro z; cases z) z
  have ds := f _ _ (sm _ _ v.opn.ds) v.sep.d1
  have dr := f _ _ (sm _ _ v.opn.dr) v.sep.d3.symm
  obtain ⟨_, _, _, _, _, _, _, _, _, e0⟩ := tx.there
  refine ⟨⟨?_, .inl ds, .inl upd_same, .inl dr, ?_, ?_⟩, ⟨?_, ?_, v.sep.rs, v.sep.d1, v.sep.d2, v.sep.d3⟩, ⟨ds, upd_same, dr⟩, wf, ?_, ?_⟩
  · obtain ⟨dx, e⟩ := hh.h; exact ⟨dx, f _ _ e (ni _ _ _ _ e)⟩
  · refine paired_end (paired_map2 hh.ts fun j b z h1 h2 h3 => ?_) (tx.quiet q (f.eq e0 (ni _ _ _ _ e0)))
    obtain ⟨_, _, _, _, _, _, _, _, _, e3⟩ := h3.there
    exact h3.quiet q (f.eq e3 (ni _ _ _ _ e3))
  · refine paired_map2 hh.rs fun j b z h1 h2 h3 => ?_
    obtain ⟨_, _, _, _, _, _, _, _, e3⟩ := h3.there
    exact h3.quiet q (f.eq e3 (ni _ _ _ _ e3))
  · show ((L.ts ++ [l]).map (·.a)).Nodup
    rw [List.map_append]
    refine nodup_snoc v.sep.ts fun z => ?_
    obtain ⟨c, dx, fs, e, _⟩ := v.hat.mt_ins (.inl z)
    rw [na] at e; cases e
  · show ((L.ts ++ [l]).map (·.pa)).Nodup
    rw [List.map_append]
    refine nodup_snoc v.sep.ps fun z => ?_
    obtain ⟨xs, e⟩ := v.past.pa_lst z
    rw [np] at e; cases e
  · refine paired_end (Paired.mapP v.past fun m ps e => f _ _ (sm _ _ e) (ne_of (sm _ _ e) hdt (by intro z; cases z))) ?_
    exact f _ _ hp (ne_of hp hdt (by intro z; cases z))
  · refine ⟨by rw [List.length_append, v.hist.1]; show _ = (s.things ++ [x]).length; rw [List.length_append]; rfl, fun i m ps z h1 h2 h3 => ?_⟩
    have lt := v.hat.lt
    have lp := v.hist.1
    rcases get_snoc h1 with ⟨c1, h1⟩ | ⟨c1, rfl⟩ <;> rcases get_snoc h2 with ⟨c2, h2⟩ | ⟨c2, rfl⟩ <;> rcases get_snoc (l := s.things) h3 with ⟨c3, h3⟩ | ⟨c3, rfl⟩ <;> first | omega | exact v.hist.2 i m ps z h1 h2 h3 | exact wo
end
section
variable {P : Program} {w : World} {K : PySem.W.Frag} {mg : Str → Option Value} {base : Heap}
def sp_add_thing (K : PySem.W.Frag) : Sp := fun vs H Q _ => ∃ (L : Lay) (s : House) (pss : List (List Nat)) (ar : Addr) (n : Bytes) (v : Nat), vs = [.ref L.h, .ref ar] ∧ H ar = some (.lst [vS n, .int (v : Nat)]) ∧ isName n = true ∧ v ≤ 999 ∧ Live K H L s pss ∧ Did K L H Q (does s (.thing n v))
theorem sc_add_thing : FnScope ["house", "arguments", "name"] ["house", "arguments"] (defScope s_add_thing) := ⟨rfl, rfl, rfl, by decide +kernel, rfl, by decide +kernel, by decide +kernel⟩
theorem ok_add_thing (g : Good w K mg) : FnOk P w K mg base CX0 3 (He.ga K "add_thing") (fdA K (He.ga K "add_thing")) ["house", "arguments"] (sp_add_thing K) := by
  refine (F_add_thing g).ok sc_add_thing (fun vs H Q E h => ?_) (fun cdv A outer s0 H vs Q E hr h => ⟨_, PSs.nox (pss_cons (ps_set (i := 2) sc_add_thing.nd rfl (Or.inl rfl) (pe_ix ix_list (pv 1) pe_int (fun _ _ => rfl))) (pss_cons (ps_if (pt_val (pe_call (ok_is_taken g) (hr.mono (by decide)) rfl (m_is_taken g) (F_is_taken g).kp (b_is_taken g) .nil pass0 (pa_cons (pv 0) (pa_cons (pv 2) pa_nil)))) (pss_one (ps_ret pe_str)) pss_nil) (pss_cons (ps_if (pt_cmpR op_ge (pe_callB call_lenD rfl (fr_len g) (by decide +kernel) (pa_cons (pe_fld (pv 0) rfl) pa_nil)) (pe_gI rfl (i_MOST_THINGS g)) (nomark _)) (pss_one (ps_ret pe_str)) pss_nil) (pss_cons (ps_dput (hu_of hr) (pe_fld (pv 0) rfl) (pv 2) (pe_make (mk_Thing g) (ok_Thing_init g) (hr.mono (by decide)) rfl (m_Thing g) (b_Thing_init g) .nil pass0 (pa_cons (pe_ix ix_list (pv 1) pe_int (fun _ _ => rfl)) (pa_cons (pe_fld (pv 0) rfl) pa_nil))) rfl) (pss_one (ps_ret pe_str)))))), ?_⟩)
  · obtain ⟨L, s, pss, ar, n, v, rfl, _⟩ := h; rfl
  · obtain ⟨L, s, pss, ar, n, v, rfl, ha, hn, hv, lv, k⟩ := h
    have hh := lv.hat
    obtain ⟨dx, hH⟩ := hh.h
    have ft := lv.wf.few.ft
    have ed : does s (.thing n v) = if taken s n = true then (s, no "name") else if 4 ≤ s.things.length then (s, no "many") else ({ s with things := s.things ++ [⟨n, v, v, .none_, true, none, [(s.clock, v)]⟩] }, Hr01.ok) := rfl
    rw [ed] at k
    have el : (thingsK L.ts s.things).length = s.things.length := thingsK_len hh.lt
    refine ⟨_, rfl, ar, _, _, _, rfl, rfl, SqL.of ha, atI_nat (j := 0) rfl, ?_⟩
    refine ⟨_, rfl, _, rfl, L, s, n, rfl, hh, lv.wf, _, rfl, ?_⟩
    cases e : taken s n with
    | true =>
      rw [if_pos e] at k
      refine iteT ?_
      rw [no_S "name" "no name"]
      exact k.same lv rfl
    | false =>
      rw [if_neg (by rw [e]; exact Bool.false_ne_true)] at k
      refine iteF ⟨_, rfl, L.h, _, dx, _, _, rfl, hH, cl_House g, na_House_things g, lk_House_things .., L.dt, _, rfl, lv.opn.dt, ?_⟩
      refine ⟨_, _, rfl, rfl, _, rfl, ?_⟩
      rw [el]
      by_cases c : 4 ≤ s.things.length
      · rw [if_pos c] at k
        rw [decide_eq_true (by omega : (4 : Int) ≤ (s.things.length : Nat))]
        refine iteT ?_
        rw [no_S "many" "no many"]
        exact k.same lv rfl
      · rw [if_neg c] at k
        rw [decide_eq_false (by omega : ¬ (4 : Int) ≤ (s.things.length : Nat))]
        refine iteF ⟨_, rfl, ar, _, _, _, rfl, rfl, SqL.of ha, atI_nat (j := 1) rfl, ?_⟩
        refine ⟨_, rfl, L.h, _, dx, _, _, rfl, hH, cl_House g, na_House_clock g, lk_House_clock .., fun b db nb ndb nn => ?_⟩
        refine ⟨b, db, _, _, rfl, upd_same, fun H2 o pa no1 np1 hb ho hpa f2 => ⟨rfl, ?_⟩⟩
        have sm : Same H H2 := made_same nb ndb f2
        have nop : ∀ {a : Addr}, upd (upd H db (.own b)) b (.ins (cThing K) db []) a = none → H a = none := fun {a} z => by
          by_cases c1 : a = b
          · rw [c1, upd_same] at z; cases z
          · rw [upd_ne c1] at z
            by_cases c2 : a = db
            · rw [c2, upd_same] at z; cases z
            · rw [upd_ne c2] at z; exact z
        have hna : valV (thingsK L.ts s.things) (.inr (S n)) = none := valV_none_things hh lv.wf.names (taken_not e).2.2.1
        refine ⟨_, rfl, L.h, _, dx, _, _, rfl, sm _ _ hH, cl_House g, na_House_things g, lk_House_things .., ?_⟩
        refine ⟨_, rfl, L.dt, _, rfl, DPut.k (k := .inr (S n)) (sm _ _ lv.opn.dt) (by rw [el, sizeLine_eq]; omega), ?_⟩
        have es := thingsK_snoc hh.lt ⟨b, pa, s.clock⟩ ⟨n, v, v, .none_, true, none, [(s.clock, v)]⟩
        rw [putK_new _ hna, S_of]
        have ek : (thingsK L.ts s.things ++ [((.inr (S n) : Key), V.ref b)]) = thingsK (L.ts ++ [⟨b, pa, s.clock⟩]) (s.things ++ [⟨n, v, v, .none_, true, none, [(s.clock, v)]⟩]) := es.symm
        rw [ek]
        refine k _ _ _ (lv.addT sm nb (nop np1) (ne_of hb hpa (by intro z; cases z)) ⟨db, o, .non, hb, ho, rfl⟩ hpa (lv.wf.addT hn e c hv) (WasOk.new ..)) rfl ?_ ?_
        · exact (Fr.of_same sm).trans (Fr.put (.inr (.inr (.inr (.inl rfl)))))
        · rintro a ((m | m | m) | m | m | m | m)
          · exact .inl (.inl (.inl m))
          · rw [show (({ L with ts := L.ts ++ [⟨b, pa, s.clock⟩] } : Lay).ts) = L.ts ++ [⟨b, pa, s.clock⟩] from rfl, List.map_append] at m
            rcases List.mem_append.mp m with m | m
            · exact .inl (.inl (.inr (.inl m)))
            · simp at m; subst m; exact .inr nb
          · exact .inl (.inl (.inr (.inr m)))
          · have m' : a ∈ (L.ts ++ [(⟨b, pa, s.clock⟩ : TL)]).map (fun l : TL => l.pa) := m
            rw [List.map_append] at m'
            rcases List.mem_append.mp m' with m | m
            · exact .inl (.inr (.inl m))
            · simp at m; subst m; exact .inr (nop np1)
          · exact .inl (.inr (.inr (.inl m)))
          · exact .inl (.inr (.inr (.inr (.inl m))))
          · exact .inl (.inr (.inr (.inr (.inr m))))
end
/-! ### rules come and go -/
theorem zip_filter {α : Type} {F : α → Rule → Prop} (ad : α → V) (n : Bytes) : ∀ {as : List α} {xs : List Rule}, Paired F as xs → ∃ as' : List α, as'.Sublist as ∧ Paired F as' (xs.filter fun r => r.name != n) ∧
    dropK (List.zipWith (fun a x => ((Sum.inr (S x.name) : Key), ad a)) as xs) (.inr (S n)) = List.zipWith (fun a x => ((Sum.inr (S x.name) : Key), ad a)) as' (xs.filter fun r => r.name != n)
  | [], [], .nil => ⟨[], .slnil, .nil, rfl⟩
  | a :: as, x :: xs, .cons r t => by
    obtain ⟨as', h1, h2, h3⟩ := zip_filter ad n t
    by_cases c : x.name = n
    · refine ⟨as', .cons _ h1, ?_, ?_⟩
      · rw [List.filter_cons, if_neg (by simp [c])]; exact h2
      · rw [List.filter_cons, if_neg (by simp [c]), ← h3]
        unfold dropK
        rw [List.zipWith_cons_cons, List.filter_cons, if_neg (by simp [c])]
    · refine ⟨a :: as', .cons₂ _ h1, ?_, ?_⟩
      · rw [List.filter_cons, if_pos (by simp [c])]; exact .cons r h2
      · rw [show (x :: xs).filter (fun r => r.name != n) = x :: xs.filter (fun r => r.name != n) by rw [List.filter_cons, if_pos (by simp [c])], List.zipWith_cons_cons, List.zipWith_cons_cons, ← h3]
        unfold dropK
        rw [List.filter_cons, if_pos (by simpa using fun z => c z)]
theorem WF.drop {s : House} (h : WF s) (n : Bytes) : WF { s with rules := s.rules.filter fun r => r.name != n } := by
  have mem : ∀ r ∈ s.rules.filter (fun r => r.name != n), r ∈ s.rules := fun r hr => (List.mem_filter.mp hr).1
  refine ⟨⟨h.names.sn, h.names.tn, h.names.nd⟩, ?_, ⟨h.few.fs, h.few.ft, Nat.le_trans (List.length_filter_le ..) h.few.fr⟩, fun r hr => h.kc r (mem r hr), fun r hr => h.kv r (mem r hr), fun r hr => h.ro r (mem r hr), h.sv, h.to⟩
  exact List.Sublist.nodup (List.Sublist.map _ List.filter_sublist) h.rn
theorem WF.addR {s : House} (h : WF s) {r : Rule} (ok : ROk r) (ht : taken s r.name = false) (hl : ¬ 6 ≤ s.rules.length) (kc : KnowsC s r.cond) (kv : KnowsS s r.value) : WF { s with rules := s.rules ++ [r] } := by
  obtain ⟨_, _, _, h3⟩ := taken_not ht
  refine ⟨⟨h.names.sn, h.names.tn, h.names.nd⟩, ?_, ⟨h.few.fs, h.few.ft, ?_⟩, fun q hq => ?_, fun q hq => ?_, fun q hq => ?_, h.sv, h.to⟩
  · show ((s.rules ++ [r]).map (·.name)).Nodup
    rw [List.map_append]
    exact nodup_snoc h.rn h3
  · show (s.rules ++ [r]).length ≤ 6
    rw [List.length_append]; simp; omega
  · rcases List.mem_append.mp hq with hq | hq
    · exact h.kc q hq
    · simp at hq; subst hq; exact kc
  · rcases List.mem_append.mp hq with hq | hq
    · exact h.kv q hq
    · simp at hq; subst hq; exact kv
  · rcases List.mem_append.mp hq with hq | hq
    · exact h.ro q hq
    · simp at hq; subst hq; exact ok
section
variable {K : PySem.W.Frag} {H H' : Hp} {L : Lay} {s : House} {pss : List (List Nat)}
theorem Live.rules (v : Live K H L s pss) {rs : List Addr} {xs : List Rule} (sm : Same H H') (p : Paired (RuleAt K H') rs xs) (nd : rs.Nodup) (wf : WF { s with rules := xs }) :
    Live K (upd H' L.dr (.dK (rulesK rs xs))) { L with rs := rs } { s with rules := xs } pss := by
  have hh := v.hat.same sm
  have hdr := sm _ _ v.opn.dr
  have q : Quiet H' (upd H' L.dr (.dK (rulesK rs xs))) := Quiet.upd1 hdr soft_dK
  have f : Fr (At L.dr) H' (upd H' L.dr (.dK (rulesK rs xs))) := Fr.at1
  have ni : ∀ a c dx fs, H' a = some (.ins c dx fs) → ¬ At L.dr a := fun a c dx fs e z => ne_of e hdr (by intro z; cases z) z
  have ds := f _ _ (sm _ _ v.opn.ds) v.sep.d2
  have dt := f _ _ (sm _ _ v.opn.dt) v.sep.d3
  refine ⟨⟨?_, .inl ds, .inl dt, .inl upd_same, ?_, ?_⟩, ⟨v.sep.ts, v.sep.ps, nd, v.sep.d1, v.sep.d2, v.sep.d3⟩, ⟨ds, dt, upd_same⟩, wf, ?_, v.hist⟩
  · obtain ⟨dx, e⟩ := hh.h; exact ⟨dx, f _ _ e (ni _ _ _ _ e)⟩
  · refine paired_map2 hh.ts fun j b z h1 h2 h3 => ?_
    obtain ⟨_, _, _, _, _, _, _, _, _, e3⟩ := h3.there
    exact h3.quiet q (f.eq e3 (ni _ _ _ _ e3))
  · refine paired_map2 p fun j b z h1 h2 h3 => ?_
    obtain ⟨_, _, _, _, _, _, _, _, e3⟩ := h3.there
    exact h3.quiet q (f.eq e3 (ni _ _ _ _ e3))
  · exact v.past.keep fun b xs e => f _ _ (sm _ _ e) (ne_of (sm _ _ e) hdr (by intro z; cases z))
end
section
variable {P : Program} {w : World} {K : PySem.W.Frag} {mg : Str → Option Value} {base : Heap}
def sp_drop_rule (K : PySem.W.Frag) : Sp := fun vs H Q _ => ∃ (L : Lay) (s : House) (pss : List (List Nat)) (ar : Addr) (n : Bytes), vs = [.ref L.h, .ref ar] ∧ H ar = some (.lst [vS n]) ∧ Live K H L s pss ∧ Did K L H Q (does s (.drop n))
theorem sc_drop_rule : FnScope ["house", "arguments", "name"] ["house", "arguments"] (defScope s_drop_rule) := ⟨rfl, rfl, rfl, by decide +kernel, rfl, by decide +kernel, by decide +kernel⟩
theorem ok_drop_rule (g : Good w K mg) : FnOk P w K mg base CX0 2 (He.ga K "drop_rule") (fdA K (He.ga K "drop_rule")) ["house", "arguments"] (sp_drop_rule K) := by
  refine (F_drop_rule g).ok sc_drop_rule (fun vs H Q E h => ?_) (fun cdv A outer s0 H vs Q E hr h => ⟨_, PSs.nox (pss_cons (ps_set (i := 2) sc_drop_rule.nd rfl (Or.inl rfl) (pe_ix ix_list (pv 1) pe_int (fun _ _ => rfl))) (pss_cons (ps_if (pt_cmp (pc_dnotin (hu_of hr) (pv 2) (pe_fld (pv 0) rfl))) (pss_one (ps_ret pe_str)) pss_nil) (pss_cons (ps_expr (pe_dpop1 (pe_fld (pv 0) rfl) (pv 2) ⟨rfl, rfl, rfl, rfl⟩)) (pss_one (ps_ret pe_str))))), ?_⟩)
  · obtain ⟨L, s, pss, ar, n, rfl, _⟩ := h; rfl
  · obtain ⟨L, s, pss, ar, n, rfl, ha, lv, k⟩ := h
    have hh := lv.hat
    obtain ⟨dx, hH⟩ := hh.h
    have ed : does s (.drop n) = if (ruleOf s n).isNone = true then (s, no "rule") else ({ s with rules := s.rules.filter fun r => r.name != n }, Hr01.ok) := rfl
    rw [ed] at k
    refine ⟨_, rfl, ar, _, _, _, rfl, rfl, SqL.of ha, atI_nat (j := 0) rfl, ?_⟩
    refine ⟨_, rfl, _, rfl, L.h, _, dx, _, _, rfl, hH, cl_House g, na_House_rules g, lk_House_rules .., L.dr, _, rfl, dget_r hh n, _, rfl, ?_⟩
    rw [rules_some hh lv.wf.rn]
    cases e : ruleOf s n with
    | none =>
      rw [if_pos (by rw [e]; rfl)] at k
      refine iteT ?_
      rw [no_S "rule" "no rule"]
      exact k.same lv rfl
    | some x =>
      rw [if_neg (by rw [e]; exact Bool.false_ne_true)] at k
      have rv := rules_val hh.lr lv.wf.rn n
      rw [e] at rv
      obtain ⟨en, i, l, hx, hl, hv⟩ := rv
      obtain ⟨rs', sub, pr, ek⟩ := zip_filter (fun l : Addr => V.ref l) n hh.rs
      refine iteF ⟨_, rfl, L.h, _, dx, _, _, rfl, hH, cl_House g, na_House_rules g, lk_House_rules .., L.dr, rfl, .inl ⟨_, .inl lv.opn.dr⟩, ?_⟩
      refine ⟨_, rfl, _, .inr (S n), _, lv.opn.dr, rfl, hv, ?_⟩
      have ek' : dropK (rulesK L.rs s.rules) (.inr (S n)) = rulesK rs' (s.rules.filter fun r => r.name != n) := ek
      rw [ek', S_of]
      refine k _ _ _ (lv.rules (Same.refl _) pr (List.Sublist.nodup sub lv.sep.rs) (lv.wf.drop n)) rfl (Fr.put (.inr (.inr (.inr (.inr rfl))))) ?_
      rintro a ((m | m | m) | m | m | m | m)
      · exact .inl (.inl (.inl m))
      · exact .inl (.inl (.inr (.inl m)))
      · exact .inl (.inl (.inr (.inr (sub.subset m))))
      · exact .inl (.inr (.inl m))
      · exact .inl (.inr (.inr (.inl m)))
      · exact .inl (.inr (.inr (.inr (.inl m))))
      · exact .inl (.inr (.inr (.inr (.inr m))))
end
end Hw
end

/-! ## part S9 -/
section
set_option Elab.async false
set_option linter.all false
set_option maxRecDepth 100000
set_option maxHeartbeats 2000000
namespace Hw
open PySem PySem.Spec PyProof.Rows L2
open Hr01 (Bytes Words Term Sum Cond ascii isName num? term? digit small sum? parted Cmd Rule cmd? Thing House By byText thingsIn thingsOf valueOf termValue sumValue isSensor thingOf ruleOf leaves joined decimal told listed termText sumText condText wanted clamped looked become wasAt minute minutes taken withThing setSensor does no)
theorem known_iff {s : House} {n : Bytes} : (isSensor s n || (thingOf s n).isSome) = true ↔ known s n := by
  unfold known
  rw [Bool.or_eq_true, isSensor_mem, thingOf_mem]
theorem all_len {l : List Bytes} {n : Nat} (h : l.length ≤ n) (i : Nat) : (l.take i).length ≤ n := by rw [List.length_take]; omega
theorem condThings_len {c : Cond} (ok : CondOk c) (sz : csize c ≤ 1000) : (thingsOf c).length ≤ 8000 := by
  rw [things_leaves]
  refine Nat.le_trans (flat_len _ fun z hz => ?_) ?_
  · have o := leaves_ok c ok z hz
    have : ∀ c : Cond, ∀ z ∈ leaves c, ∃ o x y, z = leafC o x y := by
      intro c
      induction c with
      | less a b => intro z hz; simp [leaves] at hz; exact ⟨true, a, b, hz⟩
      | same a b => intro z hz; simp [leaves] at hz; exact ⟨false, a, b, hz⟩
      | not c ih => exact ih
      | both a b iha ihb => intro z hz; rcases List.mem_append.mp hz with hz | hz; exact iha z hz; exact ihb z hz
      | either a b iha ihb => intro z hz; rcases List.mem_append.mp hz with hz | hz; exact iha z hz; exact ihb z hz
    obtain ⟨b, x, y, e⟩ := this c z hz
    exact leaf_things e o
  · have := leaves_le c; omega
section
variable {P : Program} {w : World} {K : PySem.W.Frag} {mg : Str → Option Value} {base : Heap}
def sp_add_rule (K : PySem.W.Frag) : Sp := fun vs H Q _ => ∃ (L : Lay) (s : House) (pss : List (List Nat)) (ar : Addr) (us : List V) (r : Rule), vs = [.ref L.h, .ref ar] ∧ H ar = some (.lst us) ∧ RuleArgs H us r ∧ ROk r ∧ Live K H L s pss ∧ Did K L H Q (does s (.rule r))
theorem sc_add_rule : FnScope ["house", "arguments", "name", "condition", "thing", "amount", "used"] ["house", "arguments"] (defScope s_add_rule) := ⟨rfl, rfl, rfl, by decide +kernel, rfl, by decide +kernel, by decide +kernel⟩
theorem ok_add_rule (g : Good w K mg) : FnOk P w K mg base CX0 23 (He.ga K "add_rule") (fdA K (He.ga K "add_rule")) ["house", "arguments"] (sp_add_rule K) := by
  refine (F_add_rule g).ok sc_add_rule (fun vs H Q E h => ?_) (fun cdv A outer s0 H vs Q E hr h => ⟨_, PSs.nox (pss_cons (ps_set (i := 2) sc_add_rule.nd rfl (Or.inl rfl) (pe_ix ix_list (pv 1) pe_int (fun _ _ => rfl))) (pss_cons (ps_set (i := 3) sc_add_rule.nd rfl (Or.inl rfl) (pe_ix ix_list (pv 1) pe_int (fun _ _ => rfl))) (pss_cons (ps_set (i := 4) sc_add_rule.nd rfl (Or.inl rfl) (pe_ix ix_list (pv 1) pe_int (fun _ _ => rfl))) (pss_cons (ps_set (i := 5) sc_add_rule.nd rfl (Or.inl rfl) (pe_ix ix_list (pv 1) pe_int (fun _ _ => rfl))) (pss_cons (ps_if (pt_val (pe_call (ok_is_taken g) (hr.mono (by decide)) rfl (m_is_taken g) (F_is_taken g).kp (b_is_taken g) .nil pass0 (pa_cons (pv 0) (pa_cons (pv 2) pa_nil)))) (pss_one (ps_ret pe_str)) pss_nil) (pss_cons (ps_if (pt_cmp (pc_dnotin (hu_of hr) (pv 4) (pe_fld (pv 0) rfl))) (pss_one (ps_ret pe_str)) pss_nil) (pss_cons (ps_if (pt_not (pt_val (pe_callB (cr_all rfl) rfl (fr_all g) (by decide +kernel) (pa_cons (pe_lc (own := [("used", 6)]) rfl sc_add_rule.nd (pi_list (pe_op op_cat (pe_call (ok_names_in_condition g) (hr.mono (by decide)) rfl (m_names_in_condition g) (F_names_in_condition g).kp (b_names_in_condition g) .nil pass0 (pa_cons (pv 3) pa_nil)) (pe_call (ok_names_in_sum g) (hr.mono (by decide)) rfl (m_names_in_sum g) (F_names_in_sum g).kp (b_names_in_sum g) .nil pass0 (pa_cons (pv 5) pa_nil)))) (blkOk_by (own := [("used", 6)]) (N := ["house", "arguments", "name", "condition", "thing", "amount", "used"]) (sc := defScope s_add_rule) (by decide +kernel)) (fun _ _ _ _ _ => (pg_name (i := 6) sc_add_rule.nd rfl (Or.inl rfl))) (fun _ _ _ _ _ => pts_nil) (fun _ _ _ _ _ => (pe_call (ok_has_value g) (hr.mono (by decide)) rfl (m_has_value g) (F_has_value g).kp (b_has_value g) .nil pass0 (pa_cons (pv 0) (pa_cons (pv 6) pa_nil))))) pa_nil)))) (pss_one (ps_ret pe_str)) pss_nil) (pss_cons (ps_if (pt_cmpR op_ge (pe_callB call_lenD rfl (fr_len g) (by decide +kernel) (pa_cons (pe_fld (pv 0) rfl) pa_nil)) (pe_gI rfl (i_MOST_RULES g)) (nomark _)) (pss_one (ps_ret pe_str)) pss_nil) (pss_cons (ps_dput (hu_of hr) (pe_fld (pv 0) rfl) (pv 2) (pe_make (mk_Rule g) (ok_Rule_init g) (hr.mono (by decide)) rfl (m_Rule g) (b_Rule_init g) .nil pass0 (pa_cons (pe_ix ix_list (pv 1) pe_int (fun _ _ => rfl)) (pa_cons (pe_ix ix_list (pv 1) pe_int (fun _ _ => rfl)) (pa_cons (pv 3) (pa_cons (pv 4) (pa_cons (pv 5) pa_nil)))))) rfl) (pss_one (ps_ret pe_str))))))))))), ?_⟩)
  · obtain ⟨L, s, pss, ar, us, r, rfl, _⟩ := h; rfl
  · obtain ⟨L, s, pss, ar, us, r, rfl, ha, ⟨h0, vc, va, rfl, hc, hv⟩, ok, lv, k⟩ := h
    have hh := lv.hat
    obtain ⟨dx, hH⟩ := hh.h
    have fr := lv.wf.few.fr
    have ed : does s (.rule r) = if taken s r.name = true then (s, no "name") else if (thingOf s r.thing).isNone = true then (s, no "thing") else if ((thingsOf r.cond ++ thingsIn r.value).all fun w => isSensor s w || (thingOf s w).isSome) = false then (s, no "value") else if 6 ≤ s.rules.length then (s, no "many") else
      ({ s with rules := s.rules ++ [r] }, Hr01.ok) := rfl
    rw [ed] at k
    have el : (rulesK L.rs s.rules).length = s.rules.length := rulesK_len hh.lr
    refine ⟨_, rfl, ar, _, _, _, rfl, rfl, SqL.of ha, atI_nat (j := 0) rfl, ?_⟩
    refine ⟨_, rfl, ar, _, _, _, rfl, rfl, SqL.of ha, atI_nat (j := 3) rfl, ?_⟩
    refine ⟨_, rfl, ar, _, _, _, rfl, rfl, SqL.of ha, atI_nat (j := 4) rfl, ?_⟩
    refine ⟨_, rfl, ar, _, _, _, rfl, rfl, SqL.of ha, atI_nat (j := 5) rfl, ?_⟩
    refine ⟨_, rfl, _, rfl, L, s, r.name, rfl, hh, lv.wf, _, rfl, ?_⟩
    cases e : taken s r.name with
    | true =>
      rw [if_pos e] at k
      refine iteT ?_
      rw [no_S "name" "no name"]
      exact k.same lv rfl
    | false =>
      rw [if_neg (by rw [e]; exact Bool.false_ne_true)] at k
      refine iteF ⟨_, rfl, _, rfl, L.h, _, dx, _, _, rfl, hH, cl_House g, na_House_things g, lk_House_things .., L.dt, _, rfl, dget_t hh r.thing, _, rfl, ?_⟩
      rw [things_some hh lv.wf.names]
      cases e2 : thingOf s r.thing with
      | none =>
        rw [if_pos (by rw [e2]; rfl)] at k
        refine iteT ?_
        rw [no_S "thing" "no thing"]
        exact k.same lv rfl
      | some x =>
        rw [if_neg (by rw [e2]; exact Bool.false_ne_true)] at k
        refine iteF ⟨_, rfl, vc, r.cond, rfl, hc, ok.cond, ok.size, fun H1 p1 s1 n1 hp1 => ?_⟩
        refine ⟨_, rfl, va, r.value, rfl, hv.keep (Tups.of_same s1), ok.value, fun H2 p2 s2 n2 hp2 => ?_⟩
        have l1 := condThings_len ok.cond ok.size
        have l2 := thingsIn_le r.value
        have l3 := ok.value.len
        refine ⟨p1, p2, _, _, rfl, rfl, s2 _ _ hp1, hp2, by rw [List.length_map, List.length_map, sizeLine_eq]; omega, fun p3 n3 => ?_⟩
        have s3 := same_new (o := HO.lst ((thingsOf r.cond).map vS ++ (thingsIn r.value).map vS)) n3
        have hp3 : upd H2 p3 (.lst ((thingsOf r.cond).map vS ++ (thingsIn r.value).map vS)) p3 = some (.lst ((thingsOf r.cond ++ thingsIn r.value).map vS)) := by rw [upd_same, List.map_append]
        have sA : Same H (upd H2 p3 (.lst ((thingsOf r.cond).map vS ++ (thingsIn r.value).map vS))) := (s1.trans s2).trans s3
        generalize upd H2 p3 (.lst ((thingsOf r.cond).map vS ++ (thingsIn r.value).map vS)) = H3 at hp3 sA
        have ll : (thingsOf r.cond ++ thingsIn r.value).length ≤ 8004 := by rw [List.length_append]; omega
        generalize ews : thingsOf r.cond ++ thingsIn r.value = ws at hp3 ll k
        refine ⟨p3, rfl, ⟨_, SqL.of hp3⟩, fun D hD => ?_⟩
        refine lc_list (K := K) (a := p3) (xs := ws.map vS) (fun i H' => Same H3 H' ∧ H' D = some (.lst (((ws.take i).map fun w => isSensor s w || (thingOf s w).isSome).map V.bl)))
          ⟨same_new hD, upd_same⟩ (fun i H' _ z => SqL.of (z.1 _ _ hp3)) ?_ ?_
        · rintro i y H' hi ⟨sm, hDi⟩
          rw [List.getElem?_map] at hi
          obtain ⟨n, hn, rfl⟩ := Option.map_eq_some_iff.mp hi
          refine ⟨rfl, ?_⟩
          dsimp only [tYes]
          have ln := all_len ll i
          refine iteT ⟨_, rfl, _, rfl, L, s, n, rfl, hh.same (sA.trans sm), lv.wf, _, hDi, by rw [List.length_map, List.length_map, sizeLine_eq]; omega, fun b o z => ?_, ?_⟩
          · rw [upd_ne (ne_of_none z hD)]; exact sm b o z
          · rw [upd_same, List.take_succ, hn, Option.toList_some, List.map_append, List.map_append]; rfl
        · rintro H4 ⟨sm, hD4⟩
          rw [List.length_map, List.take_length] at hD4
          refine ⟨D, _, rfl, SqL.of hD4, _, rfl, ?_⟩
          have sB : Same H H4 := sA.trans sm
          have eall : (ws.map fun w => isSensor s w || (thingOf s w).isSome).all id = ws.all fun w => isSensor s w || (thingOf s w).isSome := by rw [List.all_map]; rfl
          rw [eall]
          cases e3 : (ws.all fun w => isSensor s w || (thingOf s w).isSome) with
          | false =>
            rw [if_pos e3] at k
            refine iteT ?_
            rw [no_S "value" "no value"]
            exact k _ L pss ⟨hh.same sB, lv.sep, ⟨sB _ _ lv.opn.ds, sB _ _ lv.opn.dt, sB _ _ lv.opn.dr⟩, lv.wf, lv.past.keep fun b xs e => sB _ _ e, lv.hist⟩ rfl (Fr.of_same sB) fun b m => .inl m
          | true =>
            rw [if_neg (by rw [e3]; exact fun z => nomatch z)] at k
            refine iteF ⟨_, rfl, L.h, _, dx, _, _, rfl, sB _ _ hH, cl_House g, na_House_rules g, lk_House_rules .., L.dr, _, rfl, sB _ _ lv.opn.dr, ?_⟩
            refine ⟨_, _, rfl, rfl, _, rfl, ?_⟩
            rw [el]
            by_cases c : 6 ≤ s.rules.length
            · rw [if_pos c] at k
              rw [decide_eq_true (by omega : (6 : Int) ≤ (s.rules.length : Nat))]
              refine iteT ?_
              rw [no_S "many" "no many"]
              exact k _ L pss ⟨hh.same sB, lv.sep, ⟨sB _ _ lv.opn.ds, sB _ _ lv.opn.dt, sB _ _ lv.opn.dr⟩, lv.wf, lv.past.keep fun b xs e => sB _ _ e, lv.hist⟩ rfl (Fr.of_same sB) fun b m => .inl m
            · rw [if_neg c] at k
              rw [decide_eq_false (by omega : ¬ (6 : Int) ≤ (s.rules.length : Nat))]
              refine iteF ⟨_, rfl, ar, _, _, _, rfl, rfl, SqL.of (sB _ _ ha), atI_nat (j := 1) rfl, ?_⟩
              refine ⟨_, rfl, ar, _, _, _, rfl, rfl, SqL.of (sB _ _ ha), atI_nat (j := 2) rfl, ?_⟩
              refine ⟨_, rfl, _, rfl, _, rfl, fun b db nb ndb nn => ?_⟩
              refine ⟨b, db, _, _, vc, r.thing, va, rfl, upd_same, fun H5 hb f5 => ⟨rfl, ?_⟩⟩
              have s5 : Same H4 H5 := made_same nb ndb f5
              have sC : Same H H5 := sB.trans s5
              have nb0 : H b = none := sB.free nb
              have hnr : valV (rulesK L.rs s.rules) (.inr (S r.name)) = none := valV_none_rules hh lv.wf.rn (taken_not e).2.2.2
              refine ⟨_, rfl, L.h, _, dx, _, _, rfl, sC _ _ hH, cl_House g, na_House_rules g, lk_House_rules .., ?_⟩
              refine ⟨_, rfl, L.dr, _, rfl, DPut.k (k := .inr (S r.name)) (sC _ _ lv.opn.dr) (by rw [el, sizeLine_eq]; omega), ?_⟩
              rw [putK_new _ hnr, S_of]
              have ek : (rulesK L.rs s.rules ++ [((.inr (S r.name) : Key), V.ref b)]) = rulesK (L.rs ++ [b]) (s.rules ++ [r]) := (rulesK_snoc hh.lr b r).symm
              rw [ek]
              have rb : RuleAt K H5 b r := ⟨db, vc, va, by rw [h0]; exact hb, hc.keep (Tups.of_same sC), hv.keep (Tups.of_same sC)⟩
              have kk : ∀ n ∈ ws, known s n := fun n hn => known_iff.mp (List.all_eq_true.mp e3 n hn)
              have wf' : WF { s with rules := s.rules ++ [r] } := lv.wf.addR ok e c (fun n hn => kk n (by rw [← ews]; exact List.mem_append_left _ hn)) (fun n hn => kk n (by rw [← ews]; exact List.mem_append_right _ hn))
              refine k _ _ _ (lv.rules sC (paired_end (hh.same sC).rs rb) (nodup_snoc lv.sep.rs fun z => ?_) wf') rfl ((Fr.of_same sC).trans (Fr.put (.inr (.inr (.inr (.inr rfl)))))) ?_
              · obtain ⟨c, d, f, q, _⟩ := hh.mt_ins (.inr z)
                rw [nb0] at q; cases q
              · rintro a ((m | m | m) | m | m | m | m)
                · exact .inl (.inl (.inl m))
                · exact .inl (.inl (.inr (.inl m)))
                · have m' : a ∈ L.rs ++ [b] := m
                  rcases List.mem_append.mp m' with m | m
                  · exact .inl (.inl (.inr (.inr m)))
                  · simp at m; subst m; exact .inr nb0
                · exact .inl (.inr (.inl m))
                · exact .inl (.inr (.inr (.inl m)))
                · exact .inl (.inr (.inr (.inr (.inl m))))
                · exact .inl (.inr (.inr (.inr (.inr m))))
/-! tick -/
theorem minutes_succ : ∀ (n : Nat) (s : House), minutes (n + 1) s = minute (minutes n s)
  | 0, _ => rfl
  | n + 1, s => minutes_succ n (minute s)
theorem minutes_clock : ∀ (n : Nat) (s : House), (minutes n s).clock = s.clock + n
  | 0, _ => rfl
  | n + 1, s => by
    rw [minutes_succ]
    show (minutes n s).clock + 1 = _
    rw [minutes_clock n s]; omega
theorem Live.minute {H H1 H2 : Hp} {L : Lay} {s : House} {pss : List (List Nat)} (v : Live K H L s pss) (f1 : Fr (MpL L) H H1) (p1 : PastAt H1 L (recd pss s)) (f2 : Fr (MhL L) H1 H2) (h2 : HouseAt K H2 L (minute s)) (o2 : Opn H2 L (minute s)) : Live K H2 L (minute s) (recd pss s) := by
  have h1 : HouseAt K H1 L s := v.hat.lists f1 fun b m => v.past.pa_lst m
  exact ⟨h2, v.sep, o2, v.wf.minute, p1.keep fun b xs e => f2.lsts (fun b m xs => h1.mh_lst b m xs) e, hist_minute v.hist⟩
def sp_pass_minutes (K : PySem.W.Frag) : Sp := fun vs H Q _ => ∃ (L : Lay) (s : House) (pss : List (List Nat)) (ar : Addr) (n : Nat), vs = [.ref L.h, .ref ar] ∧ H ar = some (.lst [.int (n : Nat)]) ∧ n ≤ 500 ∧ s.clock ≤ 90000 ∧ Live K H L s pss ∧ Did K L H Q (does s (.tick n))
theorem sc_pass_minutes : FnScope ["house", "arguments", "minute", "clock"] ["house", "arguments"] (defScope s_pass_minutes) := ⟨rfl, rfl, rfl, by decide +kernel, rfl, by decide +kernel, by decide +kernel⟩
theorem ok_pass_minutes (g : Good w K mg) : FnOk P w K mg base CX0 27 (He.ga K "pass_minutes") (fdA K (He.ga K "pass_minutes")) ["house", "arguments"] (sp_pass_minutes K) := by
  refine (F_pass_minutes g).ok sc_pass_minutes (fun vs H Q E h => ?_) (fun cdv A outer s0 H vs Q E hr h => ⟨_, PSs.nox (pss_cons (ps_for PassesOwn.never rfl (pi_range1 rfl (fr_range g) (pa_cons (pe_ix ix_list (pv 1) pe_int (fun _ _ => rfl)) pa_nil)) (pg_name (i := 2) sc_pass_minutes.nd rfl (Or.inl rfl)) (pss_cons (ps_expr (pe_call (ok_record_minute g) (hr.mono (by decide)) rfl (m_record_minute g) (F_record_minute g).kp (b_record_minute g) .nil pass0 (pa_cons (pv 0) pa_nil))) (pss_one (ps_expr (pe_call (ok_pass_minute g) (hr.mono (by decide)) rfl (m_pass_minute g) (F_pass_minute g).kp (b_pass_minute g) .nil pass0 (pa_cons (pv 0) pa_nil)))))) (pss_cons (ps_set (i := 3) sc_pass_minutes.nd rfl (Or.inl rfl) (pe_fld (pv 0) rfl)) (pss_one (ps_ret (pe_joined (.cons pe_str (.cons (pe_fmt (pv 3)) .nil))))))), ?_⟩)
  · obtain ⟨L, s, pss, ar, n, rfl, _⟩ := h; rfl
  · obtain ⟨L, s, pss, ar, n, rfl, ha, hn, hc, lv, k⟩ := h
    have ed : does s (.tick n) = (minutes n s, told [Hr01.ok, decimal (s.clock + n)]) := rfl
    rw [ed] at k
    refine ⟨_, rfl, ar, _, _, _, rfl, rfl, SqL.of ha, atI_nat (j := 0) rfl, _, rfl, by omega, by omega, ?_⟩
    have et : ((n : Nat) : Int).toNat = n := Int.toNat_natCast n
    rw [et]
    refine for_range (fun i σ H' => ∃ pss', Live K H' L (minutes i s) pss' ∧ Fr (MaL L) H H' ∧ ∃ z1, σ = [some (.ref L.h), some (.ref ar), z1, none]) ⟨pss, lv, Fr.refl, none, rfl⟩ ?_ ?_
    · rintro i σ H' hi ⟨pss', v, f, z1, rfl⟩
      have ck : (minutes i s).clock = s.clock + i := minutes_clock i s
      have lens : ∀ ps ∈ pss', ps.length ≤ 99999 := fun ps hps => by
        obtain ⟨j, hj⟩ := List.mem_iff_getElem?.mp hps
        obtain ⟨l, hl, _⟩ := paired_get2 v.past hj
        have jl : j < (minutes i s).things.length := by rw [← v.hist.1]; exact (List.getElem?_eq_some_iff.mp hj).1
        have := (v.hist.2 j l ps _ hl hj (List.getElem?_eq_getElem jl)).len
        rw [ck] at this; omega
      refine ⟨_, rfl, L, minutes i s, pss', rfl, v.hat, v.sep, v.opn, v.past, lens, fun H1 f1 p1 => ?_⟩
      have h1 : HouseAt K H1 L (minutes i s) := v.hat.lists f1 fun b m => v.past.pa_lst m
      have nl : ∀ b kvs, H' b = some (.dK kvs) → H1 b = some (.dK kvs) := fun b kvs e => f1 _ _ e fun m => by
        obtain ⟨xs, z⟩ := v.past.pa_lst m
        rw [e] at z; cases z
      refine ⟨_, rfl, L, minutes i s, rfl, h1, v.sep, ⟨nl _ _ v.opn.ds, nl _ _ v.opn.dt, nl _ _ v.opn.dr⟩, v.wf, fun H2 f2 h2 o2 => ?_⟩
      rw [minutes_succ]
      exact ⟨_, v.minute f1 p1 f2 h2 o2, f.trans ((f1.mono fun b m => .inr (.inl m)).trans (f2.mono fun b m => .inl m)), some (.int (0 + (i : Nat))), rfl⟩
    · rintro σ H' ⟨pss', v, f, z1, rfl⟩
      have ck : (minutes n s).clock = s.clock + n := minutes_clock n s
      obtain ⟨dx, hH⟩ := v.hat.h
      rw [ck] at hH
      refine ⟨_, rfl, L.h, _, dx, _, _, rfl, hH, cl_House g, na_House_clock g, lk_House_clock .., ?_⟩
      have e3 : (("ok " : String) : Str) = S [111, 107, 32] := S_of "ok "
      refine ⟨_, rfl, by rw [e3]; show (Str.empty ++ S [111, 107, 32]).length ≤ sizeLine; decide, _, rfl, .inr ⟨_, rfl, log_small (by omega), _, rfl, ?_, ?_⟩⟩
      · rw [e3, dec_S]
        show (S ([111, 107, 32] : Bytes) ++ S (decimal (s.clock + n))).length ≤ sizeLine
        rw [S_append, S_len, List.length_append, sizeLine_eq]
        have := dec_len (n := s.clock + n) (k := 6) (by decide) (by omega)
        simp only [List.length_cons, List.length_nil]; omega
      · rw [e3, dec_S]
        show Q (.str (S ([111, 107, 32] : Bytes) ++ S (decimal (s.clock + n)))) _
        rw [ok_text]
        exact k _ L pss' v rfl f fun b m => .inl m
end
end Hw
end

/-! ## part U0 -/
section
set_option Elab.async false
set_option linter.all false
set_option maxRecDepth 100000
set_option maxHeartbeats 2000000
namespace Hw
open PySem PySem.Spec PyProof.Rows L2
open Hr01 (Bytes Words Term Sum Cond ascii isName num? term? digit small sum? parted Cmd Rule cmd? Thing House By byText thingsIn thingsOf valueOf termValue sumValue isSensor thingOf ruleOf leaves joined decimal told listed termText sumText condText wanted clamped looked become wasAt minute minutes taken withThing setSensor does no)
/-! ### what is known of a command that was read -/
def fitB : List Kind → List Arg → Prop
  | [], [] => True
  | none :: ks, .name n :: as => isName n = true ∧ fitB ks as
  | some r :: ks, .num v :: as => (r.1 ≤ v ∧ v ≤ r.2) ∧ fitB ks as
  | _, _ => False
theorem nameP_ok {t : Words} {x : Bytes × Words} (h : nameP t = some x) : isName x.1 = true ∧ x.2.length < t.length := by
  cases t with
  | nil => cases h
  | cons a q =>
    unfold nameP at h
    dsimp only at h
    split at h
    · rename_i c; cases h; exact ⟨c, by simp⟩
    · cases h
theorem numP_ok {lo hi : Nat} {t : Words} {x : Nat × Words} (h : numP lo hi t = some x) : (lo ≤ x.1 ∧ x.1 ≤ hi) ∧ x.2.length < t.length := by
  cases t with
  | nil => cases h
  | cons a q =>
    obtain ⟨n, hn, rfl⟩ := Option.map_eq_some_iff.mp (show (num? lo hi a).map _ = some x from h)
    exact ⟨num_hi hn, by simp⟩
theorem wordP_ok {k : Bytes} {t x : Words} (h : wordP k t = some x) : x.length < t.length := by
  cases t with
  | nil => cases h
  | cons a q =>
    unfold wordP at h
    dsimp only at h
    split at h
    · cases h; simp
    · cases h
theorem argsP_fitB : ∀ {ks : List Kind} {t : Words} {y : List Arg × Words}, argsP ks t = some y → fitB ks y.1
  | [], t, y, h => by cases h; trivial
  | k :: ks, t, y, h => by
    unfold argsP at h
    obtain ⟨x, hx, h2⟩ := Option.bind_eq_some_iff.mp h
    obtain ⟨z, hz, rfl⟩ := Option.map_eq_some_iff.mp h2
    have ih := argsP_fitB hz
    cases k with
    | none =>
      obtain ⟨n, hn, rfl⟩ := Option.map_eq_some_iff.mp (show (nameP t).map _ = some x from hx)
      exact ⟨(nameP_ok hn).1, ih⟩
    | some r =>
      obtain ⟨n, hn, rfl⟩ := Option.map_eq_some_iff.mp (show (numP r.1 r.2 t).map _ = some x from hx)
      exact ⟨(numP_ok hn).1, ih⟩
theorem fitB0 {as : List Arg} (h : fitB [] as) : as = [] := by
  cases as with
  | nil => rfl
  | cons a r => exact h.elim
theorem fitBN {ks : List Kind} {as : List Arg} (h : fitB (none :: ks) as) : ∃ a r, as = .name a :: r ∧ isName a = true ∧ fitB ks r := by
  cases as with
  | nil => exact h.elim
  | cons a r => cases a with
    | name n => exact ⟨n, r, rfl, h.1, h.2⟩
    | num n => exact h.elim
theorem fitBV {q : Nat × Nat} {ks : List Kind} {as : List Arg} (h : fitB (some q :: ks) as) : ∃ a r, as = .num a :: r ∧ (q.1 ≤ a ∧ a ≤ q.2) ∧ fitB ks r := by
  cases as with
  | nil => exact h.elim
  | cons a r => cases a with
    | name n => exact h.elim
    | num n => exact ⟨n, r, rfl, h.1, h.2⟩
theorem ruleP_ok {t : Words} {y : Rule × Words} (h : ruleP t = some y) (hl : t.length ≤ 1000) : ROk y.1 := by
  unfold ruleP at h
  obtain ⟨x1, h1, h⟩ := Option.bind_eq_some_iff.mp h
  obtain ⟨x2, h2, h⟩ := Option.bind_eq_some_iff.mp h
  obtain ⟨x3, h3, h⟩ := Option.bind_eq_some_iff.mp h
  obtain ⟨x4, h4, h⟩ := Option.bind_eq_some_iff.mp h
  obtain ⟨x5, h5, h⟩ := Option.bind_eq_some_iff.mp h
  obtain ⟨x6, h6, h⟩ := Option.bind_eq_some_iff.mp h
  obtain ⟨x7, h7, h⟩ := Option.bind_eq_some_iff.mp h
  obtain ⟨x8, h8, h⟩ := Option.bind_eq_some_iff.mp h
  obtain ⟨x9, h9, h⟩ := Option.bind_eq_some_iff.mp h
  obtain ⟨x10, h10, h⟩ := Option.bind_eq_some_iff.mp h
  cases h
  have l1 := (nameP_ok h1).2
  have l2 := (numP_ok h2).2
  have l3 := wordP_ok h3
  have l4 := (numP_ok h4).2
  have l5 := wordP_ok h5
  have l6 := altP_ok h6
  refine ⟨l6.1, by show csize x6.1 ≤ 1000; omega, sum_ok h10, (nameP_ok h1).1, (nameP_ok h8).1, (numP_ok h2).1.2, (numP_ok h4).1.2, Nat.zero_le _⟩
/-- what a command stands as -/
def CmdIs (H : Hp) (us : List V) (x : Bytes) : Cmd → Prop
  | .sensor n v => x = ascii "sensor" ∧ us = [vS n, .int (v : Nat)]
  | .thing n v => x = ascii "thing" ∧ us = [vS n, .int (v : Nat)]
  | .set n v => x = ascii "set" ∧ us = [vS n, .int (v : Nat)]
  | .deaf n => x = ascii "deaf" ∧ us = [vS n]
  | .hears n => x = ascii "hears" ∧ us = [vS n]
  | .hand n v => x = ascii "hand" ∧ us = [vS n, .int (v : Nat)]
  | .hold n v p m => x = ascii "hold" ∧ us = [vS n, .int (v : Nat), .int (p : Nat), .int (m : Nat)]
  | .free n => x = ascii "free" ∧ us = [vS n]
  | .drop n => x = ascii "drop" ∧ us = [vS n]
  | .tick n => x = ascii "tick" ∧ us = [.int (n : Nat)]
  | .state  => x = ascii "state" ∧ us = []
  | .was n v => x = ascii "was" ∧ us = [vS n, .int (v : Nat)]
  | .list  => x = ascii "list" ∧ us = []
  | .why n => x = ascii "why" ∧ us = [vS n]
  | .whynot n => x = ascii "whynot" ∧ us = [vS n]
  | .rings  => x = ascii "rings" ∧ us = []
  | .rest  => x = ascii "rest" ∧ us = []
  | .trial n v m => x = ascii "try" ∧ us = [vS n, .int (v : Nat), .int (m : Nat)]
  | .rule r => x = ascii "rule" ∧ RuleArgs H us r
def COk : Cmd → Prop
  | .sensor n v => isName n = true ∧ v ≤ 999
  | .thing n v => isName n = true ∧ v ≤ 999
  | .set n v => v ≤ 999
  | .deaf n => True
  | .hears n => True
  | .hand n v => v ≤ 999
  | .hold n v p m => v ≤ 999 ∧ p ≤ 9 ∧ m ≤ 999
  | .free n => True
  | .drop n => True
  | .tick n => n ≤ 500
  | .state  => True
  | .was n v => v ≤ 99999
  | .list  => True
  | .why n => True
  | .whynot n => True
  | .rings  => True
  | .rest  => True
  | .trial n v m => v ≤ 999 ∧ m ≤ 100
  | .rule r => ROk r
theorem cmdIs {H : Hp} {us : List V} {x : Bytes} {c : Cmd} (h : CmdAt H us x c) : CmdIs H us x c := by
  rcases h with ⟨as, rfl, h, _⟩ | ⟨r, rfl, rfl, h⟩
  · unfold cmdOf at h
    by_cases esensor : x = ascii "sensor"
    · rw [if_pos esensor] at h
      split at h
      · cases h; exact ⟨esensor, rfl⟩
      · cases h
    rw [if_neg esensor] at h
    by_cases ething : x = ascii "thing"
    · rw [if_pos ething] at h
      split at h
      · cases h; exact ⟨ething, rfl⟩
      · cases h
    rw [if_neg ething] at h
    by_cases eset : x = ascii "set"
    · rw [if_pos eset] at h
      split at h
      · cases h; exact ⟨eset, rfl⟩
      · cases h
    rw [if_neg eset] at h
    by_cases edeaf : x = ascii "deaf"
    · rw [if_pos edeaf] at h
      split at h
      · cases h; exact ⟨edeaf, rfl⟩
      · cases h
    rw [if_neg edeaf] at h
    by_cases ehears : x = ascii "hears"
    · rw [if_pos ehears] at h
      split at h
      · cases h; exact ⟨ehears, rfl⟩
      · cases h
    rw [if_neg ehears] at h
    by_cases ehand : x = ascii "hand"
    · rw [if_pos ehand] at h
      split at h
      · cases h; exact ⟨ehand, rfl⟩
      · cases h
    rw [if_neg ehand] at h
    by_cases ehold : x = ascii "hold"
    · rw [if_pos ehold] at h
      split at h
      · cases h; exact ⟨ehold, rfl⟩
      · cases h
    rw [if_neg ehold] at h
    by_cases efree : x = ascii "free"
    · rw [if_pos efree] at h
      split at h
      · cases h; exact ⟨efree, rfl⟩
      · cases h
    rw [if_neg efree] at h
    by_cases edrop : x = ascii "drop"
    · rw [if_pos edrop] at h
      split at h
      · cases h; exact ⟨edrop, rfl⟩
      · cases h
    rw [if_neg edrop] at h
    by_cases etick : x = ascii "tick"
    · rw [if_pos etick] at h
      split at h
      · cases h; exact ⟨etick, rfl⟩
      · cases h
    rw [if_neg etick] at h
    by_cases estate : x = ascii "state"
    · rw [if_pos estate] at h
      split at h
      · cases h; exact ⟨estate, rfl⟩
      · cases h
    rw [if_neg estate] at h
    by_cases ewas : x = ascii "was"
    · rw [if_pos ewas] at h
      split at h
      · cases h; exact ⟨ewas, rfl⟩
      · cases h
    rw [if_neg ewas] at h
    by_cases elist : x = ascii "list"
    · rw [if_pos elist] at h
      split at h
      · cases h; exact ⟨elist, rfl⟩
      · cases h
    rw [if_neg elist] at h
    by_cases ewhy : x = ascii "why"
    · rw [if_pos ewhy] at h
      split at h
      · cases h; exact ⟨ewhy, rfl⟩
      · cases h
    rw [if_neg ewhy] at h
    by_cases ewhynot : x = ascii "whynot"
    · rw [if_pos ewhynot] at h
      split at h
      · cases h; exact ⟨ewhynot, rfl⟩
      · cases h
    rw [if_neg ewhynot] at h
    by_cases erings : x = ascii "rings"
    · rw [if_pos erings] at h
      split at h
      · cases h; exact ⟨erings, rfl⟩
      · cases h
    rw [if_neg erings] at h
    by_cases erest : x = ascii "rest"
    · rw [if_pos erest] at h
      split at h
      · cases h; exact ⟨erest, rfl⟩
      · cases h
    rw [if_neg erest] at h
    by_cases etry : x = ascii "try"
    · rw [if_pos etry] at h
      split at h
      · cases h; exact ⟨etry, rfl⟩
      · cases h
    rw [if_neg etry] at h
    cases h
  · exact ⟨rfl, h⟩
theorem forms_cok {x : Bytes} {ks : List Kind} (h : (x, ks) ∈ FORMSL) {as : List Arg} (f0 : fitB ks as) {c : Cmd} (hc : cmdOf x as = some c) : COk c := by
  simp only [FORMSL, List.mem_cons, Prod.mk.injEq, List.not_mem_nil, or_false] at h
  rcases h with ⟨rfl, rfl⟩ | ⟨rfl, rfl⟩ | ⟨rfl, rfl⟩ | ⟨rfl, rfl⟩ | ⟨rfl, rfl⟩ | ⟨rfl, rfl⟩ | ⟨rfl, rfl⟩ | ⟨rfl, rfl⟩ | ⟨rfl, rfl⟩ | ⟨rfl, rfl⟩ | ⟨rfl, rfl⟩ | ⟨rfl, rfl⟩ | ⟨rfl, rfl⟩ | ⟨rfl, rfl⟩ | ⟨rfl, rfl⟩ | ⟨rfl, rfl⟩ | ⟨rfl, rfl⟩ | ⟨rfl, rfl⟩
  · obtain ⟨y0, r0, rfl, g0, f1⟩ := fitBN f0; obtain ⟨y1, r1, rfl, g1, f2⟩ := fitBV f1; cases fitB0 f2; cases hc; exact ⟨g0, g1.2⟩
  · obtain ⟨y0, r0, rfl, g0, f1⟩ := fitBN f0; obtain ⟨y1, r1, rfl, g1, f2⟩ := fitBV f1; cases fitB0 f2; cases hc; exact ⟨g0, g1.2⟩
  · obtain ⟨y0, r0, rfl, g0, f1⟩ := fitBN f0; obtain ⟨y1, r1, rfl, g1, f2⟩ := fitBV f1; cases fitB0 f2; cases hc; exact g1.2
  · obtain ⟨y0, r0, rfl, g0, f1⟩ := fitBN f0; cases fitB0 f1; cases hc; trivial
  · obtain ⟨y0, r0, rfl, g0, f1⟩ := fitBN f0; cases fitB0 f1; cases hc; trivial
  · obtain ⟨y0, r0, rfl, g0, f1⟩ := fitBN f0; obtain ⟨y1, r1, rfl, g1, f2⟩ := fitBV f1; cases fitB0 f2; cases hc; exact g1.2
  · obtain ⟨y0, r0, rfl, g0, f1⟩ := fitBN f0; obtain ⟨y1, r1, rfl, g1, f2⟩ := fitBV f1; obtain ⟨y2, r2, rfl, g2, f3⟩ := fitBV f2; obtain ⟨y3, r3, rfl, g3, f4⟩ := fitBV f3; cases fitB0 f4; cases hc; exact ⟨g1.2, g2.2, g3.2⟩
  · obtain ⟨y0, r0, rfl, g0, f1⟩ := fitBN f0; cases fitB0 f1; cases hc; trivial
  · obtain ⟨y0, r0, rfl, g0, f1⟩ := fitBN f0; cases fitB0 f1; cases hc; trivial
  · obtain ⟨y0, r0, rfl, g0, f1⟩ := fitBV f0; cases fitB0 f1; cases hc; exact g0.2
  · cases fitB0 f0; cases hc; trivial
  · obtain ⟨y0, r0, rfl, g0, f1⟩ := fitBN f0; obtain ⟨y1, r1, rfl, g1, f2⟩ := fitBV f1; cases fitB0 f2; cases hc; exact g1.2
  · cases fitB0 f0; cases hc; trivial
  · obtain ⟨y0, r0, rfl, g0, f1⟩ := fitBN f0; cases fitB0 f1; cases hc; trivial
  · obtain ⟨y0, r0, rfl, g0, f1⟩ := fitBN f0; cases fitB0 f1; cases hc; trivial
  · cases fitB0 f0; cases hc; trivial
  · cases fitB0 f0; cases hc; trivial
  · obtain ⟨y0, r0, rfl, g0, f1⟩ := fitBN f0; obtain ⟨y1, r1, rfl, g1, f2⟩ := fitBV f1; obtain ⟨y2, r2, rfl, g2, f3⟩ := fitBV f2; cases fitB0 f3; cases hc; exact ⟨g1.2, g2.2⟩
theorem cmd_cok {ws : Words} {c : Cmd} (h : cmd? ws = some c) (hl : ws.length ≤ 1000) : COk c := by
  cases ws with
  | nil => cases h
  | cons x t =>
    rw [cmd_out] at h
    obtain ⟨y, hy, h⟩ := Option.bind_eq_some_iff.mp h
    have hc : outCmd x y.1 = some c := by
      split at h
      · exact h
      · cases h
    unfold outP at hy
    by_cases e : x = ascii "rule"
    · rw [if_pos e] at hy
      obtain ⟨z, hz, rfl⟩ := Option.map_eq_some_iff.mp hy
      cases hc
      exact ruleP_ok hz (by simp at hl; omega)
    · rw [if_neg e] at hy
      cases e2 : FORMSL.lookup x with
      | none => rw [e2] at hy; cases hy
      | some ks =>
        rw [e2] at hy
        obtain ⟨z, hz, rfl⟩ := Option.map_eq_some_iff.mp (show (argsP ks t).map _ = some y from hy)
        exact forms_cok (lookup_mem e2) (argsP_fitB hz) hc
def isChange : Cmd → Prop
  | .sensor .. => True
  | .thing .. => True
  | .set .. => True
  | .deaf .. => True
  | .hears .. => True
  | .hand .. => True
  | .hold .. => True
  | .free .. => True
  | .rule .. => True
  | .drop .. => True
  | .tick .. => True
  | _ => False
section
variable {P : Program} {w : World} {K : PySem.W.Frag} {mg : Str → Option Value} {base : Heap}
theorem chg_kd (g : Good w K mg) (k f : String) (h : ((k : Str), He.Dv.glo (f : Str)) ∈ t_CHANGES) : KDct K w (He.ga K "CHANGES") (S (ascii k)) (.ref (He.ga K f)) := by
  have T : He.dicW K (He.ga K "CHANGES") = some (He.keysIn w.params _) := g.tab 1 rfl
  obtain ⟨es, n, D⟩ := He.dicW_ok T
  obtain ⟨u, e, r⟩ := He.valsB_ok (g.x 2 (b := He.valsB K (He.ga K "CHANGES") t_CHANGES) rfl) h
  rw [← S_of]
  exact ⟨es, n, u, D.at_, D.lit, e, r⟩
def sp_change (K : PySem.W.Frag) : Sp := fun vs H Q _ => ∃ (L : Lay) (s : House) (pss : List (List Nat)) (ar : Addr) (us : List V) (x : Bytes) (c : Cmd), vs = [.ref L.h, vS x, .ref ar] ∧ H ar = some (.lst us) ∧ CmdIs H us x c ∧ COk c ∧ isChange c ∧ s.clock ≤ 90000 ∧ Live K H L s pss ∧ Did K L H Q (does s c)
theorem sc_change : FnScope ["house", "word", "arguments", "act"] ["house", "word", "arguments"] (defScope s_change) := ⟨rfl, rfl, rfl, by decide +kernel, rfl, by decide +kernel, by decide +kernel⟩
theorem ok_change (g : Good w K mg) : FnOk P w K mg base CX0 28 (He.ga K "change") (fdA K (He.ga K "change")) ["house", "word", "arguments"] (sp_change K) := by
  refine (F_change g).ok sc_change (fun vs H Q E h => ?_) (fun cdv A outer s0 H vs Q E hr h => ?_)
  · obtain ⟨L, s, pss, ar, us, x, c, rfl, _⟩ := h; rfl
  · obtain ⟨L, s, pss, ar, us, x, c, rfl, ha, ci, co, ic, hc, lv, k⟩ := h
    cases c with
    | sensor n v =>
      obtain ⟨rfl, rfl⟩ := ci
      refine ⟨_, PSs.nox (pss_cons (ps_set (i := 3) sc_change.nd rfl (Or.inl rfl) (pe_ix ix_kdict (pe_gR rfl (m_CHANGES g)) (pv 1) (fun _ _ => rfl))) (pss_one (ps_ret (pe_callL (i := 3) (ok_add_sensor g) (hr.mono (by decide)) rfl (Or.inl rfl) (F_add_sensor g).kp (b_add_sensor g) .nil pass0 (pa_cons (pv 0) (pa_cons (pv 2) pa_nil)))))), ?_⟩
      exact ⟨_, rfl, _, _, _, rfl, rfl, chg_kd g "sensor" "add_sensor" (by simp [t_CHANGES]), rfl, _, rfl, _, rfl, L, s, pss, ar, n, v, rfl, ha, co.1, co.2, lv, k⟩
    | thing n v =>
      obtain ⟨rfl, rfl⟩ := ci
      refine ⟨_, PSs.nox (pss_cons (ps_set (i := 3) sc_change.nd rfl (Or.inl rfl) (pe_ix ix_kdict (pe_gR rfl (m_CHANGES g)) (pv 1) (fun _ _ => rfl))) (pss_one (ps_ret (pe_callL (i := 3) (ok_add_thing g) (hr.mono (by decide)) rfl (Or.inl rfl) (F_add_thing g).kp (b_add_thing g) .nil pass0 (pa_cons (pv 0) (pa_cons (pv 2) pa_nil)))))), ?_⟩
      exact ⟨_, rfl, _, _, _, rfl, rfl, chg_kd g "thing" "add_thing" (by simp [t_CHANGES]), rfl, _, rfl, _, rfl, L, s, pss, ar, n, v, rfl, ha, co.1, co.2, lv, k⟩
    | set n v =>
      obtain ⟨rfl, rfl⟩ := ci
      refine ⟨_, PSs.nox (pss_cons (ps_set (i := 3) sc_change.nd rfl (Or.inl rfl) (pe_ix ix_kdict (pe_gR rfl (m_CHANGES g)) (pv 1) (fun _ _ => rfl))) (pss_one (ps_ret (pe_callL (i := 3) (ok_set_sensor g) (hr.mono (by decide)) rfl (Or.inl rfl) (F_set_sensor g).kp (b_set_sensor g) .nil pass0 (pa_cons (pv 0) (pa_cons (pv 2) pa_nil)))))), ?_⟩
      exact ⟨_, rfl, _, _, _, rfl, rfl, chg_kd g "set" "set_sensor" (by simp [t_CHANGES]), rfl, _, rfl, _, rfl, L, s, pss, ar, n, v, rfl, ha, co, lv, k⟩
    | deaf n =>
      obtain ⟨rfl, rfl⟩ := ci
      refine ⟨_, PSs.nox (pss_cons (ps_set (i := 3) sc_change.nd rfl (Or.inl rfl) (pe_ix ix_kdict (pe_gR rfl (m_CHANGES g)) (pv 1) (fun _ _ => rfl))) (pss_one (ps_ret (pe_callL (i := 3) (ok_make_deaf g) (hr.mono (by decide)) rfl (Or.inl rfl) (F_make_deaf g).kp (b_make_deaf g) .nil pass0 (pa_cons (pv 0) (pa_cons (pv 2) pa_nil)))))), ?_⟩
      exact ⟨_, rfl, _, _, _, rfl, rfl, chg_kd g "deaf" "make_deaf" (by simp [t_CHANGES]), rfl, _, rfl, _, rfl, L, s, pss, ar, n, rfl, ha, lv, k⟩
    | hears n =>
      obtain ⟨rfl, rfl⟩ := ci
      refine ⟨_, PSs.nox (pss_cons (ps_set (i := 3) sc_change.nd rfl (Or.inl rfl) (pe_ix ix_kdict (pe_gR rfl (m_CHANGES g)) (pv 1) (fun _ _ => rfl))) (pss_one (ps_ret (pe_callL (i := 3) (ok_make_hear g) (hr.mono (by decide)) rfl (Or.inl rfl) (F_make_hear g).kp (b_make_hear g) .nil pass0 (pa_cons (pv 0) (pa_cons (pv 2) pa_nil)))))), ?_⟩
      exact ⟨_, rfl, _, _, _, rfl, rfl, chg_kd g "hears" "make_hear" (by simp [t_CHANGES]), rfl, _, rfl, _, rfl, L, s, pss, ar, n, rfl, ha, lv, k⟩
    | hand n v =>
      obtain ⟨rfl, rfl⟩ := ci
      refine ⟨_, PSs.nox (pss_cons (ps_set (i := 3) sc_change.nd rfl (Or.inl rfl) (pe_ix ix_kdict (pe_gR rfl (m_CHANGES g)) (pv 1) (fun _ _ => rfl))) (pss_one (ps_ret (pe_callL (i := 3) (ok_move_by_hand g) (hr.mono (by decide)) rfl (Or.inl rfl) (F_move_by_hand g).kp (b_move_by_hand g) .nil pass0 (pa_cons (pv 0) (pa_cons (pv 2) pa_nil)))))), ?_⟩
      exact ⟨_, rfl, _, _, _, rfl, rfl, chg_kd g "hand" "move_by_hand" (by simp [t_CHANGES]), rfl, _, rfl, _, rfl, L, s, pss, ar, n, v, rfl, ha, co, lv, k⟩
    | hold n v p m =>
      obtain ⟨rfl, rfl⟩ := ci
      refine ⟨_, PSs.nox (pss_cons (ps_set (i := 3) sc_change.nd rfl (Or.inl rfl) (pe_ix ix_kdict (pe_gR rfl (m_CHANGES g)) (pv 1) (fun _ _ => rfl))) (pss_one (ps_ret (pe_callL (i := 3) (ok_hold_thing g) (hr.mono (by decide)) rfl (Or.inl rfl) (F_hold_thing g).kp (b_hold_thing g) .nil pass0 (pa_cons (pv 0) (pa_cons (pv 2) pa_nil)))))), ?_⟩
      exact ⟨_, rfl, _, _, _, rfl, rfl, chg_kd g "hold" "hold_thing" (by simp [t_CHANGES]), rfl, _, rfl, _, rfl, L, s, pss, ar, n, v, p, m, rfl, ha, co.1, co.2.1, co.2.2, hc, lv, k⟩
    | free n =>
      obtain ⟨rfl, rfl⟩ := ci
      refine ⟨_, PSs.nox (pss_cons (ps_set (i := 3) sc_change.nd rfl (Or.inl rfl) (pe_ix ix_kdict (pe_gR rfl (m_CHANGES g)) (pv 1) (fun _ _ => rfl))) (pss_one (ps_ret (pe_callL (i := 3) (ok_free_thing g) (hr.mono (by decide)) rfl (Or.inl rfl) (F_free_thing g).kp (b_free_thing g) .nil pass0 (pa_cons (pv 0) (pa_cons (pv 2) pa_nil)))))), ?_⟩
      exact ⟨_, rfl, _, _, _, rfl, rfl, chg_kd g "free" "free_thing" (by simp [t_CHANGES]), rfl, _, rfl, _, rfl, L, s, pss, ar, n, rfl, ha, lv, k⟩
    | rule r =>
      have ex := ci.1; subst ex
      refine ⟨_, PSs.nox (pss_cons (ps_set (i := 3) sc_change.nd rfl (Or.inl rfl) (pe_ix ix_kdict (pe_gR rfl (m_CHANGES g)) (pv 1) (fun _ _ => rfl))) (pss_one (ps_ret (pe_callL (i := 3) (ok_add_rule g) (hr.mono (by decide)) rfl (Or.inl rfl) (F_add_rule g).kp (b_add_rule g) .nil pass0 (pa_cons (pv 0) (pa_cons (pv 2) pa_nil)))))), ?_⟩
      exact ⟨_, rfl, _, _, _, rfl, rfl, chg_kd g "rule" "add_rule" (by simp [t_CHANGES]), rfl, _, rfl, _, rfl, L, s, pss, ar, us, r, rfl, ha, ci.2, co, lv, k⟩
    | drop n =>
      obtain ⟨rfl, rfl⟩ := ci
      refine ⟨_, PSs.nox (pss_cons (ps_set (i := 3) sc_change.nd rfl (Or.inl rfl) (pe_ix ix_kdict (pe_gR rfl (m_CHANGES g)) (pv 1) (fun _ _ => rfl))) (pss_one (ps_ret (pe_callL (i := 3) (ok_drop_rule g) (hr.mono (by decide)) rfl (Or.inl rfl) (F_drop_rule g).kp (b_drop_rule g) .nil pass0 (pa_cons (pv 0) (pa_cons (pv 2) pa_nil)))))), ?_⟩
      exact ⟨_, rfl, _, _, _, rfl, rfl, chg_kd g "drop" "drop_rule" (by simp [t_CHANGES]), rfl, _, rfl, _, rfl, L, s, pss, ar, n, rfl, ha, lv, k⟩
    | tick n =>
      obtain ⟨rfl, rfl⟩ := ci
      refine ⟨_, PSs.nox (pss_cons (ps_set (i := 3) sc_change.nd rfl (Or.inl rfl) (pe_ix ix_kdict (pe_gR rfl (m_CHANGES g)) (pv 1) (fun _ _ => rfl))) (pss_one (ps_ret (pe_callL (i := 3) (ok_pass_minutes g) (hr.mono (by decide)) rfl (Or.inl rfl) (F_pass_minutes g).kp (b_pass_minutes g) .nil pass0 (pa_cons (pv 0) (pa_cons (pv 2) pa_nil)))))), ?_⟩
      exact ⟨_, rfl, _, _, _, rfl, rfl, chg_kd g "tick" "pass_minutes" (by simp [t_CHANGES]), rfl, _, rfl, _, rfl, L, s, pss, ar, n, rfl, ha, co, hc, lv, k⟩
    | state  => exact ic.elim
    | was _ _ => exact ic.elim
    | list  => exact ic.elim
    | why _ => exact ic.elim
    | whynot _ => exact ic.elim
    | rings  => exact ic.elim
    | rest  => exact ic.elim
    | trial _ _ _ => exact ic.elim
end
end Hw
end

/-! ## part T0 -/
section
set_option Elab.async false
set_option linter.all false
set_option maxRecDepth 100000
set_option maxHeartbeats 2000000
namespace Hw
open PySem PySem.Spec PyProof.Rows L2
open Hr01 (Bytes Words Term Sum Cond ascii isName num? term? digit small sum? parted Cmd Rule cmd? Thing House By byText thingsIn thingsOf valueOf termValue sumValue isSensor thingOf ruleOf leaves joined decimal told listed termText sumText condText wanted clamped looked become wasAt minute minutes taken withThing setSensor does no)
/-! ### a house of its own, no history -/
structure Bare (K : PySem.W.Frag) (H : Hp) (L : Lay) (s : House) : Prop where
  hat : HouseAt K H L s
  sep : Sep L
  opn : Opn H L s
  pas : ∀ b, MpL L b → ∃ xs, H b = some (.lst xs)
theorem Live.bare {K : PySem.W.Frag} {H : Hp} {L : Lay} {s : House} {pss : List (List Nat)} (v : Live K H L s pss) : Bare K H L s := ⟨v.hat, v.sep, v.opn, fun b m => v.past.pa_lst m⟩
section
variable {K : PySem.W.Frag} {H H' : Hp} {L : Lay} {s : House}
theorem Bare.same (v : Bare K H L s) (sm : Same H H') : Bare K H' L s := ⟨v.hat.same sm, v.sep, ⟨sm _ _ v.opn.ds, sm _ _ v.opn.dt, sm _ _ v.opn.dr⟩, fun b m => let ⟨xs, e⟩ := v.pas b m; ⟨xs, sm _ _ e⟩⟩
theorem Bare.there (v : Bare K H L s) {b : Addr} (m : MaL L b) : ∃ o, H b = some o := by
  rcases m with m | m | m | m | m
  · obtain ⟨_, _, _, e, _⟩ := v.hat.mh_ins m; exact ⟨_, e⟩
  · obtain ⟨_, e⟩ := v.pas b m; exact ⟨_, e⟩
  · rw [m]; exact ⟨_, v.opn.ds⟩
  · rw [m]; exact ⟨_, v.opn.dt⟩
  · rw [m]; exact ⟨_, v.opn.dr⟩
theorem Bare.addT (v : Bare K H L s) {l : TL} {x : Thing} (sm : Same H H') (na : H l.a = none) (np : H l.pa = none) (tx : ThingAt K H' l x) (hp : ∃ xs, H' l.pa = some (.lst xs)) :
    Bare K (upd H' L.dt (.dK (thingsK (L.ts ++ [l]) (s.things ++ [x])))) { L with ts := L.ts ++ [l] } { s with things := s.things ++ [x] } := by
  have hh := v.hat.same sm
  have hdt := sm _ _ v.opn.dt
  have q : Quiet H' (upd H' L.dt (.dK (thingsK (L.ts ++ [l]) (s.things ++ [x])))) := Quiet.upd1 hdt soft_dK
  have f : Fr (At L.dt) H' (upd H' L.dt (.dK (thingsK (L.ts ++ [l]) (s.things ++ [x])))) := Fr.at1
  have ni : ∀ a c dx fs, H' a = some (.ins c dx fs) → ¬ At L.dt a := fun a c dx fs e z => ne_of e hdt (by intro z; cases z) z
  have ds := f _ _ (sm _ _ v.opn.ds) v.sep.d1
  have dr := f _ _ (sm _ _ v.opn.dr) v.sep.d3.symm
  obtain ⟨_, _, _, _, _, _, _, _, _, e0⟩ := tx.there
  refine ⟨⟨?_, .inl ds, .inl upd_same, .inl dr, ?_, ?_⟩, ⟨?_, ?_, v.sep.rs, v.sep.d1, v.sep.d2, v.sep.d3⟩, ⟨ds, upd_same, dr⟩, ?_⟩
  · obtain ⟨dx, e⟩ := hh.h; exact ⟨dx, f _ _ e (ni _ _ _ _ e)⟩
  · refine paired_end (paired_map2 hh.ts fun j b z h1 h2 h3 => ?_) (tx.quiet q (f.eq e0 (ni _ _ _ _ e0)))
    obtain ⟨_, _, _, _, _, _, _, _, _, e3⟩ := h3.there
    exact h3.quiet q (f.eq e3 (ni _ _ _ _ e3))
  · refine paired_map2 hh.rs fun j b z h1 h2 h3 => ?_
    obtain ⟨_, _, _, _, _, _, _, _, e3⟩ := h3.there
    exact h3.quiet q (f.eq e3 (ni _ _ _ _ e3))
  · show ((L.ts ++ [l]).map (·.a)).Nodup
    rw [List.map_append]
    refine nodup_snoc v.sep.ts fun z => ?_
    obtain ⟨c, dx, fs, e, _⟩ := v.hat.mt_ins (.inl z)
    rw [na] at e; cases e
  · show ((L.ts ++ [l]).map (·.pa)).Nodup
    rw [List.map_append]
    refine nodup_snoc v.sep.ps fun z => ?_
    obtain ⟨xs, e⟩ := v.pas _ z
    rw [np] at e; cases e
  · intro b m
    have m' : b ∈ (L.ts ++ [l]).map (fun l : TL => l.pa) := m
    rw [List.map_append] at m'
    have : ∃ xs, H' b = some (.lst xs) := by
      rcases List.mem_append.mp m' with m | m
      · obtain ⟨xs, e⟩ := v.pas b m; exact ⟨xs, sm _ _ e⟩
      · simp at m; subst m; exact hp
    obtain ⟨xs, e⟩ := this
    exact ⟨xs, f _ _ e (ne_of e hdt (by intro z; cases z))⟩
theorem Bare.addR (v : Bare K H L s) {a : Addr} {x : Rule} (sm : Same H H') (na : H a = none) (rx : RuleAt K H' a x) :
    Bare K (upd H' L.dr (.dK (rulesK (L.rs ++ [a]) (s.rules ++ [x])))) { L with rs := L.rs ++ [a] } { s with rules := s.rules ++ [x] } := by
  have hh := v.hat.same sm
  have hdr := sm _ _ v.opn.dr
  have q : Quiet H' (upd H' L.dr (.dK (rulesK (L.rs ++ [a]) (s.rules ++ [x])))) := Quiet.upd1 hdr soft_dK
  have f : Fr (At L.dr) H' (upd H' L.dr (.dK (rulesK (L.rs ++ [a]) (s.rules ++ [x])))) := Fr.at1
  have ni : ∀ a c dx fs, H' a = some (.ins c dx fs) → ¬ At L.dr a := fun a c dx fs e z => ne_of e hdr (by intro z; cases z) z
  have ds := f _ _ (sm _ _ v.opn.ds) v.sep.d2
  have dt := f _ _ (sm _ _ v.opn.dt) v.sep.d3
  obtain ⟨_, _, _, _, _, _, _, _, e0⟩ := rx.there
  refine ⟨⟨?_, .inl ds, .inl dt, .inl upd_same, ?_, ?_⟩, ⟨v.sep.ts, v.sep.ps, ?_, v.sep.d1, v.sep.d2, v.sep.d3⟩, ⟨ds, dt, upd_same⟩, ?_⟩
  · obtain ⟨dx, e⟩ := hh.h; exact ⟨dx, f _ _ e (ni _ _ _ _ e)⟩
  · refine paired_map2 hh.ts fun j b z h1 h2 h3 => ?_
    obtain ⟨_, _, _, _, _, _, _, _, _, e3⟩ := h3.there
    exact h3.quiet q (f.eq e3 (ni _ _ _ _ e3))
  · refine paired_end (paired_map2 hh.rs fun j b z h1 h2 h3 => ?_) (rx.quiet q (f.eq e0 (ni _ _ _ _ e0)))
    obtain ⟨_, _, _, _, _, _, _, _, e3⟩ := h3.there
    exact h3.quiet q (f.eq e3 (ni _ _ _ _ e3))
  · refine nodup_snoc v.sep.rs fun z => ?_
    obtain ⟨c, dx, fs, e, _⟩ := v.hat.mt_ins (.inr z)
    rw [na] at e; cases e
  · intro b m
    obtain ⟨xs, e⟩ := v.pas b m
    exact ⟨xs, f _ _ (sm _ _ e) (ne_of (sm _ _ e) hdr (by intro z; cases z))⟩
/-- a dict that is not this house's is locked or unlocked -/
theorem Bare.lock (v : Bare K H L s) {d : Addr} {kvs : List (Key × V)} {o' : HO} (e : Rd H d (.dK kvs)) (r : o' = .dK kvs ∨ ∃ o, o' = .frz o (.dK kvs)) (n : ¬ MaL L d) : Bare K (upd H d o') L s := by
  have f : Fr (At d) H (upd H d o') := Fr.at1
  have nm : ∀ b, MaL L b → ¬ At d b := fun b m z => n (z ▸ m)
  refine ⟨v.hat.lock e r, v.sep, ⟨f _ _ v.opn.ds (nm _ (.inr (.inr (.inl rfl)))), f _ _ v.opn.dt (nm _ (.inr (.inr (.inr (.inl rfl))))), f _ _ v.opn.dr (nm _ (.inr (.inr (.inr (.inr rfl)))))⟩, fun b m => ?_⟩
  obtain ⟨xs, z⟩ := v.pas b m
  exact ⟨xs, f _ _ z (nm _ (.inr (.inl m)))⟩
end
theorem MaL.addT {L : Lay} {l : TL} {b : Addr} (m : MaL { L with ts := L.ts ++ [l] } b) : MaL L b ∨ b = l.a ∨ b = l.pa := by
  rcases m with (m | m | m) | m | m | m | m
  · exact .inl (.inl (.inl m))
  · have m' : b ∈ (L.ts ++ [l]).map (fun l : TL => l.a) := m
    rw [List.map_append] at m'
    rcases List.mem_append.mp m' with m | m
    · exact .inl (.inl (.inr (.inl m)))
    · simp at m; exact .inr (.inl m)
  · exact .inl (.inl (.inr (.inr m)))
  · have m' : b ∈ (L.ts ++ [l]).map (fun l : TL => l.pa) := m
    rw [List.map_append] at m'
    rcases List.mem_append.mp m' with m | m
    · exact .inl (.inr (.inl m))
    · simp at m; exact .inr (.inr m)
  · exact .inl (.inr (.inr (.inl m)))
  · exact .inl (.inr (.inr (.inr (.inl m))))
  · exact .inl (.inr (.inr (.inr (.inr m))))
theorem MaL.addR {L : Lay} {a b : Addr} (m : MaL { L with rs := L.rs ++ [a] } b) : MaL L b ∨ b = a := by
  rcases m with (m | m | m) | m | m | m | m
  · exact .inl (.inl (.inl m))
  · exact .inl (.inl (.inr (.inl m)))
  · have m' : b ∈ L.rs ++ [a] := m
    rcases List.mem_append.mp m' with m | m
    · exact .inl (.inl (.inr (.inr m)))
    · simp at m; exact .inr m
  · exact .inl (.inr (.inl m))
  · exact .inl (.inr (.inr (.inl m)))
  · exact .inl (.inr (.inr (.inr (.inl m))))
  · exact .inl (.inr (.inr (.inr (.inr m))))
section
variable {P : Program} {w : World} {K : PySem.W.Frag} {mg : Str → Option Value} {base : Heap}
def sp_twin_of_thing (K : PySem.W.Frag) : Sp := fun vs H Q _ => ∃ (l : TL) (x : Thing), vs = [.ref l.a] ∧ ThingAt K H l x ∧ ∀ H' l', H l'.a = none → H l'.pa = none → Same H H' → ThingAt K H' l' x → H' l'.pa = some (.lst []) → Q (.ref l'.a) H'
theorem sc_twin_of_thing : FnScope ["thing", "twin"] ["thing"] (defScope s_twin_of_thing) := ⟨rfl, rfl, rfl, by decide +kernel, rfl, by decide +kernel, by decide +kernel⟩
theorem ok_twin_of_thing (g : Good w K mg) : FnOk P w K mg base CX0 3 (He.ga K "twin_of_thing") (fdA K (He.ga K "twin_of_thing")) ["thing"] (sp_twin_of_thing K) := by
  refine (F_twin_of_thing g).ok sc_twin_of_thing (fun vs H Q E h => ?_) (fun cdv A outer s0 H vs Q E hr h => ⟨_, PSs.nox (pss_cons (ps_set (i := 1) sc_twin_of_thing.nd rfl (Or.inl rfl) (pe_make (mk_Thing g) (ok_Thing_init g) (hr.mono (by decide)) rfl (m_Thing g) (b_Thing_init g) .nil pass0 (pa_cons (pe_fld (pv 0) rfl) (pa_cons (pe_fld (pv 0) rfl) pa_nil)))) (pss_cons (ps_fld (pv 1) (pe_fld (pv 0) rfl) rfl) (pss_cons (ps_fld (pv 1) (pe_fld (pv 0) rfl) rfl) (pss_cons (ps_fld (pv 1) (pe_fld (pv 0) rfl) rfl) (pss_cons (ps_fld (pv 1) (pe_fld (pv 0) rfl) rfl) (pss_one (ps_ret (pv 1)))))))), ?_⟩)
  · obtain ⟨l, x, rfl, _⟩ := h; rfl
  · obtain ⟨l, x, rfl, ⟨dx, o, hv, h1, h2, h3⟩, k⟩ := h
    refine ⟨_, rfl, l.a, _, dx, _, _, rfl, h1, cl_Thing g, na_Thing_value g, lk_Thing_value .., ?_⟩
    refine ⟨_, rfl, l.a, _, dx, _, _, rfl, h1, cl_Thing g, na_Thing_born g, lk_Thing_born .., fun b db nb ndb nn => ?_⟩
    refine ⟨b, db, _, _, rfl, upd_same, fun H2 o2 pa no1 np1 hb ho hpa f2 => ⟨rfl, ?_⟩⟩
    have sm : Same H H2 := made_same nb ndb f2
    have nlb : l.a ≠ b := ne_of_none h1 nb
    have h1a := sm _ _ h1
    refine ⟨_, rfl, l.a, _, dx, _, _, rfl, h1a, cl_Thing g, na_Thing_target g, lk_Thing_target .., ?_⟩
    refine ⟨_, rfl, b, _, db, _, rfl, hb, cl_Thing g, na_Thing_target g, (by show 7 < 1000; decide), ?_⟩
    rw [pt_Thing_target]
    refine ⟨_, rfl, l.a, _, dx, _, _, rfl, (upd_ne nlb).trans h1a, cl_Thing g, na_Thing_origin g, lk_Thing_origin .., ?_⟩
    refine ⟨_, rfl, b, _, db, _, rfl, upd_same, cl_Thing g, na_Thing_origin g, (by show 7 < 1000; decide), ?_⟩
    rw [pt_Thing_origin]
    refine ⟨_, rfl, l.a, _, dx, _, _, rfl, (upd_ne nlb).trans ((upd_ne nlb).trans h1a), cl_Thing g, na_Thing_deaf g, lk_Thing_deaf .., ?_⟩
    refine ⟨_, rfl, b, _, db, _, rfl, upd_same, cl_Thing g, na_Thing_deaf g, (by show 7 < 1000; decide), ?_⟩
    rw [pt_Thing_deaf]
    refine ⟨_, rfl, l.a, _, dx, _, _, rfl, (upd_ne nlb).trans ((upd_ne nlb).trans ((upd_ne nlb).trans h1a)), cl_Thing g, na_Thing_hold g, lk_Thing_hold .., ?_⟩
    refine ⟨_, rfl, b, _, db, _, rfl, upd_same, cl_Thing g, na_Thing_hold g, (by show 7 < 1000; decide), ?_⟩
    rw [pt_Thing_hold]
    refine ⟨_, rfl, ?_⟩
    have nop : ∀ {a : Addr}, upd (upd H db (.own b)) b (.ins (cThing K) db []) a = none → H a = none := fun {a} z => by
      by_cases c1 : a = b
      · rw [c1, upd_same] at z; cases z
      · rw [upd_ne c1] at z
        by_cases c2 : a = db
        · rw [c2, upd_same] at z; cases z
        · rw [upd_ne c2] at z; exact z
    have sB : ∀ a u, H a = some u → a ≠ b := fun a u e => ne_of_none e nb
    have npb : pa ≠ b := ne_of hpa hb (by intro z; cases z)
    refine k _ ⟨b, pa, l.born⟩ nb (nop np1) (fun a u e => ?_) ⟨db, o, hv, upd_same, ?_, ?_⟩ ?_
    · rw [upd_ne (sB _ _ e), upd_ne (sB _ _ e), upd_ne (sB _ _ e), upd_ne (sB _ _ e)]; exact sm _ _ e
    · rw [upd_ne (sB _ _ h2), upd_ne (sB _ _ h2), upd_ne (sB _ _ h2), upd_ne (sB _ _ h2)]; exact sm _ _ h2
    · refine h3.same fun a u e => ?_
      rw [upd_ne (sB _ _ e), upd_ne (sB _ _ e), upd_ne (sB _ _ e), upd_ne (sB _ _ e)]; exact sm _ _ e
    · rw [upd_ne npb, upd_ne npb, upd_ne npb, upd_ne npb]; exact hpa
def sp_twin_of_rule (K : PySem.W.Frag) : Sp := fun vs H Q _ => ∃ (a : Addr) (x : Rule), vs = [.ref a] ∧ RuleAt K H a x ∧ ∀ H' a', H a' = none → Same H H' → RuleAt K H' a' x → Q (.ref a') H'
theorem sc_twin_of_rule : FnScope ["rule", "twin"] ["rule"] (defScope s_twin_of_rule) := ⟨rfl, rfl, rfl, by decide +kernel, rfl, by decide +kernel, by decide +kernel⟩
theorem ok_twin_of_rule (g : Good w K mg) : FnOk P w K mg base CX0 3 (He.ga K "twin_of_rule") (fdA K (He.ga K "twin_of_rule")) ["rule"] (sp_twin_of_rule K) := by
  refine (F_twin_of_rule g).ok sc_twin_of_rule (fun vs H Q E h => ?_) (fun cdv A outer s0 H vs Q E hr h => ⟨_, PSs.nox (pss_cons (ps_set (i := 1) sc_twin_of_rule.nd rfl (Or.inl rfl) (pe_make (mk_Rule g) (ok_Rule_init g) (hr.mono (by decide)) rfl (m_Rule g) (b_Rule_init g) .nil pass0 (pa_cons (pe_fld (pv 0) rfl) (pa_cons (pe_fld (pv 0) rfl) (pa_cons (pe_fld (pv 0) rfl) (pa_cons (pe_fld (pv 0) rfl) (pa_cons (pe_fld (pv 0) rfl) pa_nil))))))) (pss_cons (ps_fld (pv 1) (pe_fld (pv 0) rfl) rfl) (pss_one (ps_ret (pv 1))))), ?_⟩)
  · obtain ⟨l, x, rfl, _⟩ := h; rfl
  · obtain ⟨l, x, rfl, ⟨dx, vc, va, h1, h2, h3⟩, k⟩ := h
    refine ⟨_, rfl, l, _, dx, _, _, rfl, h1, cl_Rule g, na_Rule_rank g, lk_Rule_rank .., ?_⟩
    refine ⟨_, rfl, l, _, dx, _, _, rfl, h1, cl_Rule g, na_Rule_delay g, lk_Rule_delay .., ?_⟩
    refine ⟨_, rfl, l, _, dx, _, _, rfl, h1, cl_Rule g, na_Rule_condition g, lk_Rule_condition .., ?_⟩
    refine ⟨_, rfl, l, _, dx, _, _, rfl, h1, cl_Rule g, na_Rule_thing g, lk_Rule_thing .., ?_⟩
    refine ⟨_, rfl, l, _, dx, _, _, rfl, h1, cl_Rule g, na_Rule_amount g, lk_Rule_amount .., fun b db nb ndb nn => ?_⟩
    refine ⟨b, db, _, _, vc, x.thing, va, rfl, upd_same, fun H2 hb f2 => ⟨rfl, ?_⟩⟩
    have sm : Same H H2 := made_same nb ndb f2
    refine ⟨_, rfl, l, _, dx, _, _, rfl, sm _ _ h1, cl_Rule g, na_Rule_count g, lk_Rule_count .., ?_⟩
    refine ⟨_, rfl, b, _, db, _, rfl, hb, cl_Rule g, na_Rule_count g, (by show 6 < 1000; decide), ?_⟩
    rw [pt_Rule_count]
    refine ⟨_, rfl, ?_⟩
    have sm2 : Same H (upd H2 b (.ins (cRule K) db (fsRule (x.rank : Nat) (x.after : Nat) vc x.thing va (x.held : Nat)))) := fun a u e => by rw [upd_ne (ne_of_none e nb)]; exact sm _ _ e
    exact k _ b nb sm2 ⟨db, vc, va, upd_same, h2.keep (Tups.of_same sm2), h3.keep (Tups.of_same sm2)⟩
end
end Hw
end

/-! ## part T1 -/
section
set_option Elab.async false
set_option linter.all false
set_option maxRecDepth 100000
set_option maxHeartbeats 2000000
namespace Hw
open PySem PySem.Spec PyProof.Rows L2
open Hr01 (Bytes Words Term Sum Cond ascii isName num? term? digit small sum? parted Cmd Rule cmd? Thing House By byText thingsIn thingsOf valueOf termValue sumValue isSensor thingOf ruleOf leaves joined decimal told listed termText sumText condText wanted clamped looked become wasAt minute minutes taken withThing setSensor does no)
theorem take_not_mem {α : Type} {l : List α} (nd : l.Nodup) {i : Nat} {x : α} (h : l[i]? = some x) : x ∉ l.take i := fun m => by
  obtain ⟨j, hj⟩ := List.mem_iff_getElem?.mp m
  have jl : j < (l.take i).length := (List.getElem?_eq_some_iff.mp hj).1
  rw [List.length_take] at jl
  rw [List.getElem?_take_of_lt (by omega)] at hj
  have := nodup_at nd hj h rfl
  omega
theorem thingsK_none {ts : List TL} {xs : List Thing} {n : Bytes} (h : n ∉ xs.map (·.name)) : valV (thingsK ts xs) (.inr (S n)) = none := by
  induction ts generalizing xs with
  | nil => cases xs <;> rfl
  | cons l r ih =>
    cases xs with
    | nil => rfl
    | cons x xs =>
      rw [List.map_cons, List.mem_cons, not_or] at h
      show valV (((Sum.inr (S x.name) : Key), V.ref l.a) :: thingsK r xs) _ = none
      rw [valV_neg (fun z => h.1 (key_iff.mp z).symm)]
      exact ih h.2
theorem rulesK_none {ts : List Addr} {xs : List Rule} {n : Bytes} (h : n ∉ xs.map (·.name)) : valV (rulesK ts xs) (.inr (S n)) = none := by
  induction ts generalizing xs with
  | nil => cases xs <;> rfl
  | cons l r ih =>
    cases xs with
    | nil => rfl
    | cons x xs =>
      rw [List.map_cons, List.mem_cons, not_or] at h
      show valV (((Sum.inr (S x.name) : Key), V.ref l) :: rulesK r xs) _ = none
      rw [valV_neg (fun z => h.1 (key_iff.mp z).symm)]
      exact ih h.2
theorem made_none {H : Hp} {b db a : Addr} {C : Addr} (z : upd (upd H db (.own b)) b (.ins C db []) a = none) : H a = none := by
  by_cases c1 : a = b
  · rw [c1, upd_same] at z; cases z
  · rw [upd_ne c1] at z
    by_cases c2 : a = db
    · rw [c2, upd_same] at z; cases z
    · rw [upd_ne c2] at z; exact z
section
variable {P : Program} {w : World} {K : PySem.W.Frag} {mg : Str → Option Value} {base : Heap}
def sp_twin_of_house (K : PySem.W.Frag) : Sp := fun vs H Q _ => ∃ (L : Lay) (s : House), vs = [.ref L.h] ∧ HouseAt K H L s ∧ Opn H L s ∧ WF s ∧ ∀ H' L', Same H H' → (∀ b, MaL L' b → H b = none) → Bare K H' L' s → Q (.ref L'.h) H'
theorem sc_twin_of_house : FnScope ["house", "twin", "name", "thing", "rule"] ["house"] (defScope s_twin_of_house) := ⟨rfl, rfl, rfl, by decide +kernel, rfl, by decide +kernel, by decide +kernel⟩
theorem ok_twin_of_house (g : Good w K mg) : FnOk P w K mg base CX0 4 (He.ga K "twin_of_house") (fdA K (He.ga K "twin_of_house")) ["house"] (sp_twin_of_house K) := by
  refine (F_twin_of_house g).ok sc_twin_of_house (fun vs H Q E h => ?_) (fun cdv A outer s0 H vs Q E hr h => ⟨_, PSs.nox (pss_cons (ps_set (i := 1) sc_twin_of_house.nd rfl (Or.inl rfl) (pe_make0 (mk_House g) (ok_House_init g) (hr.mono (by decide)) rfl (m_House g) (b_House_init g) .nil pass0)) (pss_cons (ps_fld (pv 1) (pe_fld (pv 0) rfl) rfl) (pss_cons (ps_fld (pv 1) (pe_callTy call_dictD rfl (fr_dict g) (by decide +kernel) (pa_cons (pe_fld (pv 0) rfl) pa_nil)) rfl) (pss_cons (ps_lock (ps_for PassesOwn.never rfl (pi_items (pe_fld (pv 0) rfl)) (pg_tup rfl (pgs_cons (pg_name (i := 2) sc_twin_of_house.nd rfl (Or.inl rfl)) (pgs_cons (pg_name (i := 3) sc_twin_of_house.nd rfl (Or.inl rfl)) pgs_nil))) (pss_one (ps_dput (hu_of hr) (pe_fld (pv 1) rfl) (pv 2) (pe_call (ok_twin_of_thing g) (hr.mono (by decide)) rfl (m_twin_of_thing g) (F_twin_of_thing g).kp (b_twin_of_thing g) .nil pass0 (pa_cons (pv 3) pa_nil)) rfl)))) (pss_cons (ps_lock (ps_for PassesOwn.never rfl (pi_items (pe_fld (pv 0) rfl)) (pg_tup rfl (pgs_cons (pg_name (i := 2) sc_twin_of_house.nd rfl (Or.inl rfl)) (pgs_cons (pg_name (i := 4) sc_twin_of_house.nd rfl (Or.inl rfl)) pgs_nil))) (pss_one (ps_dput (hu_of hr) (pe_fld (pv 1) rfl) (pv 2) (pe_call (ok_twin_of_rule g) (hr.mono (by decide)) rfl (m_twin_of_rule g) (F_twin_of_rule g).kp (b_twin_of_rule g) .nil pass0 (pa_cons (pv 4) pa_nil)) rfl)))) (pss_one (ps_ret (pv 1)))))))), ?_⟩)
  · obtain ⟨L, s, rfl, _⟩ := h; rfl
  · obtain ⟨L, s, rfl, hh, op, wf, k⟩ := h
    obtain ⟨dx, hH⟩ := hh.h
    have ft := wf.few.ft
    have fr := wf.few.fr
    intro b db nb ndb nn
    refine ⟨b, db, rfl, upd_same, fun H1 ds dt dr n1 n2 n3 d1 d2 d3 hb e1 e2 e3 f1 => ⟨rfl, ?_⟩⟩
    have s1 : Same H H1 := made_same nb ndb f1
    replace hb : H1 b = some (.ins (cHouse K) db (fsHouse 0 ds dt dr)) := hb
    have m1 := made_none n1
    have m2 := made_none n2
    have m3 := made_none n3
    have nhb : L.h ≠ b := ne_of_none hH nb
    refine ⟨_, rfl, L.h, _, dx, _, _, rfl, s1 _ _ hH, cl_House g, na_House_clock g, lk_House_clock .., ?_⟩
    refine ⟨_, rfl, b, cHouse K, db, _, rfl, hb, cl_House g, na_House_clock g, (by show 4 < 1000; decide), ?_⟩
    rw [pt_House_clock]
    have s2 : Same H (upd H1 b (.ins (cHouse K) db (fsHouse (s.clock : Nat) ds dt dr))) := fun a u e => by rw [upd_ne (ne_of_none e nb)]; exact s1 _ _ e
    refine ⟨_, rfl, L.h, _, dx, _, _, rfl, s2 _ _ hH, cl_House g, na_House_sensors g, lk_House_sensors .., ?_⟩
    refine ⟨L.ds, _, rfl, .inl (s2 _ _ op.ds), fun d5 n5 => ?_⟩
    have b5 : b ≠ d5 := fun z => by rw [← z, upd_same] at n5; cases n5
    have n5' : H1 d5 = none := by rw [upd_ne b5.symm] at n5; exact n5
    refine ⟨_, rfl, b, cHouse K, db, _, rfl, (upd_ne b5).trans upd_same, cl_House g, na_House_sensors g, (by show 4 < 1000; decide), ?_⟩
    rw [pt_House_sensors]
    have bt : dt ≠ b := ne_of e2 hb (by intro z; cases z)
    have br : dr ≠ b := ne_of e3 hb (by intro z; cases z)
    have t5 : dt ≠ d5 := ne_of_none e2 n5'
    have r5 : dr ≠ d5 := ne_of_none e3 n5'
    have s3 : Same H (upd (upd (upd H1 b (.ins (cHouse K) db (fsHouse (s.clock : Nat) ds dt dr))) d5 (.dK (sensK s.sensors))) b (.ins (cHouse K) db (fsHouse (s.clock : Nat) d5 dt dr))) := fun a u e => by
      rw [upd_ne (ne_of_none e nb), upd_ne (ne_of_none (s2 _ _ e) n5)]; exact s2 _ _ e
    have q0 : Bare K (upd (upd (upd H1 b (.ins (cHouse K) db (fsHouse (s.clock : Nat) ds dt dr))) d5 (.dK (sensK s.sensors))) b (.ins (cHouse K) db (fsHouse (s.clock : Nat) d5 dt dr))) ⟨b, d5, dt, dr, [], []⟩ ⟨s.clock, s.sensors, [], []⟩ := by
      have a1 : upd (upd (upd H1 b (.ins (cHouse K) db (fsHouse (s.clock : Nat) ds dt dr))) d5 (.dK (sensK s.sensors))) b (.ins (cHouse K) db (fsHouse (s.clock : Nat) d5 dt dr)) d5 = some (.dK (sensK s.sensors)) := by rw [upd_ne b5.symm, upd_same]
      have a2 : upd (upd (upd H1 b (.ins (cHouse K) db (fsHouse (s.clock : Nat) ds dt dr))) d5 (.dK (sensK s.sensors))) b (.ins (cHouse K) db (fsHouse (s.clock : Nat) d5 dt dr)) dt = some (.dK []) := by rw [upd_ne bt, upd_ne t5, upd_ne bt]; exact e2
      have a3 : upd (upd (upd H1 b (.ins (cHouse K) db (fsHouse (s.clock : Nat) ds dt dr))) d5 (.dK (sensK s.sensors))) b (.ins (cHouse K) db (fsHouse (s.clock : Nat) d5 dt dr)) dr = some (.dK []) := by rw [upd_ne br, upd_ne r5, upd_ne br]; exact e3
      exact ⟨⟨⟨db, upd_same⟩, .inl a1, .inl a2, .inl a3, .nil, .nil⟩, ⟨List.nodup_nil, List.nodup_nil, List.nodup_nil, t5.symm, r5.symm, d3⟩, ⟨a1, a2, a3⟩, fun b m => absurd m List.not_mem_nil⟩
    have nw0 : ∀ a, MaL ⟨b, d5, dt, dr, [], []⟩ a → H a = none := by
      rintro a ((m | m | m) | m | m | m | m)
      · rw [m]; exact nb
      · exact absurd m List.not_mem_nil
      · exact absurd m List.not_mem_nil
      · exact absurd m List.not_mem_nil
      · rw [m]; exact s1.free n5'
      · rw [m]; exact m2
      · rw [m]; exact m3
    generalize upd (upd (upd H1 b (.ins (cHouse K) db (fsHouse (s.clock : Nat) ds dt dr))) d5 (.dK (sensK s.sensors))) b (.ins (cHouse K) db (fsHouse (s.clock : Nat) d5 dt dr)) = H3 at s3 q0
    -- the devices
    have hdt3 := s3 _ _ op.dt
    refine ⟨L.dt, _, hdt3, trivial, fun od => ?_⟩
    refine ⟨_, rfl, L.h, _, dx, _, _, rfl, (upd_ne (ne_of hH op.dt (by intro z; cases z))).trans (s3 _ _ hH), cl_House g, na_House_things g, lk_House_things .., ?_⟩
    refine ⟨L.dt, od, _, rfl, upd_same, ?_⟩
    have nt0 : ¬ MaL ⟨b, d5, dt, dr, [], []⟩ L.dt := fun m => by have := nw0 _ m; rw [op.dt] at this; cases this
    refine for_it (walk_itT hh.lt) (fun i σ H' => Fr (At L.dt) H H' ∧ H' L.dt = some (.frz od (.dK (thingsK L.ts s.things))) ∧ (∃ ts', Bare K H' ⟨b, d5, dt, dr, ts', []⟩ ⟨s.clock, s.sensors, s.things.take i, []⟩ ∧ ∀ a, MaL ⟨b, d5, dt, dr, ts', []⟩ a → H a = none) ∧ ∃ x y z, σ = [some (.ref L.h), some (.ref b), x, y, z])
      ⟨(Fr.of_same s3).trans Fr.at1, upd_same, ⟨[], q0.lock (.inl hdt3) (.inr ⟨od, rfl⟩) nt0, nw0⟩, none, none, none, rfl⟩ (fun i σ H' _ z => z.2.1) ?_ ?_
    · rintro i y σ H' H2 hi ⟨f, hlk, ⟨ts', v, nw⟩, z1, z2, z3, rfl⟩ ⟨T, l, x, hl, hx, rfl, hT, rfl⟩
      obtain ⟨x', hx', tx⟩ := paired_get hh.ts hl
      rw [hx] at hx'; cases hx'
      obtain ⟨_, _, _, _, _, _, _, _, _, e4⟩ := tx.there
      have qf : Quiet H H' := Quiet.at1 f op.dt soft_dK
      have tx' : ThingAt K H' l x := tx.quiet qf (f.eq e4 (ne_of e4 op.dt (by intro z; cases z)))
      have sT := same_new (o := HO.tup [vS x.name, .ref l.a]) hT
      have v1 := v.same sT
      obtain ⟨dz, hb1⟩ := v1.hat.h
      refine ⟨T, _, rfl, SqT.of upd_same, rfl, _, _, rfl, _, _, rfl, rfl, ?_⟩
      refine ⟨_, rfl, l, x, rfl, tx'.same sT, fun H4 l' nla npa s4 tx4 hpa => ?_⟩
      have v4 := v1.same s4
      have hdt4 := v4.opn.dt
      have len : (s.things.take i).length ≤ 4 := by rw [List.length_take]; omega
      have eln : ts'.length = (s.things.take i).length := v.hat.lt
      refine ⟨_, rfl, b, _, dz, _, _, rfl, s4 _ _ hb1, cl_House g, na_House_things g, lk_House_things .., ?_⟩
      refine ⟨_, rfl, dt, _, rfl, DPut.k (k := .inr (S x.name)) hdt4 (by rw [thingsK_len eln, sizeLine_eq]; omega), ?_⟩
      have hne : valV (thingsK ts' (s.things.take i)) (.inr (S x.name)) = none := thingsK_none (by
        rw [List.map_take]
        exact take_not_mem (nd_things wf.names) (by rw [List.getElem?_map, hx]; rfl))
      rw [putK_new _ hne, ← thingsK_snoc eln l' x]
      have v5 := v1.addT (l := l') (x := x) s4 nla npa tx4 ⟨_, hpa⟩
      have et : s.things.take (i + 1) = s.things.take i ++ [x] := by rw [List.take_succ, hx]; rfl
      have nd4 : L.dt ≠ dt := fun z => by
        have h0 := nw dt (.inr (.inr (.inr (.inl rfl)))); rw [← z, op.dt] at h0; cases h0
      have hlk4 := s4 _ _ (sT _ _ hlk)
      have fre : ∀ a, H' a = none → H a = none := fun a z => by
        cases e : H a with
        | none => rfl
        | some o =>
          by_cases c : a = L.dt
          · rw [c, hlk] at z; cases z
          · rw [f a o e c] at z; cases z
      refine ⟨?_, (upd_ne nd4).trans hlk4, ⟨ts' ++ [l'], by rw [et]; exact v5, fun a m => ?_⟩, some (vS x.name), some (.ref l.a), z3, rfl⟩
      · intro a o e n
        have e5 := f a o e n
        rw [upd_ne (fun z => by have h0 := nw dt (.inr (.inr (.inr (.inl rfl)))); rw [← z, e] at h0; cases h0)]
        exact s4 _ _ (sT _ _ e5)
      · rcases MaL.addT (L := ⟨b, d5, dt, dr, ts', []⟩) m with m | m | m
        · exact nw a m
        · rw [m]; exact fre _ (sT.free nla)
        · rw [m]; exact fre _ (sT.free npa)
    · rintro σ H' ⟨f, hlk, ⟨ts', v, nw⟩, z1, z2, z3, rfl⟩
      refine ⟨hlk, ?_⟩
      rw [List.take_length] at v
      have nt : ¬ MaL ⟨b, d5, dt, dr, ts', []⟩ L.dt := fun m => by have := nw _ m; rw [op.dt] at this; cases this
      have v2 := v.lock (o' := .dK (thingsK L.ts s.things)) (.inr ⟨od, hlk⟩) (.inl rfl) nt
      have s4 : Same H (upd H' L.dt (.dK (thingsK L.ts s.things))) := f.unlock op.dt
      generalize upd H' L.dt (.dK (thingsK L.ts s.things)) = H4 at v2 s4
      -- the rules
      have hdr4 := s4 _ _ op.dr
      refine ⟨L.dr, _, hdr4, trivial, fun od2 => ?_⟩
      refine ⟨_, rfl, L.h, _, dx, _, _, rfl, (upd_ne (ne_of hH op.dr (by intro z; cases z))).trans (s4 _ _ hH), cl_House g, na_House_rules g, lk_House_rules .., ?_⟩
      refine ⟨L.dr, od2, _, rfl, upd_same, ?_⟩
      have nr0 : ¬ MaL ⟨b, d5, dt, dr, ts', []⟩ L.dr := fun m => by have := nw _ m; rw [op.dr] at this; cases this
      refine for_it (walk_itR hh.lr) (fun i σ H' => Fr (At L.dr) H H' ∧ H' L.dr = some (.frz od2 (.dK (rulesK L.rs s.rules))) ∧ (∃ rs', Bare K H' ⟨b, d5, dt, dr, ts', rs'⟩ ⟨s.clock, s.sensors, s.things, s.rules.take i⟩ ∧ ∀ a, MaL ⟨b, d5, dt, dr, ts', rs'⟩ a → H a = none) ∧ ∃ x y z, σ = [some (.ref L.h), some (.ref b), x, y, z])
        ⟨(Fr.of_same s4).trans Fr.at1, upd_same, ⟨[], v2.lock (.inl hdr4) (.inr ⟨od2, rfl⟩) nr0, nw⟩, z1, z2, z3, rfl⟩ (fun i σ H' _ z => z.2.1) ?_ ?_
      · rintro i y σ H5 H6 hi ⟨f5, hlk5, ⟨rs', v5, nw5⟩, y1, y2, y3, rfl⟩ ⟨T, l, x, hl, hx, rfl, hT, rfl⟩
        obtain ⟨x', hx', tx⟩ := paired_get hh.rs hl
        rw [hx] at hx'; cases hx'
        obtain ⟨_, _, _, _, _, _, _, _, e4⟩ := tx.there
        have qf : Quiet H H5 := Quiet.at1 f5 op.dr soft_dK
        have tx' : RuleAt K H5 l x := tx.quiet qf (f5.eq e4 (ne_of e4 op.dr (by intro z; cases z)))
        have sT := same_new (o := HO.tup [vS x.name, .ref l]) hT
        have v1 := v5.same sT
        obtain ⟨dz, hb1⟩ := v1.hat.h
        refine ⟨T, _, rfl, SqT.of upd_same, rfl, _, _, rfl, _, _, rfl, rfl, ?_⟩
        refine ⟨_, rfl, l, x, rfl, tx'.same sT, fun H7 l' nla s7 tx7 => ?_⟩
        have v7 := v1.same s7
        have hdr7 := v7.opn.dr
        have len : (s.rules.take i).length ≤ 6 := by rw [List.length_take]; omega
        have eln : rs'.length = (s.rules.take i).length := v5.hat.lr
        refine ⟨_, rfl, b, _, dz, _, _, rfl, s7 _ _ hb1, cl_House g, na_House_rules g, lk_House_rules .., ?_⟩
        refine ⟨_, rfl, dr, _, rfl, DPut.k (k := .inr (S x.name)) hdr7 (by rw [rulesK_len eln, sizeLine_eq]; omega), ?_⟩
        have hne : valV (rulesK rs' (s.rules.take i)) (.inr (S x.name)) = none := rulesK_none (by
          rw [List.map_take]
          exact take_not_mem wf.rn (by rw [List.getElem?_map, hx]; rfl))
        rw [putK_new _ hne, ← rulesK_snoc eln l' x]
        have v8 := v1.addR (a := l') (x := x) s7 nla tx7
        have et : s.rules.take (i + 1) = s.rules.take i ++ [x] := by rw [List.take_succ, hx]; rfl
        have ndr : dr ≠ L.dr := fun z => by
          have h0 := nw5 dr (.inr (.inr (.inr (.inr rfl)))); rw [z, op.dr] at h0; cases h0
        have hlk7 := s7 _ _ (sT _ _ hlk5)
        have fre : ∀ a, H5 a = none → H a = none := fun a z => by
          cases e : H a with
          | none => rfl
          | some o =>
            by_cases c : a = L.dr
            · rw [c, hlk5] at z; cases z
            · rw [f5 a o e c] at z; cases z
        refine ⟨?_, (upd_ne ndr.symm).trans hlk7, ⟨rs' ++ [l'], by rw [et]; exact v8, fun a m => ?_⟩, some (vS x.name), y2, some (.ref l), rfl⟩
        · intro a o e n
          have e5 := f5 a o e n
          rw [upd_ne (fun z => by have h0 := nw5 dr (.inr (.inr (.inr (.inr rfl)))); rw [← z, e] at h0; cases h0)]
          exact s7 _ _ (sT _ _ e5)
        · rcases MaL.addR (L := ⟨b, d5, dt, dr, ts', rs'⟩) m with m | m
          · exact nw5 a m
          · rw [m]; exact fre _ (sT.free nla)
      · rintro σ H5 ⟨f5, hlk5, ⟨rs', v5, nw5⟩, y1, y2, y3, rfl⟩
        refine ⟨hlk5, ?_⟩
        rw [List.take_length] at v5
        have nr : ¬ MaL ⟨b, d5, dt, dr, ts', rs'⟩ L.dr := fun m => by have := nw5 _ m; rw [op.dr] at this; cases this
        exact ⟨_, rfl, k _ ⟨b, d5, dt, dr, ts', rs'⟩ (f5.unlock op.dr) nw5 (v5.lock (o' := .dK (rulesK L.rs s.rules)) (.inr ⟨od2, hlk5⟩) (.inl rfl) nr)⟩
end
end Hw
end

/-! ## part T2 -/
section
set_option Elab.async false
set_option linter.all false
set_option maxRecDepth 100000
set_option maxHeartbeats 2000000
namespace Hw
open PySem PySem.Spec PyProof.Rows L2
open Hr01 (Bytes Words Term Sum Cond ascii isName num? term? digit small sum? parted Cmd Rule cmd? Thing House By byText thingsIn thingsOf valueOf termValue sumValue isSensor thingOf ruleOf leaves joined decimal told listed termText sumText condText wanted clamped looked become wasAt minute minutes taken withThing setSensor does no hangs ringed)
theorem pe_fldK {X : Cx} {K : PySem.W.Frag} {e : Expr} {f : Str} {pos : Pos} {ta : TE} (ek : X.K = K) (he : PE X e ta) (hb : attributeBase e f X.env (eval e X.env) = eval e X.env) : PE X (.Attribute e f pos) (tFld K ta f) := by
  subst ek
  exact pe_fld he hb
section
variable {K : PySem.W.Frag} {H H' : Hp} {L : Lay} {s : House}
theorem Bare.sens (v : Bare K H L s) (sn : List (Bytes × Nat)) : Bare K (upd H L.ds (.dK (sensK sn))) L { s with sensors := sn } := by
  have hh := v.hat
  have hds := v.opn.ds
  have q : Quiet H (upd H L.ds (.dK (sensK sn))) := Quiet.upd1 hds soft_dK
  have f : Fr (At L.ds) H (upd H L.ds (.dK (sensK sn))) := Fr.at1
  have ni : ∀ a c dx fs, H a = some (.ins c dx fs) → ¬ At L.ds a := fun a c dx fs e z => ne_of e hds (by intro z; cases z) z
  refine ⟨⟨?_, .inl upd_same, .inl (f _ _ v.opn.dt v.sep.d1.symm), .inl (f _ _ v.opn.dr v.sep.d2.symm), ?_, ?_⟩, v.sep, ⟨upd_same, f _ _ v.opn.dt v.sep.d1.symm, f _ _ v.opn.dr v.sep.d2.symm⟩, ?_⟩
  · obtain ⟨dx, e⟩ := hh.h; exact ⟨dx, f _ _ e (ni _ _ _ _ e)⟩
  · refine paired_map2 hh.ts fun j b z h1 h2 h3 => ?_
    obtain ⟨_, _, _, _, _, _, _, _, _, e3⟩ := h3.there
    exact h3.quiet q (f.eq e3 (ni _ _ _ _ e3))
  · refine paired_map2 hh.rs fun j b z h1 h2 h3 => ?_
    obtain ⟨_, _, _, _, _, _, _, _, e3⟩ := h3.there
    exact h3.quiet q (f.eq e3 (ni _ _ _ _ e3))
  · intro b m
    obtain ⟨xs, e⟩ := v.pas b m
    exact ⟨xs, f _ _ e (ne_of e hds (by intro z; cases z))⟩
theorem Bare.step (v : Bare K H L s) {t : House} (f : Fr (MhL L) H H') (h : HouseAt K H' L t) (o : Opn H' L t) : Bare K H' L t :=
  ⟨h, v.sep, o, fun b m => let ⟨xs, e⟩ := v.pas b m; ⟨xs, f.lsts (fun b m xs => v.hat.mh_lst b m xs) e⟩⟩
/-- what is new is no part of what was -/
theorem Fr.newL {H0 : Hp} (f : Fr (MhL L) H H') (n : ∀ b, MaL L b → H0 b = none) (sm : Same H0 H) : Same H0 H' := fun b o e => f b o (sm b o e) fun m => by
  have := n b (.inl m); rw [e] at this; cases this
end
theorem hangs_len {s : House} (wf : WF s) (n : Bytes) : (hangs s n).length ≤ 48024 := by
  unfold Hr01.hangs
  have : ∀ l : List Rule, (∀ r ∈ l, ROk r) → l.length ≤ 6 → (l.flatMap fun r => (thingsOf r.cond ++ thingsIn r.value).filter fun w => (thingOf s w).isSome).length ≤ 8004 * l.length := by
    intro l
    induction l with
    | nil => intro _ _; simp
    | cons r l ih =>
      intro h hl
      have ih := ih (fun q hq => h q (List.mem_cons_of_mem _ hq)) (by simp at hl; omega)
      have o := h r (List.mem_cons_self ..)
      have l1 := condThings_len o.cond o.size
      have l2 := thingsIn_le r.value
      have l3 := o.value.len
      have l4 := List.length_filter_le (fun w => (thingOf s w).isSome) (thingsOf r.cond ++ thingsIn r.value)
      rw [List.length_append] at l4
      rw [List.flatMap_cons, List.length_append, List.length_cons]; omega
  have h1 := List.length_filter_le (fun r : Rule => r.thing == n) s.rules
  have h2 := wf.few.fr
  have := this (s.rules.filter fun r => r.thing == n) (fun r hr => wf.ro r (List.mem_filter.mp hr).1) (by omega)
  omega
section
variable {P : Program} {w : World} {K : PySem.W.Frag} {mg : Str → Option Value} {base : Heap}
def sp_house_ahead (K : PySem.W.Frag) : Sp := fun vs H Q _ => ∃ (L : Lay) (s : House) (n : Bytes) (v m : Nat), vs = [.ref L.h, vS n, .int (v : Nat), .int (m : Nat)] ∧ HouseAt K H L s ∧ Opn H L s ∧ WF s ∧ isSensor s n = true ∧ v ≤ 999 ∧ m ≤ 100 ∧
  ∀ H' L', Same H H' → (∀ b, MaL L' b → H b = none) → Bare K H' L' (minutes m (setSensor s n v)) → Q (.ref L'.h) H'
theorem sc_house_ahead : FnScope ["house", "sensor", "value", "minutes", "twin", "minute"] ["house", "sensor", "value", "minutes"] (defScope s_house_ahead) := ⟨rfl, rfl, rfl, by decide +kernel, rfl, by decide +kernel, by decide +kernel⟩
theorem ok_house_ahead (g : Good w K mg) : FnOk P w K mg base CX0 27 (He.ga K "house_ahead") (fdA K (He.ga K "house_ahead")) ["house", "sensor", "value", "minutes"] (sp_house_ahead K) := by
  refine (F_house_ahead g).ok sc_house_ahead (fun vs H Q E h => ?_) (fun cdv A outer s0 H vs Q E hr h => ⟨_, PSs.nox (pss_cons (ps_set (i := 4) sc_house_ahead.nd rfl (Or.inl rfl) (pe_call (ok_twin_of_house g) (hr.mono (by decide)) rfl (m_twin_of_house g) (F_twin_of_house g).kp (b_twin_of_house g) .nil pass0 (pa_cons (pv 0) pa_nil))) (pss_cons (ps_dput (hu_of hr) (pe_fld (pv 4) rfl) (pv 1) (pv 2) rfl) (pss_cons (ps_for PassesOwn.never rfl (pi_range1 rfl (fr_range g) (pa_cons (pv 3) pa_nil)) (pg_name (i := 5) sc_house_ahead.nd rfl (Or.inl rfl)) (pss_one (ps_expr (pe_call (ok_pass_minute g) (hr.mono (by decide)) rfl (m_pass_minute g) (F_pass_minute g).kp (b_pass_minute g) .nil pass0 (pa_cons (pv 4) pa_nil))))) (pss_one (ps_ret (pv 4)))))), ?_⟩)
  · obtain ⟨L, s, n, v, m, rfl, _⟩ := h; rfl
  · obtain ⟨L, s, n, v, m, rfl, hh, op, wf, hs, hv, hm, k⟩ := h
    have fs := wf.few.fs
    refine ⟨_, rfl, L, s, rfl, hh, op, wf, fun H1 L' s1 nw b1 => ?_⟩
    obtain ⟨dx, hH⟩ := b1.hat.h
    have el : (sensK s.sensors).length = s.sensors.length := List.length_map _
    refine ⟨_, rfl, _, rfl, L'.h, _, dx, _, _, rfl, hH, cl_House g, na_House_sensors g, lk_House_sensors .., ?_⟩
    refine ⟨_, rfl, L'.ds, _, rfl, DPut.k (k := .inr (S n)) b1.opn.ds (by rw [el, sizeLine_eq]; omega), ?_⟩
    rw [putS_old hs]
    have b2 : Bare K (upd H1 L'.ds (.dK (sensK (setSensor s n v).sensors))) L' (setSensor s n v) := b1.sens _
    have s2 : Same H (upd H1 L'.ds (.dK (sensK (setSensor s n v).sensors))) := fun b o e => by
      rw [upd_ne (fun z => by have := nw L'.ds (.inr (.inr (.inl rfl))); rw [← z, e] at this; cases this)]; exact s1 _ _ e
    generalize upd H1 L'.ds (.dK (sensK (setSensor s n v).sensors)) = H2 at b2 s2
    have wf2 : WF (setSensor s n v) := wf.setS hv
    refine ⟨_, rfl, _, rfl, by omega, by omega, ?_⟩
    rw [Int.toNat_natCast]
    refine for_range (fun i σ H' => Bare K H' L' (minutes i (setSensor s n v)) ∧ Same H H' ∧ ∃ z, σ = [some (.ref L.h), some (vS n), some (.int (v : Nat)), some (.int (m : Nat)), some (.ref L'.h), z]) ⟨b2, s2, none, rfl⟩ ?_ ?_
    · rintro i σ H' hi ⟨b, sm, z, rfl⟩
      refine ⟨_, rfl, L', minutes i (setSensor s n v), rfl, b.hat, b.sep, b.opn, wf2.minutes, fun H3 f3 h3 o3 => ?_⟩
      rw [minutes_succ]
      exact ⟨b.step f3 h3 o3, f3.newL nw sm, some (.int (0 + (i : Nat))), rfl⟩
    · rintro σ H' ⟨b, sm, z, rfl⟩
      exact ⟨_, rfl, k _ L' sm nw b⟩
def sp_direct_needs (K : PySem.W.Frag) : Sp := fun vs H Q _ => ∃ (L : Lay) (s : House) (n : Bytes), vs = [.ref L.h, vS n] ∧ HouseAt K H L s ∧ H L.dr = some (.dK (rulesK L.rs s.rules)) ∧ WF s ∧ ∀ H' p, Same H H' → H p = none → H' p = some (.lst ((hangs s n).map vS)) → Q (.ref p) H'
theorem sc_direct_needs : FnScope ["house", "name", "needs", "rule", "need"] ["house", "name"] (defScope s_direct_needs) := ⟨rfl, rfl, rfl, by decide +kernel, rfl, by decide +kernel, by decide +kernel⟩
/-- the names in the rules of a device -/
def needs (n : Bytes) (rs : List Rule) : List Bytes := (rs.filter fun r => r.thing == n).flatMap fun r => thingsOf r.cond ++ thingsIn r.value
theorem needs_snoc (n : Bytes) (rs : List Rule) (r : Rule) : needs n (rs ++ [r]) = if r.thing = n then needs n rs ++ thingsOf r.cond ++ thingsIn r.value else needs n rs := by
  unfold needs
  rw [List.filter_append, List.flatMap_append]
  by_cases c : r.thing = n
  · rw [if_pos c]; simp [c]
  · rw [if_neg c]; simp [c]
theorem needs_len (n : Bytes) {rs : List Rule} (h : ∀ r ∈ rs, ROk r) : (needs n rs).length ≤ 8004 * rs.length := by
  induction rs with
  | nil => simp [needs]
  | cons r l ih =>
    have ih := ih fun q hq => h q (List.mem_cons_of_mem _ hq)
    have o := h r (List.mem_cons_self ..)
    have l1 := condThings_len o.cond o.size
    have l2 := thingsIn_le r.value
    have l3 := o.value.len
    unfold needs at ih ⊢
    rw [List.filter_cons]
    split
    · rw [List.flatMap_cons, List.length_append, List.length_append, List.length_cons]; omega
    · rw [List.length_cons]; omega
theorem needs_hangs (s : House) (n : Bytes) : (needs n s.rules).filter (fun w => (thingOf s w).isSome) = hangs s n := by
  unfold needs Hr01.hangs
  rw [List.filter_flatMap]
theorem ok_direct_needs (g : Good w K mg) : FnOk P w K mg base CX0 23 (He.ga K "direct_needs") (fdA K (He.ga K "direct_needs")) ["house", "name"] (sp_direct_needs K) := by
  refine (F_direct_needs g).ok sc_direct_needs (fun vs H Q E h => ?_) (fun cdv A outer s0 H vs Q E hr h => ⟨_, PSs.nox (pss_cons (ps_set (i := 2) sc_direct_needs.nd rfl (Or.inl rfl) (pe_lst pa_nil)) (pss_cons (ps_lock (ps_for PassesOwn.never rfl (pi_values (pe_fld (pv 0) rfl)) (pg_name (i := 3) sc_direct_needs.nd rfl (Or.inl rfl)) (pss_one (ps_if (pt_cmpR op_eq (pe_fld (pv 3) rfl) (pv 1) (nomark _)) (pss_cons (ps_expr (pe_bm PySem.F.plainAttrs_list PySem.F.slot_list_extend PySem.F.type_list_extend mt_extend (pv 2) (pa_cons (pe_call (ok_names_in_condition g) (hr.mono (by decide)) rfl (m_names_in_condition g) (F_names_in_condition g).kp (b_names_in_condition g) .nil pass0 (pa_cons (pe_fld (pv 3) rfl) pa_nil)) pa_nil))) (pss_one (ps_expr (pe_bm PySem.F.plainAttrs_list PySem.F.slot_list_extend PySem.F.type_list_extend mt_extend (pv 2) (pa_cons (pe_call (ok_names_in_sum g) (hr.mono (by decide)) rfl (m_names_in_sum g) (F_names_in_sum g).kp (b_names_in_sum g) .nil pass0 (pa_cons (pe_fld (pv 3) rfl) pa_nil)) pa_nil))))) pss_nil)))) (pss_one (ps_ret (pe_lc (own := [("need", 4)]) rfl sc_direct_needs.nd (pi_list (pv 2)) (blkOk_by (own := [("need", 4)]) (N := ["house", "name", "needs", "rule", "need"]) (sc := defScope s_direct_needs) (by decide +kernel)) (fun _ _ _ _ _ => (pg_name (i := 4) sc_direct_needs.nd rfl (Or.inl rfl))) (fun _ _ _ _ _ => (pts_one (pt_cmp (pc_din (hu_of hr) (pv 4) (pe_fldK (K := K) rfl (pv 0) rfl))))) (fun _ _ _ _ _ => (pv 4))))))), ?_⟩)
  · obtain ⟨L, s, n, rfl, _⟩ := h; rfl
  · obtain ⟨L, s, n, rfl, hh, hdr, wf, k⟩ := h
    obtain ⟨dx, hH⟩ := hh.h
    have fr := wf.few.fr
    refine ⟨by show 0 ≤ sizeLine; decide, fun D nD => ?_⟩
    have s1 := same_new (o := HO.lst []) nD
    have hdr1 := s1 _ _ hdr
    refine ⟨L.dr, _, hdr1, trivial, fun od => ?_⟩
    refine ⟨_, rfl, L.h, _, dx, _, _, rfl, (upd_ne (ne_of hH hdr (by intro z; cases z))).trans (s1 _ _ hH), cl_House g, na_House_rules g, lk_House_rules .., ?_⟩
    refine ⟨L.dr, od, _, rfl, upd_same, ?_⟩
    have nDr : D ≠ L.dr := fun z => by rw [z, hdr] at nD; cases nD
    refine for_it (walk_vR hh.lr) (fun i σ H' => Fr (At L.dr) H H' ∧ H' L.dr = some (.frz od (.dK (rulesK L.rs s.rules))) ∧ H' D = some (.lst ((needs n (s.rules.take i)).map vS)) ∧ ∃ z, σ = [some (.ref L.h), some (vS n), some (.ref D), z, none])
      ⟨(Fr.of_same s1).trans Fr.at1, upd_same, (upd_ne nDr).trans upd_same, none, rfl⟩ (fun i σ H' _ z => z.2.1) ?_ ?_
    · rintro i y σ H' H2 hi ⟨f, hlk, hD, z, rfl⟩ ⟨rfl, a, r, ha, hr', rfl⟩
      obtain ⟨r', hr2, rAt⟩ := paired_get hh.rs ha
      rw [hr'] at hr2; cases hr2
      have o := wf.ro r (List.mem_of_getElem? hr')
      obtain ⟨_, _, _, _, _, _, _, _, e3⟩ := rAt.there
      have qf : Quiet H H2 := Quiet.at1 f hdr soft_dK
      have rA := rAt.quiet qf (f.eq e3 (ne_of e3 hdr (by intro z; cases z)))
      obtain ⟨da, vc, va, q1, q2, q3⟩ := rA
      have et : s.rules.take (i + 1) = s.rules.take i ++ [r] := by rw [List.take_succ, hr']; rfl
      have ln := needs_len n (rs := s.rules.take i) fun q hq => wf.ro q (List.mem_of_mem_take hq)
      have lt : (s.rules.take i).length ≤ 6 := by rw [List.length_take]; omega
      have l1 := condThings_len o.cond o.size
      have l2 := thingsIn_le r.value
      have l3 := o.value.len
      refine ⟨_, rfl, a, _, da, _, _, rfl, q1, cl_Rule g, na_Rule_thing g, lk_Rule_thing .., _, rfl, rfl, _, rfl, ?_⟩
      rw [S_dec]
      by_cases c : r.thing = n
      · rw [decide_eq_true c]
        refine iteT ⟨_, rfl, Or.inl ⟨rfl, _, SqL.of hD⟩, _, rfl, a, _, da, _, _, rfl, q1, cl_Rule g, na_Rule_condition g, lk_Rule_condition .., vc, r.cond, rfl, q2, o.cond, o.size, fun H3 p3 s3 n3 h3 => ?_⟩
        have hD3 := s3 _ _ hD
        refine ⟨D, p3, _, _, rfl, rfl, hD3, h3, by rw [List.length_map, List.length_map, sizeLine_eq]; omega, ?_⟩
        have q1' : upd H3 D (.lst ((needs n (s.rules.take i)).map vS ++ (thingsOf r.cond).map vS)) a = some (.ins (cRule K) da (fsRule (r.rank : Nat) (r.after : Nat) vc r.thing va (r.held : Nat))) := by
          rw [upd_ne (ne_of q1 hD (by intro z; cases z))]; exact s3 _ _ q1
        have tu : Tups H2 (upd H3 D (.lst ((needs n (s.rules.take i)).map vS ++ (thingsOf r.cond).map vS))) := fun b xs e => by
          rw [upd_ne (ne_of e hD (by intro z; cases z))]; exact s3 _ _ e
        refine ⟨_, rfl, Or.inl ⟨rfl, _, SqL.of upd_same⟩, _, rfl, a, _, da, _, _, rfl, q1', cl_Rule g, na_Rule_amount g, lk_Rule_amount .., va, r.value, rfl, q3.keep tu, o.value, fun H4 p4 s4 n4 h4 => ?_⟩
        have hD4 := s4 _ _ (upd_same (H := H3) (a := D))
        refine ⟨D, p4, _, _, rfl, rfl, hD4, h4, by rw [List.length_append, List.length_map, List.length_map, List.length_map, sizeLine_eq]; omega, ?_, ?_, ?_, some (.ref a), rfl⟩
        · intro b u e m
          have e1 := f b u e m
          rw [upd_ne (ne_of_none e nD)]
          exact s4 _ _ (by rw [upd_ne (ne_of_none e nD)]; exact s3 _ _ e1)
        · rw [upd_ne nDr.symm]
          exact s4 _ _ (by rw [upd_ne nDr.symm]; exact s3 _ _ hlk)
        · rw [upd_same, et, needs_snoc, if_pos c, List.map_append, List.map_append]
      · rw [decide_eq_false c]
        refine iteF ⟨f, hlk, ?_, some (.ref a), rfl⟩
        rw [et, needs_snoc, if_neg c]; exact hD
    · rintro σ H' ⟨f, hlk, hD, z, rfl⟩
      refine ⟨hlk, ?_⟩
      rw [List.take_length] at hD
      have sm : Same H (upd H' L.dr (.dK (rulesK L.rs s.rules))) := f.unlock hdr
      have hD1 : upd H' L.dr (.dK (rulesK L.rs s.rules)) D = some (.lst ((needs n s.rules).map vS)) := (upd_ne nDr).trans hD
      generalize upd H' L.dr (.dK (rulesK L.rs s.rules)) = H1 at sm hD1
      have ln := needs_len n (rs := s.rules) fun q hq => wf.ro q hq
      refine ⟨_, rfl, D, rfl, ⟨_, SqL.of hD1⟩, fun D2 nD2 => ?_⟩
      have ndd : D ≠ D2 := ne_of_none hD1 nD2
      refine lc_list (K := K) (a := D) (xs := (needs n s.rules).map vS) (fun i H' => Same H1 H' ∧ H' D2 = some (.lst ((((needs n s.rules).take i).filter fun w => (thingOf s w).isSome).map vS)))
        ⟨same_new nD2, upd_same⟩ (fun i H' _ z => SqL.of (z.1 _ _ hD1)) ?_ ?_
      · rintro i y H3 hi ⟨s3, h3⟩
        rw [List.getElem?_map] at hi
        obtain ⟨x, hx, rfl⟩ := Option.map_eq_some_iff.mp hi
        have h4 := (hh.same (sm.trans s3))
        have hH3 := s3 _ _ (sm _ _ hH)
        refine ⟨rfl, ?_⟩
        refine ⟨_, rfl, _, rfl, L.h, _, dx, _, _, rfl, hH3, cl_House g, na_House_things g, lk_House_things .., L.dt, _, rfl, dget_t h4 x, _, rfl, ?_⟩
        rw [things_some h4 wf.names]
        have et : (needs n s.rules).take (i + 1) = (needs n s.rules).take i ++ [x] := by rw [List.take_succ, hx]; rfl
        have lf := List.length_filter_le (fun w => (thingOf s w).isSome) ((needs n s.rules).take i)
        have lt : ((needs n s.rules).take i).length ≤ (needs n s.rules).length := by rw [List.length_take]; omega
        cases c : (thingOf s x).isSome with
        | true =>
          refine iteT ⟨_, rfl, _, h3, by rw [List.length_map, sizeLine_eq]; omega, fun b o z => ?_, ?_⟩
          · rw [upd_ne (ne_of_none z nD2)]; exact s3 b o z
          · rw [upd_same, et, List.filter_append, List.map_append]
            simp [c]
        | false =>
          refine iteF ⟨s3, ?_⟩
          rw [h3, et, List.filter_append]
          simp [c]
      · rintro H3 ⟨s3, h3⟩
        rw [List.length_map, List.take_length, needs_hangs] at h3
        exact k _ D2 (sm.trans s3) (sm.free nD2) h3
def sp_is_circular (K : PySem.W.Frag) : Sp := fun vs H Q _ => ∃ (L : Lay) (s : House) (n : Bytes), vs = [.ref L.h, vS n] ∧ HouseAt K H L s ∧ H L.dr = some (.dK (rulesK L.rs s.rules)) ∧ WF s ∧ ∀ H', Same H H' → Q (.bl (ringed s n)) H'
theorem sc_is_circular : FnScope ["house", "name", "reached", "waiting", "need"] ["house", "name"] (defScope s_is_circular) := ⟨rfl, rfl, rfl, by decide +kernel, rfl, by decide +kernel, by decide +kernel⟩
def reachK (R : List Bytes) : List (Key × V) := R.map fun x => (.inr (S x), .bl true)
theorem reachK_val (x : Bytes) : ∀ R : List Bytes, (valV (reachK R) (.inr (S x))).isSome = R.contains x
  | [] => rfl
  | y :: R => by
    have ih := reachK_val x R
    by_cases c : y = x
    · have e : valV (reachK (y :: R)) (.inr (S x)) = some (.bl true) := valV_pos (p := ((Sum.inr (S y) : Key), V.bl true)) (by rw [c])
      rw [e, c]; simp
    · have e : valV (reachK (y :: R)) (.inr (S x)) = valV (reachK R) (.inr (S x)) := valV_neg (p := ((Sum.inr (S y) : Key), V.bl true)) (fun z => c (key_iff.mp z))
      rw [e, ih, List.contains_cons]
      simp [Ne.symm c]
theorem nodup_le {l m : List Bytes} (nd : l.Nodup) (h : ∀ x ∈ l, x ∈ m) : l.length ≤ m.length := by
  induction l generalizing m with
  | nil => simp
  | cons a r ih =>
    rw [List.nodup_cons] at nd
    have := ih (m := m.erase a) nd.2 fun x hx => (List.mem_erase_of_ne (fun e : x = a => nd.1 (e ▸ hx))).mpr (h x (List.mem_cons_of_mem _ hx))
    have ha := h a (List.mem_cons_self ..)
    rw [List.length_erase_of_mem ha] at this
    have : 0 < m.length := List.length_pos_of_mem ha
    rw [List.length_cons]; omega
theorem ok_is_circular (g : Good w K mg) : FnOk P w K mg base CX0 24 (He.ga K "is_circular") (fdA K (He.ga K "is_circular")) ["house", "name"] (sp_is_circular K) := by
  refine (F_is_circular g).ok sc_is_circular (fun vs H Q E h => ?_) (fun cdv A outer s0 H vs Q E hr h => ⟨_, PSs.nox (pss_cons (ps_set (i := 2) sc_is_circular.nd rfl (Or.inl rfl) pe_dnewK) (pss_cons (ps_set (i := 3) sc_is_circular.nd rfl (Or.inl rfl) (pe_call (ok_direct_needs g) (hr.mono (by decide)) rfl (m_direct_needs g) (F_direct_needs g).kp (b_direct_needs g) .nil pass0 (pa_cons (pv 0) (pa_cons (pv 1) pa_nil)))) (pss_cons (ps_while PassesOwn.never (pt_truth (pv 3) (by intro _; rfl)) (pss_cons (ps_set (i := 4) sc_is_circular.nd rfl (Or.inl rfl) (pe_bm0 PySem.F.plainAttrs_list PySem.F.slot_list_pop PySem.F.type_list_pop mt_pop (pv 3))) (pss_one (ps_if (pt_cmp (pc_dnotin (hu_of hr) (pv 4) (pv 2))) (pss_cons (ps_dput (hu_of hr) (pv 2) (pv 4) pe_bl rfl) (pss_one (ps_expr (pe_bm PySem.F.plainAttrs_list PySem.F.slot_list_extend PySem.F.type_list_extend mt_extend (pv 3) (pa_cons (pe_call (ok_direct_needs g) (hr.mono (by decide)) rfl (m_direct_needs g) (F_direct_needs g).kp (b_direct_needs g) .nil pass0 (pa_cons (pv 0) (pa_cons (pv 4) pa_nil))) pa_nil))))) pss_nil)))) (pss_one (ps_ret (pe_cmp (pc_din (hu_of hr) (pv 1) (pv 2)))))))), ?_⟩)
  · obtain ⟨L, s, n, rfl, _⟩ := h; rfl
  · obtain ⟨L, s, n, rfl, hh, hdr, wf, k⟩ := h
    have nd := nd_things wf.names
    have ft := wf.few.ft
    intro D nD
    have s1 := same_new (o := HO.dK []) nD
    refine ⟨_, rfl, _, rfl, L, s, n, rfl, hh.same s1, s1 _ _ hdr, wf, fun H1 p s2 np hp => ?_⟩
    have hD1 := s2 _ _ (upd_same (H := H) (a := D) (o := HO.dK []))
    have sA := s1.trans s2
    have np0 : H p = none := s1.free np
    refine ⟨fun m σ H' => ∃ (R W : List Bytes), m = (4 - R.length) * 50000 + W.length ∧ Same H H' ∧ H' D = some (.dK (reachK R)) ∧ H' p = some (.lst (W.map vS)) ∧ R.Nodup ∧ W.length ≤ (R.length + 1) * 48024 ∧
      (∀ x ∈ R, Reach s n x) ∧ (∀ x ∈ W, Reach s n x) ∧ (∀ x ∈ hangs s n, x ∈ R ∨ x ∈ W) ∧ (∀ y ∈ R, ∀ x ∈ hangs s y, x ∈ R ∨ x ∈ W) ∧ ∃ z, σ = [some (.ref L.h), some (vS n), some (.ref D), some (.ref p), z],
      ⟨_, [], hangs s n, rfl, sA, hD1, hp, List.nodup_nil, by have := hangs_len wf n; simp; omega, (fun x hx => absurd hx List.not_mem_nil), (fun x hx => Reach.base hx), (fun x hx => .inr hx), (fun y hy => absurd hy List.not_mem_nil), none, rfl⟩, ?_⟩
    rintro m σ H' ⟨R, W, rfl, sm, hD, hW, rnd, wl, i1, i2, i3, i4, z, rfl⟩
    have rl : R.length ≤ 4 := by
      have := nodup_le rnd fun x hx => (i1 x hx).thing
      rw [List.length_map] at this; omega
    have npD : p ≠ D := ne_of hW hD (by intro z; cases z)
    refine ⟨_, rfl, _, Or.inl ⟨_, SqL.of hW, rfl⟩, ?_⟩
    cases eW : W with
    | nil =>
      subst eW
      refine iteF ?_
      refine ⟨_, rfl, _, rfl, D, _, rfl, DGet.k (k := .inr (S n)) hD, ?_⟩
      rw [reachK_val]
      have er : ringed s n = R.contains n := ringed_of nd i1 (fun x hx => (i3 x hx).resolve_right List.not_mem_nil) (fun y hy x hx => (i4 y hy x hx).resolve_right List.not_mem_nil)
      rw [← er]
      exact k _ sm
    | cons w0 Wr =>
      rw [← eW]
      have hne : W ≠ [] := by rw [eW]; exact List.cons_ne_nil _ _
      have eb : (!(W.map vS).isEmpty) = true := by rw [eW]; rfl
      rw [eb]
      refine iteT ⟨fun σ' H' => ∃ m', m' < (4 - R.length) * 50000 + W.length ∧ ∃ (R W : List Bytes), m' = (4 - R.length) * 50000 + W.length ∧ Same H H' ∧ H' D = some (.dK (reachK R)) ∧ H' p = some (.lst (W.map vS)) ∧ R.Nodup ∧ W.length ≤ (R.length + 1) * 48024 ∧
        (∀ x ∈ R, Reach s n x) ∧ (∀ x ∈ W, Reach s n x) ∧ (∀ x ∈ hangs s n, x ∈ R ∨ x ∈ W) ∧ (∀ y ∈ R, ∀ x ∈ hangs s y, x ∈ R ∨ x ∈ W) ∧ ∃ z, σ' = [some (.ref L.h), some (vS n), some (.ref D), some (.ref p), z], fun σ' H' h => h, ?_⟩
      -- the last of those that wait
      have hl : 0 < W.length := List.length_pos_iff.mpr hne
      obtain ⟨y, hy⟩ : ∃ y, W[W.length - 1]? = some y := ⟨_, List.getElem?_eq_getElem (by omega)⟩
      have eWy : W = W.dropLast ++ [y] := by
        have h1 := List.dropLast_concat_getLast hne
        have h2 : W.getLast hne = y := by
          rw [List.getLast_eq_getElem]
          rw [List.getElem?_eq_getElem (by omega)] at hy
          exact Option.some.inj hy
        rw [h2] at h1; exact h1.symm
      have memY : y ∈ W := List.mem_of_getElem? hy
      have inW : ∀ x, x ∈ W → x = y ∨ x ∈ W.dropLast := fun x hx => by
        rw [eWy] at hx
        rcases List.mem_append.mp hx with hx | hx
        · exact .inr hx
        · simp at hx; exact .inl hx
      have subW : ∀ x, x ∈ W.dropLast → x ∈ W := fun x hx => (List.dropLast_sublist W).subset hx
      have ld : W.dropLast.length = W.length - 1 := List.length_dropLast
      refine ⟨_, rfl, Or.inl ⟨rfl, _, SqL.of hW⟩, p, _, _, rfl, rfl, hW, by rw [List.length_map, List.getElem?_map, hy]; rfl, ?_⟩
      have ed : (W.map vS).dropLast = W.dropLast.map vS := List.map_dropLast.symm
      rw [ed]
      have hD2 : upd H' p (.lst (W.dropLast.map vS)) D = some (.dK (reachK R)) := (upd_ne npD.symm).trans hD
      have sm2 : Same H (upd H' p (.lst (W.dropLast.map vS))) := fun b o e => by rw [upd_ne (ne_of_none e np0)]; exact sm _ _ e
      have hp2 : upd H' p (.lst (W.dropLast.map vS)) p = some (.lst (W.dropLast.map vS)) := upd_same
      generalize upd H' p (.lst (W.dropLast.map vS)) = H2 at hD2 sm2 hp2
      refine ⟨_, rfl, _, rfl, D, _, rfl, DGet.k (k := .inr (S y)) hD2, _, rfl, ?_⟩
      rw [reachK_val]
      cases c : R.contains y with
      | true =>
        have yR : y ∈ R := List.contains_iff_mem.mp c
        refine iteF ⟨_, ?_, R, W.dropLast, rfl, sm2, hD2, hp2, rnd, by omega, i1, (fun x hx => i2 x (subW x hx)), (fun x hx => ?_), (fun v hv x hx => ?_), some (vS y), rfl⟩
        · omega
        · rcases i3 x hx with h | h
          · exact .inl h
          · rcases inW x h with e | h
            · rw [e]; exact .inl yR
            · exact .inr h
        · rcases i4 v hv x hx with h | h
          · exact .inl h
          · rcases inW x h with e | h
            · rw [e]; exact .inl yR
            · exact .inr h
      | false =>
        have yR : y ∉ R := fun z => by rw [List.contains_iff_mem.mpr z] at c; cases c
        have yr := i2 y memY
        have nd2 : (R ++ [y]).Nodup := nodup_snoc rnd yR
        have rl2 : (R ++ [y]).length ≤ 4 := by
          have := nodup_le nd2 fun x hx => by
            rcases List.mem_append.mp hx with hx | hx
            · exact (i1 x hx).thing
            · simp at hx; rw [hx]; exact yr.thing
          rw [List.length_map] at this; omega
        have hne2 : valV (reachK R) (.inr (S y)) = none := by
          have := reachK_val y R
          rw [c] at this
          cases e : valV (reachK R) (.inr (S y)) with
          | none => rfl
          | some v => rw [e] at this; cases this
        have lk : (reachK R).length = R.length := List.length_map _
        refine iteT ⟨_, rfl, _, rfl, D, _, rfl, DPut.k (k := .inr (S y)) hD2 (by rw [lk, sizeLine_eq]; omega), ?_⟩
        rw [putK_new _ hne2]
        have er : reachK R ++ [((.inr (S y) : Key), V.bl true)] = reachK (R ++ [y]) := by unfold reachK; rw [List.map_append]; rfl
        rw [er]
        have sm3 : Same H (upd H2 D (.dK (reachK (R ++ [y])))) := fun b o e => by rw [upd_ne (ne_of_none e nD)]; exact sm2 _ _ e
        have hp3 : upd H2 D (.dK (reachK (R ++ [y]))) p = some (.lst (W.dropLast.map vS)) := (upd_ne npD).trans hp2
        have hD3 : upd H2 D (.dK (reachK (R ++ [y]))) D = some (.dK (reachK (R ++ [y]))) := upd_same
        generalize upd H2 D (.dK (reachK (R ++ [y]))) = H3 at sm3 hp3 hD3
        have hlen := hangs_len wf y
        refine ⟨_, rfl, Or.inl ⟨rfl, _, SqL.of hp3⟩, _, rfl, _, rfl, L, s, y, rfl, hh.same sm3, sm3 _ _ hdr, wf, fun H4 q s4 nq hq => ?_⟩
        have hp4 := s4 _ _ hp3
        rw [List.length_append, List.length_singleton] at rl2
        have hlW : W.dropLast.length + (hangs s y).length ≤ (R.length + 1 + 1) * 48024 := by omega
        refine ⟨p, q, _, _, rfl, rfl, hp4, hq, by rw [List.length_map, List.length_map, sizeLine_eq]; omega, _, ?_, R ++ [y], W.dropLast ++ hangs s y, rfl, ?_, ?_, ?_, nd2, ?_, ?_, ?_, ?_, ?_, some (vS y), rfl⟩
        · rw [List.length_append, List.length_append, List.length_singleton]; omega
        · intro b o e
          rw [upd_ne (ne_of_none e np0)]; exact s4 _ _ (sm3 _ _ e)
        · exact (upd_ne npD.symm).trans (s4 _ _ hD3)
        · rw [upd_same, List.map_append]
        · rw [List.length_append, List.length_append, List.length_singleton]; exact hlW
        · intro x hx
          rcases List.mem_append.mp hx with hx | hx
          · exact i1 x hx
          · simp at hx; rw [hx]; exact yr
        · intro x hx
          rcases List.mem_append.mp hx with hx | hx
          · exact i2 x (subW x hx)
          · exact .step yr hx
        · intro x hx
          rcases i3 x hx with h | h
          · exact .inl (List.mem_append_left _ h)
          · rcases inW x h with e | h
            · rw [e]; exact .inl (List.mem_append_right _ (by simp))
            · exact .inr (List.mem_append_left _ h)
        · intro v hv x hx
          rcases List.mem_append.mp hv with hv | hv
          · rcases i4 v hv x hx with h | h
            · exact .inl (List.mem_append_left _ h)
            · rcases inW x h with e | h
              · rw [e]; exact .inl (List.mem_append_right _ (by simp))
              · exact .inr (List.mem_append_left _ h)
          · simp at hv; rw [hv] at hx
            exact .inr (List.mem_append_right _ hx)
end
end Hw
end

/-! ## part N0 -/
section
set_option Elab.async false
set_option linter.all false
set_option maxRecDepth 100000
set_option maxHeartbeats 2000000
namespace Hw
open PySem PySem.Spec PyProof.Rows L2
/-! ### tuples within tuples as keys -/
mutual
inductive NKey (H : Hp) : NestedKey → V → Prop
  | num (i : Int) : NKey H (.num i) (.int i)
  | text (x : Str) : NKey H (.text x) (.str x)
  | tup {a : Addr} {vs : List V} {ks : List NestedKey} : H a = some (.tup vs) → NAll H ks vs → NKey H (.tup ks) (.ref a)
inductive NAll (H : Hp) : List NestedKey → List V → Prop
  | nil : NAll H [] []
  | cons {k : NestedKey} {v : V} {ks : List NestedKey} {vs : List V} : NKey H k v → NAll H ks vs → NAll H (k :: ks) (v :: vs)
end
mutual
theorem NKey.keep {H H' : Hp} (t : Tups H H') : ∀ (k : NestedKey) (v : V), NKey H k v → NKey H' k v
  | .none, v, h => by cases h
  | .num i, v, h => by cases h; exact .num i
  | .text x, v, h => by cases h; exact .text x
  | .tup ks, v, h => by
    cases h with
    | tup h1 h2 => exact .tup (t _ _ h1) (NAll.keep t ks _ h2)
theorem NAll.keep {H H' : Hp} (t : Tups H H') : ∀ (ks : List NestedKey) (vs : List V), NAll H ks vs → NAll H' ks vs
  | [], vs, h => by cases h; exact .nil
  | k :: ks, vs, h => by
    cases h with
    | cons h1 h2 => exact .cons (NKey.keep t k _ h1) (NAll.keep t ks _ h2)
end
mutual
theorem NKey.is {P : Program} {w : World} {H : Hp} {h : Heap} (ok : HOk P w H h) : ∀ (k : NestedKey) (v : V) (u : Value), NKey H k v → RelV v u → NestedIs h k u
  | .none, v, u, n, r => by cases n
  | .num i, v, u, n, r => by
    cases n
    obtain ⟨t, rfl⟩ := (show ∃ t, u = Value.int i t from r)
    exact .int i t
  | .text x, v, u, n, r => by
    cases n
    obtain ⟨t, rfl⟩ := (show ∃ t, u = Value.str x t from r)
    exact .text x t
  | .tup ks, v, u, n, r => by
    cases n with
    | @tup a vs _ h1 h2 =>
      obtain rfl : u = Value.ref a := r
      obtain ⟨_, its, rv, o, ho, hc, n', hd⟩ := ok _ _ h1
      exact .tup ho hc hd (by rw [List.toList_toArray]; exact NAll.is ok ks vs its h2 rv)
theorem NAll.is {P : Program} {w : World} {H : Hp} {h : Heap} (ok : HOk P w H h) : ∀ (ks : List NestedKey) (vs : List V) (us : List Value), NAll H ks vs → Vals vs us → NestedAll h ks us
  | [], vs, us, n, r => by cases n; cases r; exact .nil
  | k :: ks, vs, us, n, r => by
    cases n with
    | cons h1 h2 =>
      cases r with
      | cons r1 r2 => exact .cons (NKey.is ok k _ _ h1 r1) (NAll.is ok ks _ _ h2 r2)
end
/-- a dict whose keys are such tuples: its entries -/
def SeenO (P : Program) (w : World) (d : Addr) (xs : List (NestedKey × Addr × Value)) : HO := .ext fun h => ∃ o es ep, h.get? d = some o ∧ o.ExactDict ∧ o.data = .dict es ep ∧ es.toList = xs.map (entryOfKey (nestedKind P w))
theorem seenO_ok {P : Program} {w : World} {H : Hp} {h : Heap} {d : Addr} {xs : List (NestedKey × Addr × Value)} (x : ∃ o es ep, h.get? d = some o ∧ o.ExactDict ∧ o.data = .dict es ep ∧ es.toList = xs.map (entryOfKey (nestedKind P w))) : ObjOk P w H h d (SeenO P w d xs) := by
  refine ⟨x, ?_, ?_⟩
  · obtain ⟨o, _, _, e, _⟩ := x; exact ⟨o, e⟩
  · rintro h1 h2 ⟨o, es, ep, e, r⟩ k
    exact ⟨o, es, ep, k _ e, r⟩
abbrev NRel (H : Hp) (kv : NestedKey × Nat) (x : NestedKey × Addr × Value) : Prop := kv.1 = x.1 ∧ NKey H kv.1 (.ref x.2.1) ∧ kv.1.depth ≤ 8 ∧ RelV (.int (kv.2 : Nat)) x.2.2
structure SeenAt (P : Program) (w : World) (H : Hp) (d : Addr) (kvs : List (NestedKey × Nat)) : Prop where
  nm : (d == sysModules) = false
  len : kvs.length ≤ 1000
  nd : (kvs.map (·.1)).Nodup
  ex : ∃ xs, H d = some (SeenO P w d xs) ∧ Paired (NRel H) kvs xs
def nfind (kvs : List (NestedKey × Nat)) (k : NestedKey) : Option Nat := (kvs.find? fun x => decide (x.1 = k)).map (·.2)
theorem SeenAt.keep {P : Program} {w : World} {H H' : Hp} {d : Addr} {kvs : List (NestedKey × Nat)} (v : SeenAt P w H d kvs) (t : Tups H H') (e : H' d = H d) : SeenAt P w H' d kvs := by
  obtain ⟨xs, h1, h2⟩ := v.ex
  exact ⟨v.nm, v.len, v.nd, xs, e.trans h1, Paired.mapP h2 fun a b z => ⟨z.1, z.2.1.keep t, z.2.2⟩⟩
theorem nrel_keys {H : Hp} : ∀ {kvs : List (NestedKey × Nat)} {xs : List (NestedKey × Addr × Value)}, Paired (NRel H) kvs xs → xs.map (·.1) = kvs.map (·.1)
  | _, _, .nil => rfl
  | _, _, .cons r t => by rw [List.map_cons, List.map_cons, nrel_keys t, r.1]
theorem nrel_find {H : Hp} (k : NestedKey) : ∀ {kvs : List (NestedKey × Nat)} {xs : List (NestedKey × Addr × Value)}, Paired (NRel H) kvs xs →
    (atKey xs k).isSome = (nfind kvs k).isSome ∧ ∀ v, nfind kvs k = some v → ∃ p, atKey xs k = some p ∧ RelV (.int (v : Nat)) p.2
  | _, _, .nil => ⟨rfl, fun v h => by cases h⟩
  | kv :: kvs, x :: xs, .cons r t => by
    obtain ⟨ih1, ih2⟩ := nrel_find k t
    unfold atKey nfind at ih1 ih2 ⊢
    rw [List.find?_cons, List.find?_cons]
    by_cases c : kv.1 = k
    · rw [decide_eq_true c, decide_eq_true (r.1 ▸ c)]
      exact ⟨rfl, fun v h => by cases h; exact ⟨_, rfl, r.2.2.2⟩⟩
    · rw [decide_eq_false c, decide_eq_false (fun z => c (r.1.trans z))]
      exact ⟨ih1, ih2⟩
section
variable {X : Cx} {pins : List (Addr × Obj)} {σ : L2.St} {H : Hp} {s : Shared} {d a : Addr} {kvs : List (NestedKey × Nat)} {k : NestedKey} {A : Around} {E : Value → Shared → Prop}
theorem SeenAt.dict (v : SeenAt X.prog X.w H d kvs) (I : Inv X pins σ H s) : ∃ xs, H d = some (SeenO X.prog X.w d xs) ∧ Paired (NRel H) kvs xs ∧ s.heap.DictOfH (nestedKind X.prog X.w) d xs := by
  obtain ⟨xs, h1, h2⟩ := v.ex
  obtain ⟨⟨o, es, ep, q1, q2, q3, q4⟩, _⟩ := I.hok _ _ h1
  refine ⟨xs, h1, h2, o, es, ep, q1, q2, q3, q4, fun x hx => ?_, by rw [nrel_keys h2]; exact v.nd⟩
  obtain ⟨i, hi⟩ := List.mem_iff_getElem?.mp hx
  obtain ⟨kv, _, r⟩ := paired_get2 h2 hi
  rw [← r.1]
  exact ⟨NKey.is I.hok _ _ _ r.2.1 rfl, r.2.2.1⟩
theorem key_at (I : Inv X pins σ H s) (n : NKey H k (.ref a)) (hd : k.depth ≤ 8) : (nestedKind X.prog X.w).is s.heap k a := ⟨NKey.is I.hok _ _ _ n rfl, hd⟩
/-- y in d -/
def tSIn (X : Cx) (ty td : TE) : TE := fun σ H Q => ty σ H fun y H1 => td σ H1 fun x H2 => ∃ d a kvs k, x = .ref d ∧ y = .ref a ∧ SeenAt X.prog X.w H2 d kvs ∧ NKey H2 k (.ref a) ∧ k.depth ≤ 8 ∧ Q (.bl (nfind kvs k).isSome) H2
theorem pc_sin {i o : Expr} {ty td : TE} (hu : X.A.units + 64 < cLine) (hi : PE X i ty) (ho : PE X o td) : PC X .In i o (tSIn X ty td) := by
  refine ⟨fun pins s σ H Q I h => ?_⟩
  refine thn (hi.run pins s σ H _ I h) fun iv s1 ⟨y, H1, I1, ry, q1⟩ => thn (ho.run pins s1 σ H1 _ I1 q1) fun u s2 ⟨x, H2, I2, rx, d, a, kvs, k, ex, ey, v, n, hd, q2⟩ => ?_
  subst ex ey
  obtain rfl : u = Value.ref d := rx
  obtain rfl : iv = Value.ref a := ry
  obtain ⟨xs, h1, h2, dd⟩ := v.dict I2
  refine wpAny_in_heap (by show X.A.units + 1 + 8 < cLine; omega) (key_at I2 n hd) v.nm dd ?_
  rw [(nrel_find k h2).1]
  exact ⟨.bl (nfind kvs k).isSome, H2, I2.tok _, rfl, q2⟩
/-- d[y], there -/
def tSGet (X : Cx) (td ty : TE) : TE := fun σ H Q => td σ H fun x H1 => ty σ H1 fun y H2 => ∃ d a kvs k v, x = .ref d ∧ y = .ref a ∧ SeenAt X.prog X.w H2 d kvs ∧ NKey H2 k (.ref a) ∧ k.depth ≤ 8 ∧ nfind kvs k = some v ∧ Q (.int (v : Nat)) H2
theorem pe_sget {i o : Expr} {ty td : TE} {pos : Pos} (hu : X.A.units + 64 < cLine) (ho : PE X o td) (hi : PE X i ty) (hs : NoSl i) : PE X (.Subscript o i pos) (tSGet X td ty) := by
  refine ⟨fun pins s σ H Q I h => ?_⟩
  refine subD_of PySem.F.slot_dict_getitem.lookup hs (thn (ho.run pins s σ H _ I h) fun u s1 ⟨x, H1, I1, rx, q1⟩ => thn (hi.run pins s1 σ H1 _ I1 q1) fun iv s2 ⟨y, H2, I2, ry, d, a, kvs, k, v, ex, ey, sn, n, hd, hv, q2⟩ => ?_)
  subst ex ey
  obtain rfl : u = Value.ref d := rx
  obtain rfl : iv = Value.ref a := ry
  obtain ⟨xs, h1, h2, dd⟩ := sn.dict I2
  obtain ⟨p, hp, rp⟩ := (nrel_find k h2).2 v hv
  exact ⟨dd.typeIs, wpAny_getItem_heap (by show X.A.units + 1 + 8 < cLine; omega) (key_at I2 n hd) dd hp ⟨_, H2, I2.tok _, rp, q2⟩⟩
theorem soft_ext {φ : Heap → Prop} : Soft (.ext φ) := ⟨fun _ z => (nomatch z), fun _ _ _ _ _ z => (nomatch z)⟩
/-- the dict with a new key -/
theorem SeenAt.put (v : SeenAt X.prog X.w H d kvs) {xs : List (NestedKey × Addr × Value)} {u : Value} {i : Nat} (h1 : H d = some (SeenO X.prog X.w d xs)) (h2 : Paired (NRel H) kvs xs) (n : NKey H k (.ref a)) (hd : k.depth ≤ 8) (hl : kvs.length < 1000) (hn : nfind kvs k = none) (ru : RelV (.int (i : Nat)) u) :
    SeenAt X.prog X.w (upd H d (SeenO X.prog X.w d (xs ++ [(k, a, u)]))) d (kvs ++ [(k, i)]) := by
  have t : Tups H (upd H d (SeenO X.prog X.w d (xs ++ [(k, a, u)]))) := fun b ys e => by rw [upd_ne (ne_of e h1 (by intro z; cases z))]; exact e
  refine ⟨v.nm, by rw [List.length_append]; simp; omega, ?_, _, upd_same, paired_end (Paired.mapP h2 fun x y z => ⟨z.1, z.2.1.keep t, z.2.2⟩) ⟨rfl, n.keep t, hd, ru⟩⟩
  rw [List.map_append]
  refine nodup_snoc v.nd fun z => ?_
  obtain ⟨kv, hk, e⟩ := List.mem_map.mp z
  have : (kvs.find? fun x => decide (x.1 = k)) = none := by
    cases e2 : kvs.find? (fun x => decide (x.1 = k)) with
    | none => rfl
    | some y => unfold nfind at hn; rw [e2] at hn; cases hn
  have := List.find?_eq_none.mp this kv hk
  exact this (decide_eq_true e)
/-- d[y] = v, new -/
def sSPut (X : Cx) (td ty tv : TE) : TS := fun D σ H => tv σ H fun v H1 => td σ H1 fun x H2 => ty σ H2 fun y H3 => ∃ d a kvs k i, x = .ref d ∧ y = .ref a ∧ v = .int ((i : Nat) : Int) ∧ SeenAt X.prog X.w H3 d kvs ∧ NKey H3 k (.ref a) ∧ k.depth ≤ 8 ∧ kvs.length < 1000 ∧ nfind kvs k = none ∧
  ∀ H4, Fr (At d) H3 H4 → Tups H3 H4 → SeenAt X.prog X.w H4 d (kvs ++ [(k, i)]) → D.nx σ H4
theorem ps_sput {i o value : Expr} {ty td tv : TE} {pos pos' : Pos} (hu : X.A.units + 64 < cLine) (ho : PE X o td) (hi : PE X i ty) (hv : PE X value tv) (hs : swapsWith value (some (.Subscript o i pos')) pos.line X.env = pure false) :
    PS X (.Assign [.Subscript o i pos'] value pos) (sSPut X td ty tv) := by
  refine ⟨fun pins s σ H D I h => ?_⟩
  refine wpAny_Assign_Subscript (thn (hv.run pins s σ H _ I h) fun r s1 ⟨v, H1, I1, rv, q1⟩ => thn (ho.run pins s1 σ H1 _ I1 q1) fun u s2 ⟨x, H2, I2, rx, q2⟩ => thn (hi.run pins s2 σ H2 _ I2 q2) fun iv s3 ⟨y, H3, I3, ry, d, a, kvs, k, j, ex, ey, ev, sn, n, hd, hl, hn, q3⟩ => ?_) hs
  subst ex ey ev
  obtain rfl : u = Value.ref d := rx
  obtain rfl : iv = Value.ref a := ry
  obtain ⟨xs, h1, h2, dd⟩ := sn.dict I3
  have hno : atKey xs k = none := by
    have := (nrel_find k h2).1
    rw [hn] at this
    cases e : atKey xs k with
    | none => rfl
    | some p => rw [e] at this; cases this
  have hz : xs.length ≤ sizeLine := by rw [← h2.length, sizeLine_eq]; have := sn.len; omega
  refine wpAny_setItem_heap (hsz := hz) (by show X.A.units + 1 + 8 < cLine; omega) (key_at I3 n hd) dd fun h' dd' hsb => ?_
  rw [storedH_new hno] at dd'
  obtain ⟨o', es, ep, e1, e2, e3, e4, _, _⟩ := dd'
  have I4 := d_write (ob := SeenO X.prog X.w d (xs ++ [(k, a, r)])) (t' := s3.toks + (nestedKind X.prog X.w).draws k) I3 (by rw [h1]; exact True.intro) hsb ⟨o', e1⟩ (seenO_ok ⟨o', es, ep, e1, e2, e3, e4⟩)
  refine ⟨σ, _, I4, q3 _ Fr.at1 (fun b ys e => ?_) (sn.put h1 h2 n hd hl hn rv)⟩
  rw [upd_ne (ne_of e h1 (by intro z; cases z))]; exact e
/-- {k: v} -/
def tSDisp (X : Cx) (tk tv : TE) : TE := fun σ H Q => ∀ d o0, H d = none → Soft o0 → (∀ xs, o0 ≠ .lst xs) → tk σ (upd H d o0) fun x H1 => tv σ H1 fun y H2 => H2 d = some o0 ∧ ∃ a k i, x = .ref a ∧ y = .int ((i : Nat) : Int) ∧ NKey H2 k (.ref a) ∧ k.depth ≤ 8 ∧
  ∀ H3, Fr (At d) H2 H3 → Tups H2 H3 → SeenAt X.prog X.w H3 d [(k, i)] → Q (.ref d) H3
theorem pe_sdisp {k v : Expr} {tk tv : TE} {pos : Pos} (hu : X.A.units + 64 < cLine) (hk : PE X k tk) (hv : PE X v tv) : PE X (.Dict [some k] [v] pos) (tSDisp X tk tv) := by
  refine ⟨fun pins s σ H Q I q => ?_⟩
  have hn := I.hok.fresh (Nat.le_refl s.heap.objs.size)
  have hnm : (s.heap.objs.size == sysModules) = false := beq_eq_false_iff_ne.mpr (Ne.symm (Nat.ne_of_lt I.big))
  have I1 := I.laid (a := s.heap.objs.size) (o := SeenO X.prog X.w s.heap.objs.size []) (h' := s.heap.push { cls := .type "dict", data := .dict #[] }) (t' := s.toks) (fun _ _ q => Heap.get?_push_of_some _ q) (Nat.le_refl _)
    (seenO_ok ⟨_, #[], 0, Heap.get?_push_size _ rfl, ⟨rfl, rfl, rfl⟩, rfl, rfl⟩)
  have pp := pps_cons (pos := pos) hk hv (pps_nil (X := X) (pos := pos))
  refine wpAny_Dict_any rfl rfl (by simp) (by simp) (thn (pp.run pins _ σ _ (fun ps H2 => match ps with
    | [(x, y)] => H2 s.heap.objs.size = some (SeenO X.prog X.w s.heap.objs.size []) ∧ ∃ a k i, x = .ref a ∧ y = .int ((i : Nat) : Int) ∧ NKey H2 k (.ref a) ∧ k.depth ≤ 8 ∧
      ∀ H3, Fr (At s.heap.objs.size) H2 H3 → Tups H2 H3 → SeenAt X.prog X.w H3 s.heap.objs.size [(k, i)] → Q (.ref s.heap.objs.size) H3
    | _ => False) I1 (q _ (SeenO X.prog X.w s.heap.objs.size []) hn soft_ext (fun xs z => nomatch z))) fun ws s2 ⟨ps, H2, I2, rel, hq⟩ => ?_)
  match ps, rel, hq with
  | [(x, y)], rel, ⟨e, a, k, i, ex, ey, n, hd, q2⟩ =>
    subst ex ey
    cases rel with
    | @cons p q' ps qs hr t =>
      cases t
      obtain ⟨b1, b2⟩ := q'
      obtain ⟨r1, r2⟩ := hr
      obtain rfl : b1 = Value.ref a := r1
      obtain ⟨⟨o, es, ep, q1', q2', q3', q4'⟩, _⟩ := I2.hok _ _ e
      have dd : s2.heap.DictOfH (nestedKind X.prog X.w) s.heap.objs.size [] := ⟨o, es, ep, q1', q2', q3', q4', fun x hx => absurd hx List.not_mem_nil, List.nodup_nil⟩
      refine wpAny_storeAllH (by show X.A.units + 8 < cLine; omega) [(.ref a, b2)] [(k, a, b2)] [] s2 _ ⟨rfl, rfl, key_at I2 n hd, trivial⟩ dd (by simp [sizeLine_eq]) fun h' tk dd' hsb => ?_
      have est : storedAllH [] [(k, a, b2)] = [(k, a, b2)] := rfl
      rw [est] at dd'
      obtain ⟨o', es', ep', e1, e2, e3, e4, _, _⟩ := dd'
      have I4 := d_write (ob := SeenO X.prog X.w s.heap.objs.size [(k, a, b2)]) (t' := tk) I2 (by rw [e]; exact True.intro) hsb ⟨o', e1⟩ (seenO_ok ⟨o', es', ep', e1, e2, e3, e4⟩)
      have tu : Tups H2 (upd H2 s.heap.objs.size (SeenO X.prog X.w s.heap.objs.size [(k, a, b2)])) := fun b ys z => by rw [upd_ne (ne_of z e (by intro z; cases z))]; exact z
      refine ⟨.ref s.heap.objs.size, _, I4, rfl, q2 _ Fr.at1 tu ⟨hnm, by simp, by simp, _, upd_same, .cons ⟨rfl, n.keep tu, hd, r2⟩ .nil⟩⟩
end
end Hw
end

/-! ## part T3 -/
section
set_option Elab.async false
set_option linter.all false
set_option maxRecDepth 100000
set_option maxHeartbeats 2000000
namespace Hw
open PySem PySem.Spec PyProof.Rows L2
open Hr01 (Bytes Words Term Sum Cond ascii isName num? term? digit small sum? parted Cmd Rule cmd? Thing House By byText thingsIn thingsOf valueOf termValue sumValue isSensor thingOf ruleOf leaves joined decimal told listed termText sumText condText wanted clamped looked become wasAt minute minutes taken withThing setSensor does no hangs ringed look restFrom)
/-! ### a snapshot as a key -/
abbrev Shot := List (Nat × Nat × By) × List Nat
def thK (x : Nat × Nat × By) : NestedKey := .tup [.num (x.1 : Nat), .num (x.2.1 : Nat), .tup ((byText x.2.2).map fun b => .text (S b))]
def keyOf (l : Shot) : NestedKey := .tup [.tup (l.1.map thK), .tup (l.2.map fun n => .num (n : Nat))]
theorem map_inj {α β : Type} {f : α → β} (h : ∀ a b, f a = f b → a = b) : ∀ {l m : List α}, l.map f = m.map f → l = m
  | [], [], _ => rfl
  | [], _ :: _, e => by cases e
  | _ :: _, [], e => by cases e
  | a :: l, b :: m, e => by
    rw [List.map_cons, List.map_cons] at e
    injection e with e1 e2
    rw [h a b e1, map_inj h e2]
theorem byText_inj {a b : By} (h : byText a = byText b) : a = b := by
  cases a <;> cases b <;> first | rfl | (revert h; decide) | skip
  all_goals first | (simp only [byText] at h; injection h with h1 h2; first | (revert h1; decide) | (injection h2 with h3 h4; rw [h3]) | cases h2)
theorem thK_inj (a b : Nat × Nat × By) (h : thK a = thK b) : a = b := by
  obtain ⟨a1, a2, a3⟩ := a
  obtain ⟨b1, b2, b3⟩ := b
  unfold thK at h
  injection h with h
  injection h with h1 h
  injection h with h2 h
  injection h with h3 _
  injection h1 with h1
  injection h2 with h2
  injection h3 with h3
  have e3 : a3 = b3 := byText_inj (map_inj (fun x y e => by injection e with e; exact S_inj e) h3)
  have e1 : a1 = b1 := by exact Int.ofNat.inj h1
  have e2 : a2 = b2 := by exact Int.ofNat.inj h2
  rw [e1, e2, e3]
theorem keyOf_inj {a b : Shot} (h : keyOf a = keyOf b) : a = b := by
  obtain ⟨a1, a2⟩ := a
  obtain ⟨b1, b2⟩ := b
  unfold keyOf at h
  injection h with h
  injection h with h1 h
  injection h with h2 _
  injection h1 with h1
  injection h2 with h2
  have e1 : a1 = b1 := map_inj thK_inj h1
  have e2 : a2 = b2 := map_inj (fun x y e => by injection e with e; exact Int.ofNat.inj e) h2
  rw [e1, e2]
theorem depthAll_le {n : Nat} : ∀ {ks : List NestedKey}, (∀ k ∈ ks, k.depth ≤ n) → NestedKey.depthAll ks ≤ n
  | [], _ => by simp [NestedKey.depthAll]
  | k :: ks, h => by
    have h1 := h k (List.mem_cons_self ..)
    have h2 := depthAll_le (ks := ks) fun x hx => h x (List.mem_cons_of_mem _ hx)
    rw [NestedKey.depthAll]
    omega
theorem thK_depth (x : Nat × Nat × By) : (thK x).depth ≤ 2 := by
  unfold thK
  have : NestedKey.depthAll ((byText x.2.2).map fun b => NestedKey.text (S b)) ≤ 0 := depthAll_le fun k hk => by
    obtain ⟨b, _, rfl⟩ := List.mem_map.mp hk
    simp [NestedKey.depth]
  simp only [NestedKey.depth, NestedKey.depthAll]
  omega
theorem keyOf_depth (l : Shot) : (keyOf l).depth ≤ 8 := by
  unfold keyOf
  have h1 : NestedKey.depthAll (l.1.map thK) ≤ 2 := depthAll_le fun k hk => by
    obtain ⟨b, _, rfl⟩ := List.mem_map.mp hk
    exact thK_depth b
  have h2 : NestedKey.depthAll (l.2.map fun n => NestedKey.num (n : Nat)) ≤ 0 := depthAll_le fun k hk => by
    obtain ⟨b, _, rfl⟩ := List.mem_map.mp hk
    simp [NestedKey.depth]
  simp only [NestedKey.depth, NestedKey.depthAll]
  omega
/-- the dict of those seen -/
def seenK (ls : List Shot) : List (NestedKey × Nat) := ls.zipIdx.map fun p => (keyOf p.1, p.2)
theorem nfind_zip (l : Shot) : ∀ (ls : List Shot) (n : Nat), nfind ((ls.zipIdx n).map fun p => (keyOf p.1, p.2)) (keyOf l) = (ls.findIdx? fun x => x == l).map (· + n)
  | [], n => rfl
  | x :: r, n => by
    have ih := nfind_zip l r (n + 1)
    rw [List.zipIdx_cons, List.map_cons, List.findIdx?_cons]
    unfold nfind at ih ⊢
    rw [List.find?_cons]
    by_cases c : x = l
    · rw [decide_eq_true (by rw [c]), beq_iff_eq.mpr c]
      simp
    · rw [decide_eq_false (fun z => c (keyOf_inj z)), beq_eq_false_iff_ne.mpr c]
      simp only [Bool.false_eq_true, if_false]
      rw [ih]
      cases r.findIdx? (fun x => x == l) with
      | none => rfl
      | some j => simp; omega
theorem nfind_seen (l : Shot) (ls : List Shot) : nfind (seenK ls) (keyOf l) = ls.findIdx? fun x => x == l := by
  unfold seenK
  rw [nfind_zip]
  cases ls.findIdx? (fun x => x == l) with
  | none => rfl
  | some j => rfl
theorem seenK_snoc (ls : List Shot) (l : Shot) : seenK (ls ++ [l]) = seenK ls ++ [(keyOf l, ls.length)] := by
  unfold seenK
  rw [List.zipIdx_append, List.map_append]
  simp
theorem seenK_len (ls : List Shot) : (seenK ls).length = ls.length := by unfold seenK; simp
def restText : Hr01.Rest → Bytes
  | .rest n => told [ascii "rest", decimal n]
  | .round n p => told [ascii "round", decimal n, decimal p]
  | .more => ascii "more"
theorem text_rest (n : Nat) : S [114, 101, 115, 116, 32] ++ S (decimal n) = S (restText (.rest n)) := by rw [S_append]; rfl
theorem text_round (n p : Nat) : ((S [114, 111, 117, 110, 100, 32] ++ S (decimal n)) ++ S [32]) ++ S (decimal p) = S (restText (.round n p)) := by
  rw [S_append, S_append, S_append]
  show S _ = S (joined 32 [ascii "round", decimal n, decimal p])
  have e : joined 32 [ascii "round", decimal n, decimal p] = ascii "round" ++ 32 :: (decimal n ++ 32 :: decimal p) := rfl
  rw [e]
  have e2 : ascii "round" = [114, 111, 117, 110, 100] := by decide
  rw [e2]
  simp
section
variable {P : Program} {w : World} {K : PySem.W.Frag} {mg : Str → Option Value} {base : Heap}
def sp_snapshot (K : PySem.W.Frag) : Sp := fun vs H Q _ => ∃ (L : Lay) (s : House), vs = [.ref L.h] ∧ HouseAt K H L s ∧ Opn H L s ∧ Few s ∧ ∀ H' a, Same H H' → NKey H' (keyOf (look s)) (.ref a) → Q (.ref a) H'
theorem sc_snapshot : FnScope ["house", "things", "counts", "thing", "rule"] ["house"] (defScope s_snapshot) := ⟨rfl, rfl, rfl, by decide +kernel, rfl, by decide +kernel, by decide +kernel⟩
theorem NAll.of_paired {H : Hp} : ∀ {vs : List V} {ks : List NestedKey}, Paired (fun v k => NKey H k v) vs ks → NAll H ks vs
  | _, _, .nil => .nil
  | _, _, .cons r t => .cons r (NAll.of_paired t)
theorem nall_texts {H : Hp} : ∀ l : List Bytes, NAll H (l.map fun b => NestedKey.text (S b)) (l.map vS)
  | [] => .nil
  | b :: l => .cons (.text _) (nall_texts l)
theorem nall_nums {H : Hp} : ∀ l : List Nat, NAll H (l.map fun n => NestedKey.num (n : Nat)) (l.map fun n => V.int (n : Nat))
  | [] => .nil
  | b :: l => .cons (.num _) (nall_nums l)
theorem ok_snapshot (g : Good w K mg) : FnOk P w K mg base CX0 1 (He.ga K "snapshot") (fdA K (He.ga K "snapshot")) ["house"] (sp_snapshot K) := by
  refine (F_snapshot g).ok sc_snapshot (fun vs H Q E h => ?_) (fun cdv A outer s0 H vs Q E hr h => ⟨_, PSs.nox (pss_cons (ps_lock (ps_setLc (i := 1) (own := [("thing", 3)]) rfl sc_snapshot.nd rfl rfl (sw_true rfl rfl rfl (by decide +kernel)) (pi_values (pe_fld (pv 0) rfl)) (blkOk_by (own := [("thing", 3)]) (N := ["house", "things", "counts", "thing", "rule"]) (sc := defScope s_snapshot) (by decide +kernel)) (fun _ _ _ _ _ => (pg_name (i := 3) sc_snapshot.nd rfl (Or.inl rfl))) (fun _ _ _ _ _ => pts_nil) (fun _ _ _ _ _ => (pe_tup (pa_cons (pe_fldK (K := K) rfl (pv 3) rfl) (pa_cons (pe_fldK (K := K) rfl (pv 3) rfl) (pa_cons (pe_fldK (K := K) rfl (pv 3) rfl) pa_nil))))))) (pss_cons (ps_lock (ps_setLc (i := 2) (own := [("rule", 4)]) rfl sc_snapshot.nd rfl rfl (sw_true rfl rfl rfl (by decide +kernel)) (pi_values (pe_fld (pv 0) rfl)) (blkOk_by (own := [("rule", 4)]) (N := ["house", "things", "counts", "thing", "rule"]) (sc := defScope s_snapshot) (by decide +kernel)) (fun _ _ _ _ _ => (pg_name (i := 4) sc_snapshot.nd rfl (Or.inl rfl))) (fun _ _ _ _ _ => pts_nil) (fun _ _ _ _ _ => (pe_fldK (K := K) rfl (pv 4) rfl)))) (pss_one (ps_ret (pe_tup (pa_cons (pe_callTy call_tuple_of rfl (fr_tuple g) (by decide +kernel) (pa_cons (pv 1) pa_nil)) (pa_cons (pe_callTy call_tuple_of rfl (fr_tuple g) (by decide +kernel) (pa_cons (pv 2) pa_nil)) pa_nil))))))), ?_⟩)
  · obtain ⟨L, s, rfl, _⟩ := h; rfl
  · obtain ⟨L, s, rfl, hh, op, fw, k⟩ := h
    obtain ⟨dx, hH⟩ := hh.h
    have ft := fw.ft
    have fr := fw.fr
    refine ⟨L.dt, _, op.dt, trivial, fun od => ?_⟩
    refine ⟨_, rfl, L.h, _, dx, _, _, rfl, (upd_ne (ne_of hH op.dt (by intro z; cases z))).trans hH, cl_House g, na_House_things g, lk_House_things .., ?_⟩
    refine ⟨L.dt, od, _, rfl, upd_same, fun D nD => ?_⟩
    have nDt : L.dt ≠ D := fun z => by rw [← z, upd_same] at nD; cases nD
    have nD0 : H D = none := by rw [upd_ne nDt.symm] at nD; exact nD
    refine lc_it (walk_vT hh.lt) (fun i H' => Fr (At L.dt) H H' ∧ H' L.dt = some (.frz od (.dK (thingsK L.ts s.things))) ∧ ∃ vs, H' D = some (.lst vs) ∧ Paired (fun v x => NKey H' (thK (x.is, x.want, x.by_)) v) vs (s.things.take i))
      ⟨Fr.at1.trans (Fr.new nD), (upd_ne nDt).trans upd_same, [], upd_same, .nil⟩ (fun i H' _ z => z.2.1) ?_ ?_
    · rintro i y H' H2 hi ⟨f, hlk, vs, hD, pv⟩ ⟨rfl, l, x, hl, hx, rfl⟩
      obtain ⟨x', hx', tx⟩ := paired_get hh.ts hl
      rw [hx] at hx'; cases hx'
      obtain ⟨_, _, _, _, _, _, _, _, _, e4⟩ := tx.there
      have qf : Quiet H H2 := Quiet.at1 f op.dt soft_dK
      obtain ⟨da, o, hv, q1, q2, q3⟩ := tx.quiet qf (f.eq e4 (ne_of e4 op.dt (by intro z; cases z)))
      refine ⟨rfl, ?_⟩
      dsimp only [tYes]
      have et : s.things.take (i + 1) = s.things.take i ++ [x] := by rw [List.take_succ, hx]; rfl
      have lv : vs.length ≤ 4 := by rw [pv.length, List.length_take]; omega
      refine iteT ⟨_, rfl, l.a, _, da, _, _, rfl, q1, cl_Thing g, na_Thing_value g, lk_Thing_value .., ?_⟩
      refine ⟨_, rfl, l.a, _, da, _, _, rfl, q1, cl_Thing g, na_Thing_target g, lk_Thing_target .., ?_⟩
      refine ⟨_, rfl, l.a, _, da, _, _, rfl, q1, cl_Thing g, na_Thing_origin g, lk_Thing_origin .., by show 3 ≤ sizeLine; decide, fun p np => ?_⟩
      have nDp : D ≠ p := ne_of_none hD np
      refine ⟨_, (upd_ne nDp).trans hD, by rw [sizeLine_eq]; omega, ?_, ?_, _, upd_same, ?_⟩
      · intro b u e n
        have e1 := f b u e n
        rw [upd_ne (ne_of_none e nD0), upd_ne (ne_of_none e1 np)]; exact e1
      · rw [upd_ne nDt, upd_ne (ne_of_none hlk np)]; exact hlk
      · have tu : Tups H2 (upd (upd H2 p (.tup [.int (x.is : Nat), .int (x.want : Nat), .ref o])) D (.lst (vs ++ [.ref p]))) := fun b xs e => by
          rw [upd_ne (ne_of e hD (by intro z; cases z)), upd_ne (ne_of_none e np)]; exact e
        rw [et]
        refine paired_end (Paired.mapP pv fun a b z => z.keep tu) ?_
        refine .tup (vs := [.int (x.is : Nat), .int (x.want : Nat), .ref o]) ((upd_ne nDp.symm).trans upd_same) (.cons (.num _) (.cons (.num _) (.cons (.tup (tu _ _ q2) (nall_texts _)) .nil)))
    · rintro H1 ⟨f, hlk, vs, hD, pv⟩
      refine ⟨hlk, ?_⟩
      rw [List.take_length] at pv
      have sm : Same H (upd H1 L.dt (.dK (thingsK L.ts s.things))) := f.unlock op.dt
      have hD1 : upd H1 L.dt (.dK (thingsK L.ts s.things)) D = some (.lst vs) := (upd_ne nDt.symm).trans hD
      have pv1 : Paired (fun v x => NKey (upd H1 L.dt (.dK (thingsK L.ts s.things))) (thK (x.is, x.want, x.by_)) v) vs s.things := Paired.mapP pv fun a b z => z.keep fun c xs e => by
        rw [upd_ne (ne_of e hlk (by intro z; cases z))]; exact e
      generalize upd H1 L.dt (.dK (thingsK L.ts s.things)) = H2 at sm hD1 pv1
      have hdr2 := sm _ _ op.dr
      refine ⟨L.dr, _, hdr2, trivial, fun od2 => ?_⟩
      refine ⟨_, rfl, L.h, _, dx, _, _, rfl, (upd_ne (ne_of hH op.dr (by intro z; cases z))).trans (sm _ _ hH), cl_House g, na_House_rules g, lk_House_rules .., ?_⟩
      refine ⟨L.dr, od2, _, rfl, upd_same, fun D2 nD2 => ?_⟩
      have nDr : L.dr ≠ D2 := fun z => by rw [← z, upd_same] at nD2; cases nD2
      have nD20 : H2 D2 = none := by rw [upd_ne nDr.symm] at nD2; exact nD2
      refine lc_it (walk_vR hh.lr) (fun i H' => Fr (At L.dr) H2 H' ∧ H' L.dr = some (.frz od2 (.dK (rulesK L.rs s.rules))) ∧ H' D2 = some (.lst (((s.rules.take i).map (·.held)).map fun n => V.int (n : Nat))))
        ⟨Fr.at1.trans (Fr.new nD2), (upd_ne nDr).trans upd_same, upd_same⟩ (fun i H' _ z => z.2.1) ?_ ?_
      · rintro i y H' H3 hi ⟨f3, hlk3, hD3⟩ ⟨rfl, l, x, hl, hx, rfl⟩
        obtain ⟨x', hx', tx⟩ := paired_get hh.rs hl
        rw [hx] at hx'; cases hx'
        obtain ⟨da, vc, va, q1, q2, q3⟩ := tx
        have q1' := f3 _ _ (sm _ _ q1) (ne_of q1 op.dr (by intro z; cases z))
        refine ⟨rfl, ?_⟩
        dsimp only [tYes]
        have et : s.rules.take (i + 1) = s.rules.take i ++ [x] := by rw [List.take_succ, hx]; rfl
        refine iteT ⟨_, rfl, l, _, da, _, _, rfl, q1', cl_Rule g, na_Rule_count g, lk_Rule_count .., ?_⟩
        refine ⟨_, hD3, by rw [List.length_map, List.length_map, List.length_take, sizeLine_eq]; omega, ?_, ?_, ?_⟩
        · intro b u e n
          rw [upd_ne (ne_of_none e nD20)]; exact f3 b u e n
        · rw [upd_ne nDr]; exact hlk3
        · rw [upd_same, et, List.map_append, List.map_append]; rfl
      · rintro H3 ⟨f3, hlk3, hD3⟩
        refine ⟨hlk3, ?_⟩
        rw [List.take_length] at hD3
        have sm3 : Same H2 (upd H3 L.dr (.dK (rulesK L.rs s.rules))) := f3.unlock hdr2
        have hD4 : upd H3 L.dr (.dK (rulesK L.rs s.rules)) D2 = some (.lst ((s.rules.map (·.held)).map fun n => V.int (n : Nat))) := (upd_ne nDr.symm).trans hD3
        generalize upd H3 L.dr (.dK (rulesK L.rs s.rules)) = H4 at sm3 hD4
        refine ⟨_, rfl, D, _, rfl, .inl ⟨SqL.of (sm3 _ _ hD1), fun p np => ?_⟩⟩
        have sp1 := same_new (o := HO.tup vs) np
        refine ⟨_, rfl, D2, _, rfl, .inl ⟨SqL.of (sp1 _ _ hD4), fun p2 np2 => ?_⟩⟩
        have sp2 := same_new (o := HO.tup ((s.rules.map (·.held)).map fun n => V.int (n : Nat))) np2
        refine ⟨by show 2 ≤ sizeLine; decide, fun p3 np3 => ?_⟩
        have sp3 := same_new (o := HO.tup [.ref p, .ref p2]) np3
        have all := (sm3.trans sp1).trans (sp2.trans sp3)
        refine k _ p3 (sm.trans all) (.tup (vs := [.ref p, .ref p2]) upd_same (.cons (.tup (vs := vs) ?_ ?_) (.cons (.tup (vs := (s.rules.map (·.held)).map fun n => V.int (n : Nat)) ?_ (nall_nums _)) .nil)))
        · exact sp3 _ _ (sp2 _ _ upd_same)
        · have e : (look s).1.map thK = s.things.map fun x => thK (x.is, x.want, x.by_) := by
            show (s.things.map _).map thK = _
            rw [List.map_map]; rfl
          rw [e]
          refine NAll.of_paired (paired_mapR (F := fun v k => NKey _ k v) (h := fun x : Thing => thK (x.is, x.want, x.by_)) (Paired.mapP pv1 fun a b z => z.keep (Tups.of_same all)))
        · exact sp3 _ _ upd_same
end
end Hw
end

/-! ## part T4 -/
section
set_option Elab.async false
set_option linter.all false
set_option maxRecDepth 100000
set_option maxHeartbeats 2000000
namespace Hw
open PySem PySem.Spec PyProof.Rows L2
open Hr01 (Bytes Words Term Sum Cond ascii isName num? term? digit small sum? parted Cmd Rule cmd? Thing House By byText thingsIn thingsOf valueOf termValue sumValue isSensor thingOf ruleOf leaves joined decimal told listed termText sumText condText wanted clamped looked become wasAt minute minutes taken withThing setSensor does no hangs ringed look restFrom)
def iter : Nat → House → House
  | 0, s => s
  | n + 1, s => Hr01.done (iter n s)
theorem WF.iter {s : House} (h : WF s) : ∀ n, WF (iter n s)
  | 0 => h
  | n + 1 => (WF.iter h n).done
theorem rest_step (k : Nat) (s : House) (ls : List Shot) : restFrom (k + 1) s ls = match ls.findIdx? fun x => x == look s with
    | some i => if i + 1 = ls.length then .rest i else .round i (ls.length - i)
    | none => restFrom k (Hr01.done s) (ls ++ [look s]) := rfl
theorem S_appE (x : Bytes) : (Str.empty ++ S x) = S x := by
  have e : Str.empty = S [] := rfl
  rw [e, S_append]; rfl
section
variable {P : Program} {w : World} {K : PySem.W.Frag} {mg : Str → Option Value} {base : Heap}
def sp_find_rest (K : PySem.W.Frag) : Sp := fun vs H Q _ => ∃ (L : Lay) (s : House), vs = [.ref L.h] ∧ HouseAt K H L s ∧ Opn H L s ∧ WF s ∧ ∀ H', Same H H' → Q (vS (restText (Hr01.rest s))) H'
theorem sc_find_rest : FnScope ["house", "twin", "seen", "place", "shot", "first", "period"] ["house"] (defScope s_find_rest) := ⟨rfl, rfl, rfl, by decide +kernel, rfl, by decide +kernel, by decide +kernel⟩
theorem ok_find_rest (g : Good w K mg) : FnOk P w K mg base CX0 26 (He.ga K "find_rest") (fdA K (He.ga K "find_rest")) ["house"] (sp_find_rest K) := by
  refine (F_find_rest g).ok sc_find_rest (fun vs H Q E h => ?_) (fun cdv A outer s0 H vs Q E hr h => ⟨_, PSs.nox (pss_cons (ps_set (i := 1) sc_find_rest.nd rfl (Or.inl rfl) (pe_call (ok_twin_of_house g) (hr.mono (by decide)) rfl (m_twin_of_house g) (F_twin_of_house g).kp (b_twin_of_house g) .nil pass0 (pa_cons (pv 0) pa_nil))) (pss_cons (ps_set (i := 2) sc_find_rest.nd rfl (Or.inl rfl) (pe_sdisp hr.units (pe_call (ok_snapshot g) (hr.mono (by decide)) rfl (m_snapshot g) (F_snapshot g).kp (b_snapshot g) .nil pass0 (pa_cons (pv 1) pa_nil)) pe_int)) (pss_cons (ps_for PassesOwn.never rfl (pi_range2 rfl (fr_range g) (pa_cons pe_int (pa_cons (pe_op op_add (pe_gI rfl (i_LAST_SNAPSHOT g)) pe_int) pa_nil))) (pg_name (i := 3) sc_find_rest.nd rfl (Or.inl rfl)) (pss_cons (ps_expr (pe_call (ok_settle g) (hr.mono (by decide)) rfl (m_settle g) (F_settle g).kp (b_settle g) .nil pass0 (pa_cons (pv 1) pa_nil))) (pss_cons (ps_set (i := 4) sc_find_rest.nd rfl (Or.inl rfl) (pe_call (ok_snapshot g) (hr.mono (by decide)) rfl (m_snapshot g) (F_snapshot g).kp (b_snapshot g) .nil pass0 (pa_cons (pv 1) pa_nil))) (pss_cons (ps_if (pt_cmp (pc_sin hr.units (pv 4) (pv 2))) (pss_cons (ps_set (i := 5) sc_find_rest.nd rfl (Or.inl rfl) (pe_sget hr.units (pv 2) (pv 4) (fun _ _ => rfl))) (pss_cons (ps_set (i := 6) sc_find_rest.nd rfl (Or.inl rfl) (pe_op op_sub (pv 3) (pv 5))) (pss_one (ps_ret (pe_ifExp (pt_cmpR op_eq (pv 6) pe_int (nomark _)) (pe_joined (.cons pe_str (.cons (pe_fmt (pv 5)) .nil))) (pe_joined (.cons pe_str (.cons (pe_fmt (pv 5)) (.cons pe_str (.cons (pe_fmt (pv 6)) .nil)))))))))) pss_nil) (pss_one (ps_sput hr.units (pv 2) (pv 4) (pv 3) rfl)))))) (pss_one (ps_ret pe_str))))), ?_⟩)
  · obtain ⟨L, s, rfl, _⟩ := h; rfl
  · obtain ⟨L, s, rfl, hh, op, wf, k⟩ := h
    refine ⟨_, rfl, L, s, rfl, hh, op, wf, fun H1 L' s1 nw b1 => ?_⟩
    intro d o0 nd sf0 nl0
    have sd := same_new (o := o0) nd
    have b2 := b1.same sd
    refine ⟨_, rfl, L', s, rfl, b2.hat, b2.opn, wf.few, fun H2 a s2 nk => ?_⟩
    have hd2 := s2 _ _ (upd_same (H := H1) (a := d) (o := o0))
    refine ⟨hd2, a, keyOf (look s), 0, rfl, rfl, nk, keyOf_depth _, fun H3 f3 t3 sn => ?_⟩
    have nd0 : H d = none := s1.free nd
    have b3 : Bare K H3 L' s := by
      have v := b2.same s2
      have nm : ∀ b, MaL L' b → ¬ At d b := fun b m z => by
        obtain ⟨o, e⟩ := b1.there m
        rw [z, nd] at e; cases e
      have qq : Quiet H2 H3 := Quiet.of_fr f3 fun b o m e => by rw [m, hd2] at e; cases e; exact sf0
      refine ⟨v.hat.away f3 qq (nm _ (.inl (.inl rfl))) (nm _ (.inr (.inr (.inl rfl)))) (nm _ (.inr (.inr (.inr (.inl rfl))))) (nm _ (.inr (.inr (.inr (.inr rfl))))) (fun l hl => nm _ (.inl (.inr (.inl (List.mem_map.mpr ⟨l, hl, rfl⟩))))) (fun a ha => nm _ (.inl (.inr (.inr ha)))), v.sep, ⟨f3 _ _ v.opn.ds (nm _ (.inr (.inr (.inl rfl)))), f3 _ _ v.opn.dt (nm _ (.inr (.inr (.inr (.inl rfl))))), f3 _ _ v.opn.dr (nm _ (.inr (.inr (.inr (.inr rfl)))))⟩, fun b m => ?_⟩
      obtain ⟨xs, e⟩ := v.pas b m
      exact ⟨xs, f3 _ _ e (nm _ (.inr (.inl m)))⟩
    have s3 : Same H H3 := fun b o e => f3 _ _ (s2 _ _ (sd _ _ (s1 _ _ e))) fun z => by rw [z, nd0] at e; cases e
    have e0 : Hr01.rest s = restFrom (100 - 0) (Hr01.done (iter 0 s)) [look s] := rfl
    refine ⟨_, _, rfl, rfl, _, _, rfl, by decide, ?_⟩
    refine for_range (n := 100) (fun i σ H' => i ≤ 100 ∧ Bare K H' L' (iter i s) ∧ Same H H' ∧ (∃ ls : List Shot, ls.length = i + 1 ∧ SeenAt P w H' d (seenK ls) ∧ Hr01.rest s = restFrom (100 - i) (Hr01.done (iter i s)) ls) ∧ ∃ z1 z2, σ = [some (.ref L.h), some (.ref L'.h), some (.ref d), z1, z2, none, none])
      ⟨by decide, b3, s3, ⟨[look s], rfl, sn, e0⟩, none, none, rfl⟩ ?_ ?_
    · rintro i σ H4 hi ⟨_, b4, sm4, ⟨ls, ll, sn4, er⟩, z1, z2, rfl⟩
      have hext : ∃ φ, H4 d = some (.ext φ) := by obtain ⟨xs, h, _⟩ := sn4.ex; exact ⟨_, h⟩
      obtain ⟨φ, hφ⟩ := hext
      refine ⟨_, rfl, L', iter i s, rfl, b4.hat, b4.sep, b4.opn, wf.iter i, fun H5 f5 h5 o5 => ?_⟩
      have b5 : Bare K H5 L' (iter (i + 1) s) := b4.step (f5.mono fun b m => .inr m) h5 o5
      have q5 : Quiet H4 H5 := Quiet.of_fr f5 fun b o m e => by
        obtain ⟨c, dx, fs, q, sf⟩ := b4.hat.mt_ins m
        rw [e] at q; cases q; exact sf
      have nmd : ¬ MtL L' d := fun m => by
        obtain ⟨c, dx, fs, q, _⟩ := b4.hat.mt_ins m
        rw [hφ] at q; cases q
      have sn5 : SeenAt P w H5 d (seenK ls) := sn4.keep q5.t (f5.eq hφ nmd)
      have sm5 : Same H H5 := fun b o e => f5 _ _ (sm4 _ _ e) fun m => by
        have := nw b (.inl (.inr m)); rw [e] at this; cases this
      refine ⟨_, rfl, L', iter (i + 1) s, rfl, b5.hat, b5.opn, (wf.iter (i + 1)).few, fun H6 a6 s6 nk6 => ?_⟩
      have hφ5 : H5 d = some (.ext φ) := f5 _ _ hφ nmd
      have sn6 : SeenAt P w H6 d (seenK ls) := sn5.keep (Tups.of_same s6) ((s6 _ _ hφ5).trans hφ5.symm)
      have sm6 := sm5.trans s6
      refine ⟨_, rfl, _, rfl, d, a6, seenK ls, keyOf (look (iter (i + 1) s)), rfl, rfl, sn6, nk6, keyOf_depth _, _, rfl, ?_⟩
      rw [nfind_seen]
      have ek : 100 - i = (100 - (i + 1)) + 1 := by omega
      rw [ek, rest_step] at er
      cases ef : ls.findIdx? (fun x => x == look (iter (i + 1) s)) with
      | some j =>
        have er' : Hr01.rest s = if j + 1 = ls.length then .rest j else .round j (ls.length - j) := by
          rw [er]
          show (match ls.findIdx? (fun x => x == look (iter (i + 1) s)) with | some i => _ | none => _) = _
          rw [ef]
        have jl : j < ls.length := by
          obtain ⟨h, _⟩ := List.findIdx?_eq_some_iff_getElem.mp ef
          exact h
        refine iteT ⟨_, rfl, _, rfl, d, a6, seenK ls, keyOf (look (iter (i + 1) s)), j, rfl, rfl, sn6, nk6, keyOf_depth _, by rw [nfind_seen]; exact ef, ?_⟩
        refine ⟨_, rfl, _, rfl, _, _, rfl, rfl, ?_⟩
        refine ⟨_, rfl, rfl, _, rfl, ?_⟩
        have d1 := dec_len (n := j) (k := 4) (by decide) (by omega)
        by_cases c : j + 1 = ls.length
        · rw [if_pos c] at er'
          have e1 : decide ((V.int ((1 : Int) + (i : Nat) - (j : Nat))) = V.int 1) = true := decide_eq_true (by congr 1; omega)
          rw [show decide ((fun i j => V.int (i - j)) ((1 : Int) + (i : Nat)) ((j : Nat) : Int) = V.int 1) = true from e1]
          have er1 : (("rest " : String) : Str) = S [114, 101, 115, 116, 32] := S_of "rest "
          refine iteT ⟨_, rfl, by rw [er1, S_appE, S_len, sizeLine_eq]; simp, _, rfl, .inr ⟨_, rfl, log_small (by omega), _, rfl, ?_, ?_⟩⟩
          · rw [er1, S_appE, dec_S, S_append, S_len, List.length_append, sizeLine_eq]; simp; omega
          · rw [er1, S_appE, dec_S, text_rest, ← er']
            exact k _ sm6
        · rw [if_neg c] at er'
          have e1 : decide ((V.int ((1 : Int) + (i : Nat) - (j : Nat))) = V.int 1) = false := decide_eq_false (by intro z; injection z with z; omega)
          rw [show decide ((fun i j => V.int (i - j)) ((1 : Int) + (i : Nat)) ((j : Nat) : Int) = V.int 1) = false from e1]
          have er1 : (("round " : String) : Str) = S [114, 111, 117, 110, 100, 32] := S_of "round "
          have er2 : ((" " : String) : Str) = S [32] := S_of " "
          have ep : ((1 : Int) + (i : Nat) - (j : Nat)) = ((ls.length - j : Nat) : Int) := by omega
          have d2 := dec_len (n := ls.length - j) (k := 4) (by decide) (by omega)
          refine iteF ⟨_, rfl, by rw [er1, S_appE, S_len, sizeLine_eq]; simp, _, rfl, .inr ⟨_, rfl, log_small (by omega), _, rfl, ?_, ?_⟩⟩
          · rw [er1, S_appE, dec_S, S_append, S_len, List.length_append, sizeLine_eq]; simp; omega
          · refine ⟨_, rfl, ?_, _, rfl, .inr ⟨((ls.length - j : Nat) : Int), congrArg V.int ep, log_small (by omega), _, rfl, ?_, ?_⟩⟩
            · rw [er1, er2, S_appE, dec_S, S_append, S_append, S_len, List.length_append, List.length_append, sizeLine_eq]; simp; omega
            · rw [er1, er2, S_appE, dec_S, dec_S, S_append, S_append, S_append, S_len, List.length_append, List.length_append, List.length_append, sizeLine_eq]; simp; omega
            · rw [er1, er2, S_appE, dec_S, dec_S, text_round, ← er']
              exact k _ sm6
      | none =>
        have er' : Hr01.rest s = restFrom (100 - (i + 1)) (Hr01.done (iter (i + 1) s)) (ls ++ [look (iter (i + 1) s)]) := by
          rw [er]
          show (match ls.findIdx? (fun x => x == look (iter (i + 1) s)) with | some i => _ | none => _) = _
          rw [ef]
          rfl
        have lk := seenK_len ls
        have ep : ((1 : Int) + (i : Nat)) = ((i + 1 : Nat) : Int) := by omega
        refine iteF ⟨_, rfl, _, rfl, _, rfl, d, a6, seenK ls, keyOf (look (iter (i + 1) s)), i + 1, rfl, rfl, congrArg V.int ep, sn6, nk6, keyOf_depth _, by rw [lk]; omega, by rw [nfind_seen]; exact ef, fun H7 f7 t7 sn7 => ?_⟩
        have b6 := b5.same s6
        have hφ6 := s6 _ _ hφ5
        have nm : ∀ b, MaL L' b → ¬ At d b := fun b m z => by
          have z' : b = d := z
          rcases m with m | m | m | m | m
          · obtain ⟨_, _, _, e, _⟩ := b6.hat.mh_ins m; rw [z', hφ6] at e; cases e
          · obtain ⟨_, e⟩ := b6.pas b m; rw [z', hφ6] at e; cases e
          · have e := b6.opn.ds; rw [← m, z', hφ6] at e; cases e
          · have e := b6.opn.dt; rw [← m, z', hφ6] at e; cases e
          · have e := b6.opn.dr; rw [← m, z', hφ6] at e; cases e
        have qq : Quiet H6 H7 := Quiet.of_fr f7 fun b o m e => by rw [m, hφ6] at e; cases e; exact soft_ext
        have b7 : Bare K H7 L' (iter (i + 1) s) := by
          refine ⟨b6.hat.away f7 qq (nm _ (.inl (.inl rfl))) (nm _ (.inr (.inr (.inl rfl)))) (nm _ (.inr (.inr (.inr (.inl rfl))))) (nm _ (.inr (.inr (.inr (.inr rfl))))) (fun l hl => nm _ (.inl (.inr (.inl (List.mem_map.mpr ⟨l, hl, rfl⟩))))) (fun a ha => nm _ (.inl (.inr (.inr ha)))), b6.sep, ⟨f7 _ _ b6.opn.ds (nm _ (.inr (.inr (.inl rfl)))), f7 _ _ b6.opn.dt (nm _ (.inr (.inr (.inr (.inl rfl))))), f7 _ _ b6.opn.dr (nm _ (.inr (.inr (.inr (.inr rfl)))))⟩, fun b m => ?_⟩
          obtain ⟨xs, e⟩ := b6.pas b m
          exact ⟨xs, f7 _ _ e (nm _ (.inr (.inl m)))⟩
        have s7 : Same H H7 := fun b o e => f7 _ _ (sm6 _ _ e) fun z => by rw [z, nd0] at e; cases e
        refine ⟨by omega, b7, s7, ⟨ls ++ [look (iter (i + 1) s)], by rw [List.length_append, ll]; rfl, ?_, er'⟩, some (.int (1 + (i : Nat))), some (.ref a6), rfl⟩
        rw [seenK_snoc, ll]
        exact sn7
    · rintro σ H4 ⟨_, b4, sm4, ⟨ls, ll, sn4, er⟩, z1, z2, rfl⟩
      rw [show 100 - 100 = 0 from rfl] at er
      have : Hr01.rest s = .more := er
      show Q (.str _) H4
      rw [S_of, show ascii "more" = restText (Hr01.rest s) by rw [this]; rfl]
      exact k _ sm4
end
end Hw
end

/-! ## part V0 -/
section
set_option Elab.async false
set_option linter.all false
set_option maxRecDepth 100000
set_option maxHeartbeats 2000000
namespace Hw
open PySem PySem.Spec PyProof.Rows L2
open Hr01 (Bytes Words Term Sum Cond ascii isName num? term? digit small sum? parted Cmd Rule cmd? Thing House By byText thingsIn thingsOf valueOf termValue sumValue isSensor thingOf ruleOf leaves joined decimal told listed termText sumText condText wanted clamped looked become wasAt minute minutes taken withThing setSensor does no hangs ringed look restFrom thingText ruleText leafText over)
theorem vs_S (ws : Words) : ws.map vS = (ws.map S).map V.str := by rw [List.map_map]; rfl
theorem join_fits {sep : Str} {c : Nat} (h : sep = S [c]) {ws : Words} {n : Nat} (hw : wlen ws ≤ n) (hn : n ≤ 16777216) : ((ws.map S).map (·.length)).sum + (ws.map S).length * sep.length ≤ 16777216 := by
  subst h
  rw [sum_lens, List.length_map, show (S [c]).length = 1 from rfl]
  unfold wlen at hw
  omega
theorem told2 (a b : Bytes) : told [a, b] = a ++ 32 :: b := rfl
theorem wlen_told {l : List Words} {n : Nat} (h : ∀ x ∈ l, wlen x ≤ n) : wlen (l.map told) ≤ (n + 1) * l.length := by
  induction l with
  | nil => simp [wlen]
  | cons x r ih =>
    have h1 := h x (List.mem_cons_self ..)
    have h2 := ih fun y hy => h y (List.mem_cons_of_mem _ hy)
    rw [List.map_cons, wlen_cons, List.length_cons]
    have h3 : (told x).length ≤ wlen x := joined_wlen 32 x
    have : (n + 1) * (r.length + 1) = (n + 1) * r.length + (n + 1) := Nat.mul_succ ..
    omega
theorem listed_eq (l : List Words) : listed l = joined 10 (decimal (l.map told).length :: l.map told) := by rw [List.length_map]; rfl
theorem wlen_sub {l m : Words} (h : m.Sublist l) : wlen m ≤ wlen l := by
  induction h with
  | slnil => exact Nat.le_refl _
  | cons a _ ih => rw [wlen_cons]; omega
  | cons_cons a _ ih => rw [wlen_cons, wlen_cons]; omega
section
variable {P : Program} {w : World} {K : PySem.W.Frag} {mg : Str → Option Value} {base : Heap}
def sp_show_list (K : PySem.W.Frag) : Sp := fun vs H Q _ => ∃ (a : Addr) (ws : Words), vs = [.ref a] ∧ H a = some (.lst (ws.map vS)) ∧ wlen ws ≤ 9000000 ∧ ∀ H', Same H H' → Q (vS (joined 10 (decimal ws.length :: ws))) H'
theorem sc_show_list : FnScope ["entries"] ["entries"] (defScope s_show_list) := ⟨rfl, rfl, rfl, by decide +kernel, rfl, by decide +kernel, by decide +kernel⟩
theorem ok_show_list (g : Good w K mg) : FnOk P w K mg base CX0 1 (He.ga K "show_list") (fdA K (He.ga K "show_list")) ["entries"] (sp_show_list K) := by
  refine (F_show_list g).ok sc_show_list (fun vs H Q E h => ?_) (fun cdv A outer s0 H vs Q E hr h => ⟨_, PSs.nox (pss_one (ps_ret (pe_join pe_str (pe_op op_cat (pe_lst (pa_cons (pe_callTy call_str_int rfl (fr_str g) (by decide +kernel) (pa_cons (pe_callB call_len rfl (fr_len g) (by decide +kernel) (pa_cons (pv 0) pa_nil)) pa_nil)) pa_nil)) (pv 0))))), ?_⟩)
  · obtain ⟨a, ws, rfl, _⟩ := h; rfl
  · obtain ⟨a, ws, rfl, ha, hw, k⟩ := h
    have hl : ws.length ≤ 9000000 := by unfold wlen at hw; omega
    have es : (("\n" : String) : Str) = S [10] := S_of "\n"
    refine ⟨⟨_, rfl⟩, _, rfl, _, _, rfl, Or.inl ⟨_, SqL.of ha, rfl⟩, ?_⟩
    rw [List.length_map]
    refine ⟨_, rfl, log_small (by omega), by show 1 ≤ sizeLine; decide, fun p np => ?_⟩
    have s1 := same_new (o := HO.lst [V.str (toString ((ws.length : Nat) : Int))]) np
    refine ⟨_, rfl, p, a, _, _, rfl, rfl, upd_same, s1 _ _ ha, by rw [List.length_map, sizeLine_eq]; simp; omega, fun q nq => ?_⟩
    have s2 := same_new (o := HO.lst ([V.str (toString ((ws.length : Nat) : Int))] ++ ws.map vS)) nq
    have hq : upd (upd H p (.lst [V.str (toString ((ws.length : Nat) : Int))])) q (.lst ([V.str (toString ((ws.length : Nat) : Int))] ++ ws.map vS)) q = some (.lst (((decimal ws.length :: ws).map S).map V.str)) := by
      rw [upd_same, ← vs_S, List.map_cons]
      show some (HO.lst (V.str _ :: ws.map vS)) = _
      rw [dec_S]
    have hd := dec_len (n := ws.length) (k := 7) (by decide) (by omega)
    refine ⟨_, q, _, rfl, rfl, Or.inl (SqL.of hq), join_fits es (n := 9000010) (by rw [wlen_cons]; omega) (by decide), ?_⟩
    rw [es, join_sep rfl]
    exact k _ (s1.trans s2)
def sp_show_named_value (K : PySem.W.Frag) : Sp := fun vs H Q _ => ∃ (n : Bytes) (v : Nat), vs = [vS n, .int (v : Nat)] ∧ n.length ≤ 100 ∧ v ≤ 99999 ∧ Q (vS (told [n, decimal v])) H
theorem sc_show_named_value : FnScope ["name", "value"] ["name", "value"] (defScope s_show_named_value) := ⟨rfl, rfl, rfl, by decide +kernel, rfl, by decide +kernel, by decide +kernel⟩
theorem ok_show_named_value (g : Good w K mg) : FnOk P w K mg base CX0 1 (He.ga K "show_named_value") (fdA K (He.ga K "show_named_value")) ["name", "value"] (sp_show_named_value K) := by
  refine (F_show_named_value g).ok sc_show_named_value (fun vs H Q E h => ?_) (fun cdv A outer s0 H vs Q E hr h => ⟨_, PSs.nox (pss_one (ps_ret (pe_joined (.cons (pe_fmt (pv 0)) (.cons pe_str (.cons (pe_fmt (pv 1)) .nil)))))), ?_⟩)
  · obtain ⟨n, v, rfl, _⟩ := h; rfl
  · obtain ⟨n, v, rfl, hn, hv, k⟩ := h
    have er : ((" " : String) : Str) = S [32] := S_of " "
    have d1 := dec_len (n := v) (k := 5) (by decide) (by omega)
    refine ⟨_, rfl, .inl ⟨_, rfl, by rw [S_len, sizeLine_eq]; omega, _, rfl, by rw [S_appE, S_len, sizeLine_eq]; omega, ?_⟩⟩
    refine ⟨_, rfl, by rw [er, S_appE, S_append, S_len, List.length_append, sizeLine_eq]; simp; omega, _, rfl, .inr ⟨_, rfl, log_small (by omega), _, rfl, ?_, ?_⟩⟩
    · rw [er, S_appE, dec_S, S_append, S_append, S_len, List.length_append, List.length_append, sizeLine_eq]; simp; omega
    · rw [er, S_appE, dec_S, S_append, S_append]
      have : n ++ [32] ++ decimal v = told [n, decimal v] := by rw [told2]; simp
      rw [this]
      exact k
def sp_show_thing (K : PySem.W.Frag) : Sp := fun vs H Q _ => ∃ (n : Bytes) (l : TL) (x : Thing), vs = [vS n, .ref l.a] ∧ n = x.name ∧ ThingAt K H l x ∧ TOk x ∧ isName x.name = true ∧ ∀ H', Same H H' → Q (vS (told (thingText x))) H'
theorem sc_show_thing : FnScope ["name", "thing", "words"] ["name", "thing"] (defScope s_show_thing) := ⟨rfl, rfl, rfl, by decide +kernel, rfl, by decide +kernel, by decide +kernel⟩
theorem byText_wlen {b : By} (h : ∀ n, b = .rule n → isName n = true) : wlen (byText b) ≤ 20 := by
  cases b with
  | none_ => decide
  | rule n =>
    have := isName_len (h n rfl)
    show wlen [ascii "rule", n] ≤ 20
    rw [wlen_cons, wlen_cons, wlen_nil, show (ascii "rule").length = 4 from rfl]; omega
  | hold => decide
  | hand => decide
theorem thingText_wlen {x : Thing} (h : TOk x) (hn : isName x.name = true) : wlen (thingText x) ≤ 60 := by
  unfold Hr01.thingText
  have h1 := isName_len hn
  have h2 := dec_len (n := x.is) (k := 3) (by decide) (by have := h.is; omega)
  have h3 := dec_len (n := x.want) (k := 3) (by decide) (by have := h.want; omega)
  have h4 := byText_wlen h.by_
  rw [wlen_append, wlen_append, wlen_cons, wlen_cons, wlen_cons, wlen_nil]
  have h5 : wlen (if x.hears = true then [] else [ascii "deaf"]) ≤ 5 := by split <;> decide
  omega
theorem ok_show_thing (g : Good w K mg) : FnOk P w K mg base CX0 1 (He.ga K "show_thing") (fdA K (He.ga K "show_thing")) ["name", "thing"] (sp_show_thing K) := by
  refine (F_show_thing g).ok sc_show_thing (fun vs H Q E h => ?_) (fun cdv A outer s0 H vs Q E hr h => ⟨_, PSs.nox (pss_cons (ps_set (i := 2) sc_show_thing.nd rfl (Or.inl rfl) (pe_op op_cat (pe_lst (pa_cons (pv 0) (pa_cons (pe_callTy call_str_int rfl (fr_str g) (by decide +kernel) (pa_cons (pe_fld (pv 1) rfl) pa_nil)) (pa_cons (pe_callTy call_str_int rfl (fr_str g) (by decide +kernel) (pa_cons (pe_fld (pv 1) rfl) pa_nil)) pa_nil)))) (pe_callTy call_list_of rfl (fr_list g) (by decide +kernel) (pa_cons (pe_fld (pv 1) rfl) pa_nil)))) (pss_cons (ps_if (pt_val (pe_fld (pv 1) rfl)) (pss_one (ps_expr (pe_bm PySem.F.plainAttrs_list PySem.F.slot_list_append PySem.F.type_list_append mt_append (pv 2) (pa_cons pe_str pa_nil)))) pss_nil) (pss_one (ps_ret (pe_join pe_str (pv 2)))))), ?_⟩)
  · obtain ⟨n, l, x, rfl, _⟩ := h; rfl
  · obtain ⟨n, l, x, rfl, rfl, ⟨dx, o, hv, h1, h2, h3⟩, ok, hn, k⟩ := h
    have es : ((" " : String) : Str) = S [32] := S_of " "
    have ed : (("deaf" : String) : Str) = S (ascii "deaf") := S_of "deaf"
    have ci := ok.is
    have cw := ok.want
    refine ⟨_, rfl, _, rfl, l.a, _, dx, _, _, rfl, h1, cl_Thing g, na_Thing_value g, lk_Thing_value .., _, rfl, log_small (by omega), ?_⟩
    refine ⟨_, rfl, l.a, _, dx, _, _, rfl, h1, cl_Thing g, na_Thing_target g, lk_Thing_target .., _, rfl, log_small (by omega), by show 3 ≤ sizeLine; decide, fun p np => ?_⟩
    rw [dec_S, dec_S] at *
    have s1 := same_new (o := HO.lst [vS x.name, V.str (S (decimal x.is)), V.str (S (decimal x.want))]) np
    refine ⟨_, rfl, l.a, _, dx, _, _, rfl, s1 _ _ h1, cl_Thing g, na_Thing_origin g, lk_Thing_origin .., o, _, rfl, .inr (SqT.of (s1 _ _ h2)), fun q nq => ?_⟩
    have s2 := same_new (o := HO.lst ((byText x.by_).map vS)) nq
    have lb : (byText x.by_).length ≤ 20 := by have := byText_wlen ok.by_; unfold wlen at this; omega
    refine ⟨p, q, _, _, rfl, rfl, s2 _ _ upd_same, upd_same, by rw [List.length_map, sizeLine_eq]; simp; omega, fun r nr => ?_⟩
    have s3 := same_new (o := HO.lst ([vS x.name, V.str (S (decimal x.is)), V.str (S (decimal x.want))] ++ (byText x.by_).map vS)) nr
    have sA := (s1.trans s2).trans s3
    have hr0 : H r = none := (s1.trans s2).free nr
    have hr1 : upd (upd (upd H p (.lst [vS x.name, V.str (S (decimal x.is)), V.str (S (decimal x.want))])) q (.lst ((byText x.by_).map vS))) r (.lst ([vS x.name, V.str (S (decimal x.is)), V.str (S (decimal x.want))] ++ (byText x.by_).map vS)) r = some (.lst (([x.name, decimal x.is, decimal x.want] ++ byText x.by_).map vS)) := by
      rw [upd_same, List.map_append]; rfl
    generalize upd (upd (upd H p (.lst [vS x.name, V.str (S (decimal x.is)), V.str (S (decimal x.want))])) q (.lst ((byText x.by_).map vS))) r (.lst ([vS x.name, V.str (S (decimal x.is)), V.str (S (decimal x.want))] ++ (byText x.by_).map vS)) = H3 at sA hr1
    have wt := thingText_wlen ok hn
    refine ⟨_, rfl, l.a, _, dx, _, _, rfl, sA _ _ h1, cl_Thing g, na_Thing_deaf g, lk_Thing_deaf .., _, rfl, ?_⟩
    cases c : x.hears with
    | true =>
      have et : thingText x = [x.name, decimal x.is, decimal x.want] ++ byText x.by_ := by unfold Hr01.thingText; rw [c]; simp
      rw [et] at k wt
      rw [vs_S] at hr1
      refine iteF ⟨⟨_, rfl⟩, _, rfl, _, r, _, rfl, rfl, Or.inl (SqL.of hr1), join_fits es wt (by decide), ?_⟩
      rw [es, join_sep rfl]
      exact k _ sA
    | false =>
      have et : thingText x = [x.name, decimal x.is, decimal x.want] ++ byText x.by_ ++ [ascii "deaf"] := by unfold Hr01.thingText; rw [c]; simp
      rw [et] at k wt
      refine iteT ⟨_, rfl, Or.inl ⟨rfl, _, SqL.of hr1⟩, r, _, _, rfl, rfl, hr1, by rw [List.length_map, sizeLine_eq]; simp; omega, ?_⟩
      have hr2 : upd H3 r (.lst (([x.name, decimal x.is, decimal x.want] ++ byText x.by_).map vS ++ [V.str (("deaf" : String) : Str)])) r = some (.lst ((([x.name, decimal x.is, decimal x.want] ++ byText x.by_ ++ [ascii "deaf"]).map S).map V.str)) := by
        rw [upd_same, ← vs_S, List.map_append (l₂ := [ascii "deaf"]), ed]; rfl
      refine ⟨⟨_, rfl⟩, _, rfl, _, r, _, rfl, rfl, Or.inl (SqL.of hr2), join_fits es wt (by decide), ?_⟩
      rw [es, join_sep rfl]
      exact k _ (fun b u e => by rw [upd_ne (ne_of_none e hr0)]; exact sA _ _ e)
end
end Hw
end

/-! ## part V1 -/
section
set_option Elab.async false
set_option linter.all false
set_option maxRecDepth 100000
set_option maxHeartbeats 2000000
namespace Hw
open PySem PySem.Spec PyProof.Rows L2
open Hr01 (Bytes Words Term Sum Cond ascii isName num? term? digit small sum? parted Cmd Rule cmd? Thing House By byText thingsIn thingsOf valueOf termValue sumValue isSensor thingOf ruleOf leaves joined decimal told listed termText sumText condText wanted clamped looked become wasAt minute minutes taken withThing setSensor does no hangs ringed look restFrom thingText ruleText leafText over)
theorem wlen_map_le {α : Type} {f : α → Words} {l : List α} {n : Nat} (h : ∀ x ∈ l, wlen (f x) ≤ n) : wlen ((l.map f).map told) ≤ (n + 1) * l.length := by
  have := wlen_told (l := l.map f) (n := n) fun x hx => by
    obtain ⟨y, hy, rfl⟩ := List.mem_map.mp hx
    exact h y hy
  rw [List.length_map] at this
  exact this
section
variable {P : Program} {w : World} {K : PySem.W.Frag} {mg : Str → Option Value} {base : Heap}
def sp_tell_state (K : PySem.W.Frag) : Sp := fun vs H Q _ => ∃ (L : Lay) (s : House) (ar : Addr), vs = [.ref L.h, .ref ar] ∧ HouseAt K H L s ∧ Opn H L s ∧ WF s ∧ ∀ H', Same H H' → Q (vS (does s .state).2) H'
theorem sc_tell_state : FnScope ["house", "arguments", "sensors", "things", "name", "value", "thing"] ["house", "arguments"] (defScope s_tell_state) := ⟨rfl, rfl, rfl, by decide +kernel, rfl, by decide +kernel, by decide +kernel⟩
theorem ok_tell_state (g : Good w K mg) : FnOk P w K mg base CX0 2 (He.ga K "tell_state") (fdA K (He.ga K "tell_state")) ["house", "arguments"] (sp_tell_state K) := by
  refine (F_tell_state g).ok sc_tell_state (fun vs H Q E h => ?_) (fun cdv A outer s0 H vs Q E hr h => ⟨_, PSs.nox (pss_cons (ps_lock (ps_setLc (i := 2) (own := [("name", 4), ("value", 5)]) rfl sc_tell_state.nd rfl rfl (sw_true rfl rfl rfl (by decide +kernel)) (pi_items (pe_fld (pv 0) rfl)) (blkOk_by (own := [("name", 4), ("value", 5)]) (N := ["house", "arguments", "sensors", "things", "name", "value", "thing"]) (sc := defScope s_tell_state) (by decide +kernel)) (fun _ _ _ _ _ => (pg_tupK (K := K) (n := 2) rfl rfl (pgs_cons (pg_name (i := 4) sc_tell_state.nd rfl (Or.inl rfl)) (pgs_cons (pg_name (i := 5) sc_tell_state.nd rfl (Or.inl rfl)) pgs_nil)))) (fun _ _ _ _ _ => pts_nil) (fun _ _ _ _ _ => (pe_call (ok_show_named_value g) (hr.mono (by decide)) rfl (m_show_named_value g) (F_show_named_value g).kp (b_show_named_value g) .nil pass0 (pa_cons (pv 4) (pa_cons (pv 5) pa_nil)))))) (pss_cons (ps_lock (ps_setLc (i := 3) (own := [("name", 4), ("thing", 6)]) rfl sc_tell_state.nd rfl rfl (sw_true rfl rfl rfl (by decide +kernel)) (pi_items (pe_fld (pv 0) rfl)) (blkOk_by (own := [("name", 4), ("thing", 6)]) (N := ["house", "arguments", "sensors", "things", "name", "value", "thing"]) (sc := defScope s_tell_state) (by decide +kernel)) (fun _ _ _ _ _ => (pg_tupK (K := K) (n := 2) rfl rfl (pgs_cons (pg_name (i := 4) sc_tell_state.nd rfl (Or.inl rfl)) (pgs_cons (pg_name (i := 6) sc_tell_state.nd rfl (Or.inl rfl)) pgs_nil)))) (fun _ _ _ _ _ => pts_nil) (fun _ _ _ _ _ => (pe_call (ok_show_thing g) (hr.mono (by decide)) rfl (m_show_thing g) (F_show_thing g).kp (b_show_thing g) .nil pass0 (pa_cons (pv 4) (pa_cons (pv 6) pa_nil)))))) (pss_one (ps_ret (pe_call (ok_show_list g) (hr.mono (by decide)) rfl (m_show_list g) (F_show_list g).kp (b_show_list g) .nil pass0 (pa_cons (pe_op op_cat (pv 2) (pv 3)) pa_nil)))))), ?_⟩)
  · obtain ⟨L, s, ar, rfl, _⟩ := h; rfl
  · obtain ⟨L, s, ar, rfl, hh, op, wf, k⟩ := h
    obtain ⟨dx, hH⟩ := hh.h
    have fs := wf.few.fs
    have ft := wf.few.ft
    let fS : Bytes × Nat → Words := fun x => [x.1, decimal x.2]
    have ed : (does s .state).2 = listed (s.sensors.map fS ++ s.things.map thingText) := rfl
    rw [ed] at k
    refine ⟨L.ds, _, op.ds, trivial, fun od => ?_⟩
    refine ⟨_, rfl, L.h, _, dx, _, _, rfl, (upd_ne (ne_of hH op.ds (by intro z; cases z))).trans hH, cl_House g, na_House_sensors g, lk_House_sensors .., ?_⟩
    refine ⟨L.ds, od, _, rfl, upd_same, fun D nD => ?_⟩
    have nDs : L.ds ≠ D := fun z => by rw [← z, upd_same] at nD; cases nD
    have nD0 : H D = none := by rw [upd_ne nDs.symm] at nD; exact nD
    refine lc_it walk_itS (fun i H' => Fr (At L.ds) H H' ∧ H' L.ds = some (.frz od (.dK (sensK s.sensors))) ∧ H' D = some (.lst ((((s.sensors.take i).map fS).map told).map vS)))
      ⟨Fr.at1.trans (Fr.new nD), (upd_ne nDs).trans upd_same, upd_same⟩ (fun i H' _ z => z.2.1) ?_ ?_
    · rintro i y H' H2 hi ⟨f, hlk, hD⟩ ⟨T, x, hx, rfl, hT, rfl⟩
      have sT := same_new (o := HO.tup [vS x.1, .int (x.2 : Nat)]) hT
      have et : s.sensors.take (i + 1) = s.sensors.take i ++ [x] := by rw [List.take_succ, hx]; rfl
      have hn := isName_len (wf.names.sn x (List.mem_of_getElem? hx))
      have hv := wf.sv x (List.mem_of_getElem? hx)
      have nDT : D ≠ T := ne_of_none hD hT
      refine ⟨T, _, rfl, SqT.of upd_same, rfl, _, _, rfl, _, _, rfl, rfl, rfl, ?_⟩
      dsimp only [tYes]
      refine iteT ⟨_, rfl, _, rfl, x.1, x.2, rfl, by omega, by omega, _, (upd_ne nDT).trans hD, by rw [List.length_map, List.length_map, List.length_map, List.length_take, sizeLine_eq]; omega, ?_, ?_, ?_⟩
      · intro b u e n
        have e1 := f b u e n
        rw [upd_ne (ne_of_none e nD0), upd_ne (ne_of_none e1 hT)]; exact e1
      · rw [upd_ne nDs, upd_ne (ne_of_none hlk hT)]; exact hlk
      · rw [upd_same, et, List.map_append, List.map_append, List.map_append]; rfl
    · rintro H1 ⟨f, hlk, hD⟩
      refine ⟨hlk, ?_⟩
      rw [List.take_length] at hD
      have sm : Same H (upd H1 L.ds (.dK (sensK s.sensors))) := f.unlock op.ds
      have hD1 : upd H1 L.ds (.dK (sensK s.sensors)) D = some (.lst (((s.sensors.map fS).map told).map vS)) := (upd_ne nDs.symm).trans hD
      generalize upd H1 L.ds (.dK (sensK s.sensors)) = H2 at sm hD1
      have hdt2 := sm _ _ op.dt
      refine ⟨L.dt, _, hdt2, trivial, fun od2 => ?_⟩
      refine ⟨_, rfl, L.h, _, dx, _, _, rfl, (upd_ne (ne_of hH op.dt (by intro z; cases z))).trans (sm _ _ hH), cl_House g, na_House_things g, lk_House_things .., ?_⟩
      refine ⟨L.dt, od2, _, rfl, upd_same, fun D2 nD2 => ?_⟩
      have nDt : L.dt ≠ D2 := fun z => by rw [← z, upd_same] at nD2; cases nD2
      have nD20 : H2 D2 = none := by rw [upd_ne nDt.symm] at nD2; exact nD2
      refine lc_it (walk_itT hh.lt) (fun i H' => Fr (At L.dt) H2 H' ∧ H' L.dt = some (.frz od2 (.dK (thingsK L.ts s.things))) ∧ H' D2 = some (.lst ((((s.things.take i).map thingText).map told).map vS)))
        ⟨Fr.at1.trans (Fr.new nD2), (upd_ne nDt).trans upd_same, upd_same⟩ (fun i H' _ z => z.2.1) ?_ ?_
      · rintro i y H' H3 hi ⟨f3, hlk3, hD3⟩ ⟨T, l, x, hl, hx, rfl, hT, rfl⟩
        obtain ⟨x', hx', tx⟩ := paired_get hh.ts hl
        rw [hx] at hx'; cases hx'
        obtain ⟨_, _, _, _, _, _, _, _, _, e4⟩ := tx.there
        have e42 := sm _ _ e4
        have qf : Quiet H2 H' := Quiet.at1 f3 hdt2 soft_dK
        have tx2 := (tx.same sm).quiet qf (f3.eq e42 (ne_of e42 hdt2 (by intro z; cases z)))
        have sT := same_new (o := HO.tup [vS x.name, .ref l.a]) hT
        have et : s.things.take (i + 1) = s.things.take i ++ [x] := by rw [List.take_succ, hx]; rfl
        have mem := List.mem_of_getElem? hx
        refine ⟨T, _, rfl, SqT.of upd_same, rfl, _, _, rfl, _, _, rfl, rfl, rfl, ?_⟩
        dsimp only [tYes]
        refine iteT ⟨_, rfl, _, rfl, x.name, l, x, rfl, rfl, tx2.same sT, wf.to x mem, wf.names.tn x mem, fun H5 s5 => ?_⟩
        have hD5 := s5 _ _ (sT _ _ hD3)
        refine ⟨_, hD5, by rw [List.length_map, List.length_map, List.length_map, List.length_take, sizeLine_eq]; omega, ?_, ?_, ?_⟩
        · intro b u e n
          rw [upd_ne (ne_of_none e nD20)]; exact s5 _ _ (sT _ _ (f3 b u e n))
        · rw [upd_ne nDt]; exact s5 _ _ (sT _ _ hlk3)
        · rw [upd_same, et, List.map_append, List.map_append, List.map_append]; rfl
      · rintro H3 ⟨f3, hlk3, hD3⟩
        refine ⟨hlk3, ?_⟩
        rw [List.take_length] at hD3
        have sm3 : Same H2 (upd H3 L.dt (.dK (thingsK L.ts s.things))) := f3.unlock hdt2
        have hD4 : upd H3 L.dt (.dK (thingsK L.ts s.things)) D2 = some (.lst (((s.things.map thingText).map told).map vS)) := (upd_ne nDt.symm).trans hD3
        generalize upd H3 L.dt (.dK (thingsK L.ts s.things)) = H4 at sm3 hD4
        refine ⟨_, rfl, _, rfl, D, D2, _, _, rfl, rfl, sm3 _ _ hD1, hD4, by rw [List.length_map, List.length_map, List.length_map, List.length_map, List.length_map, List.length_map, sizeLine_eq]; omega, fun p np => ?_⟩
        have sp := same_new (o := HO.lst (((s.sensors.map fS).map told).map vS ++ ((s.things.map thingText).map told).map vS)) np
        refine ⟨p, (s.sensors.map fS ++ s.things.map thingText).map told, rfl, ?_, ?_, fun H5 s5 => ?_⟩
        · rw [upd_same, List.map_append, List.map_append]
        · rw [List.map_append, wlen_append]
          have h1 := wlen_map_le (f := fS) (l := s.sensors) (n := 20) fun x hx => by
            have hn := isName_len (wf.names.sn x hx)
            have hv := wf.sv x hx
            have := dec_len (n := x.2) (k := 3) (by decide) (by omega)
            show wlen [x.1, decimal x.2] ≤ 20
            rw [wlen_cons, wlen_cons, wlen_nil]; omega
          have h2 := wlen_map_le (f := thingText) (l := s.things) (n := 60) fun x hx => thingText_wlen (wf.to x hx) (wf.names.tn x hx)
          omega
        · rw [← listed_eq]
          exact k _ (sm.trans (sm3.trans (sp.trans s5)))
def sp_tell_past (K : PySem.W.Frag) : Sp := fun vs H Q _ => ∃ (L : Lay) (s : House) (pss : List (List Nat)) (ar : Addr) (n : Bytes) (t : Nat), vs = [.ref L.h, .ref ar] ∧ H ar = some (.lst [vS n, .int (t : Nat)]) ∧ Live K H L s pss ∧ s.clock ≤ 99999 ∧ Q (vS (does s (.was n t)).2) H
theorem sc_tell_past : FnScope ["house", "arguments", "thing", "minute"] ["house", "arguments"] (defScope s_tell_past) := ⟨rfl, rfl, rfl, by decide +kernel, rfl, by decide +kernel, by decide +kernel⟩
theorem was_none {s : House} {n : Bytes} {t : Nat} (e : thingOf s n = none) : (does s (.was n t)).2 = no "thing" := by
  show (match thingOf s n with | none => no "thing" | some x => _) = _
  rw [e]
theorem was_some {s : House} {n : Bytes} {t : Nat} {x : Thing} (e : thingOf s n = some x) : (does s (.was n t)).2 = if s.clock < t then no "time" else match wasAt x t with | none => no "time" | some v => decimal v := by
  show (match thingOf s n with | none => no "thing" | some x => _) = _
  rw [e]
  rfl
theorem wasAt_le {x : Thing} {t v : Nat} (h : ∀ p ∈ x.was, p.2 ≤ 999) (e : wasAt x t = some v) : v ≤ 999 := by
  unfold Hr01.wasAt at e
  obtain ⟨p, hp, rfl⟩ := Option.map_eq_some_iff.mp e
  exact h p (List.mem_filter.mp (List.mem_of_getLast? hp)).1
theorem ok_tell_past (g : Good w K mg) : FnOk P w K mg base CX0 1 (He.ga K "tell_past") (fdA K (He.ga K "tell_past")) ["house", "arguments"] (sp_tell_past K) := by
  refine (F_tell_past g).ok sc_tell_past (fun vs H Q E h => ?_) (fun cdv A outer s0 H vs Q E hr h => ⟨_, PSs.nox (pss_cons (ps_if (pt_cmp (pc_dnotin (hu_of hr) (pe_ix ix_list (pv 1) pe_int (fun _ _ => rfl)) (pe_fld (pv 0) rfl))) (pss_one (ps_ret pe_str)) pss_nil) (pss_cons (ps_set (i := 2) sc_tell_past.nd rfl (Or.inl rfl) (pe_dget (hu_of hr) (pe_fld (pv 0) rfl) (pe_ix ix_list (pv 1) pe_int (fun _ _ => rfl)) (fun _ _ => rfl))) (pss_cons (ps_set (i := 3) sc_tell_past.nd rfl (Or.inl rfl) (pe_ix ix_list (pv 1) pe_int (fun _ _ => rfl))) (pss_cons (ps_if (PW.pt (pw_or (pt_cmpR op_gt (pv 3) (pe_fld (pv 0) rfl) (nomark _)) (pw_or1 (pt_cmpR op_lt (pv 3) (pe_fld (pv 2) rfl) (nomark _))))) (pss_one (ps_ret pe_str)) pss_nil) (pss_cons (ps_if (pt_cmpR op_eq (pv 3) (pe_fld (pv 0) rfl) (nomark _)) (pss_one (ps_ret (pe_callTy call_str_int rfl (fr_str g) (by decide +kernel) (pa_cons (pe_fld (pv 2) rfl) pa_nil)))) pss_nil) (pss_one (ps_ret (pe_callTy call_str_int rfl (fr_str g) (by decide +kernel) (pa_cons (pe_ix ix_list (pe_fld (pv 2) rfl) (pe_op op_sub (pv 3) (pe_fld (pv 2) rfl)) (fun _ _ => rfl)) pa_nil))))))))), ?_⟩)
  · obtain ⟨L, s, pss, ar, n, t, rfl, _⟩ := h; rfl
  · obtain ⟨L, s, pss, ar, n, t, rfl, ha, lv, hc, k⟩ := h
    have hh := lv.hat
    obtain ⟨dx, hH⟩ := hh.h
    refine ⟨_, rfl, ar, _, _, _, rfl, rfl, SqL.of ha, atI_nat (j := 0) rfl, ?_⟩
    refine ⟨_, rfl, L.h, _, dx, _, _, rfl, hH, cl_House g, na_House_things g, lk_House_things .., L.dt, _, rfl, dget_t hh n, _, rfl, ?_⟩
    rw [things_some hh lv.wf.names]
    cases e : thingOf s n with
    | none =>
      rw [was_none e] at k
      refine iteT ?_
      rw [no_S "thing" "no thing"]
      exact k
    | some x =>
      rw [was_some e] at k
      obtain ⟨en, i, l, hx, hl, tx, dg⟩ := thing_at hh lv.wf.names e
      obtain ⟨ps, hps, hpa⟩ := paired_get lv.past hl
      have wo := lv.hist.2 i l ps x hl hps hx
      have ox := lv.wf.to x (List.mem_of_getElem? hx)
      obtain ⟨dy, o, hv, q1, q2, q3⟩ := tx
      have len := wo.len
      have ci := ox.is
      refine iteF ⟨_, rfl, L.h, _, dx, _, _, rfl, hH, cl_House g, na_House_things g, lk_House_things .., _, rfl, ar, _, _, _, rfl, rfl, SqL.of ha, atI_nat (j := 0) rfl, L.dt, _, rfl, dg, ?_⟩
      refine ⟨_, rfl, ar, _, _, _, rfl, rfl, SqL.of ha, atI_nat (j := 1) rfl, ?_⟩
      dsimp only [gName, tSeq, tIfS, tNext]
      refine test_or (a := decide (s.clock < t)) (b := decide (t < l.born)) (fun Q' z => ⟨_, rfl, _, rfl, L.h, _, dx, _, _, rfl, hH, cl_House g, na_House_clock g, lk_House_clock .., _, _, rfl, rfl, _, rfl, ?_⟩) (fun Q' z => ⟨_, rfl, _, rfl, l.a, _, dy, _, _, rfl, q1, cl_Thing g, na_Thing_born g, lk_Thing_born .., _, _, rfl, rfl, _, rfl, ?_⟩) ?_
      · rw [show decide (((s.clock : Nat) : Int) < ((t : Nat) : Int)) = decide (s.clock < t) from decide_eq_decide.mpr ⟨fun h => by omega, fun h => by omega⟩]; exact z
      · rw [show decide (((t : Nat) : Int) < ((l.born : Nat) : Int)) = decide (t < l.born) from decide_eq_decide.mpr ⟨fun h => by omega, fun h => by omega⟩]; exact z
      by_cases c1 : s.clock < t
      · rw [if_pos c1] at k
        rw [decide_eq_true c1, Bool.true_or]
        refine iteT ?_
        show Q (.str _) H
        rw [no_S "time" "no time"]
        exact k
      · rw [if_neg c1] at k
        rw [decide_eq_false c1, Bool.false_or]
        by_cases c2 : t < l.born
        · rw [wo.lo t c2] at k
          rw [decide_eq_true c2]
          refine iteT ?_
          show Q (.str _) H
          rw [no_S "time" "no time"]
          exact k
        · rw [decide_eq_false c2]
          refine iteF ⟨_, rfl, _, rfl, L.h, _, dx, _, _, rfl, hH, cl_House g, na_House_clock g, lk_House_clock .., rfl, _, rfl, ?_⟩
          by_cases c3 : t = s.clock
          · have e3 : decide (V.int ((t : Nat) : Int) = V.int ((s.clock : Nat) : Int)) = true := decide_eq_true (by rw [c3])
            rw [e3]
            rw [wo.hi t (by omega)] at k
            refine iteT ⟨_, rfl, l.a, _, dy, _, _, rfl, q1, cl_Thing g, na_Thing_value g, lk_Thing_value .., _, rfl, log_small (by omega), ?_⟩
            rw [dec_S]
            exact k
          · have e3 : decide (V.int ((t : Nat) : Int) = V.int ((s.clock : Nat) : Int)) = false := decide_eq_false (by intro z; injection z with z; exact c3 (by exact_mod_cast z))
            rw [e3]
            have hj : t - l.born < ps.length := by omega
            have hm := wo.mid (t - l.born) hj
            rw [show l.born + (t - l.born) = t by omega] at hm
            obtain ⟨v, hv1⟩ : ∃ v, ps[t - l.born]? = some v := ⟨_, List.getElem?_eq_getElem hj⟩
            have vl : v ≤ 999 := wasAt_le ox.was (hm.trans hv1)
            rw [hm, hv1] at k
            have ei : ((t : Nat) : Int) - ((l.born : Nat) : Int) = ((t - l.born : Nat) : Int) := by omega
            refine iteF ⟨_, rfl, l.a, _, dy, _, _, rfl, q1, cl_Thing g, na_Thing_past g, lk_Thing_past .., ?_⟩
            refine ⟨_, rfl, _, rfl, l.a, _, dy, _, _, rfl, q1, cl_Thing g, na_Thing_born g, lk_Thing_born .., _, _, rfl, rfl, ?_⟩
            refine ⟨l.pa, _, ((t - l.born : Nat) : Int), .int (v : Nat), rfl, congrArg V.int ei, SqL.of hpa, atI_nat (by rw [List.getElem?_map, hv1]; rfl), _, rfl, log_small (by omega), ?_⟩
            rw [dec_S]
            exact k
end
end Hw
end

/-! ## part V2 -/
section
set_option Elab.async false
set_option linter.all false
set_option maxRecDepth 100000
set_option maxHeartbeats 2000000
namespace Hw
open PySem PySem.Spec PyProof.Rows L2
open Hr01 (Bytes Words Term Sum Cond ascii isName num? term? digit small sum? parted Cmd Rule cmd? Thing House By byText thingsIn thingsOf valueOf termValue sumValue isSensor thingOf ruleOf leaves joined decimal told listed termText sumText condText wanted clamped looked become wasAt minute minutes taken withThing setSensor does no hangs ringed look restFrom thingText ruleText leafText over)
theorem ruleText_flat (r : Rule) : ruleText r = [[r.name], [decimal r.rank], [ascii "after"], [decimal r.after], [ascii "if"], condText r.cond 0, [ascii "then"], [r.thing], [ascii "is"], sumText r.value].flatten := by
  unfold Hr01.ruleText
  simp
theorem ruleText_join {r : Rule} (ok : ROk r) : told (ruleText r) = joined 32 [r.name, decimal r.rank, ascii "after", decimal r.after, ascii "if", joined 32 (condText r.cond 0), ascii "then", r.thing, ascii "is", joined 32 (sumText r.value)] := by
  rw [ruleText_flat]
  unfold Hr01.told
  rw [← joined_flat]
  · rfl
  · intro x hx
    simp only [List.mem_cons, List.not_mem_nil, or_false] at hx
    rcases hx with rfl | rfl | rfl | rfl | rfl | rfl | rfl | rfl | rfl | rfl
    all_goals first | exact List.cons_ne_nil _ _ | exact condText_ne _ _ ok.cond | exact sumText_ne ok.value.ne
theorem rule_lens {r : Rule} (ok : ROk r) : r.name.length ≤ 8 ∧ (decimal r.rank).length ≤ 2 ∧ (decimal r.after).length ≤ 2 ∧ (decimal r.held).length ≤ 2 ∧ r.thing.length ≤ 8 ∧ wlen (condText r.cond 0) ≤ 200000 ∧ wlen (sumText r.value) ≤ 44 := by
  have h1 := isName_len ok.name
  have h2 := isName_len ok.thing
  have h3 := dec_len (n := r.rank) (k := 2) (by decide) (by have := ok.rank; omega)
  have h4 := dec_len (n := r.after) (k := 2) (by decide) (by have := ok.after; omega)
  have h7 := dec_len (n := r.held) (k := 2) (by decide) (by have := ok.held; omega)
  have h5 := condText_len r.cond 0 ok.cond
  have h6 := sumText_len ok.value
  have := ok.size
  exact ⟨h1, h3, h4, h7, h2, by omega, h6⟩
theorem ruleText_wlen {r : Rule} (ok : ROk r) : wlen (ruleText r) ≤ 200200 := by
  obtain ⟨h1, h2, h3, _, h4, h5, h6⟩ := rule_lens ok
  unfold Hr01.ruleText
  rw [wlen_append, wlen_append, wlen_append, wlen_cons, wlen_cons, wlen_cons, wlen_cons, wlen_cons, wlen_nil, wlen_cons, wlen_cons, wlen_cons, wlen_nil, show (ascii "after").length = 5 from rfl, show (ascii "if").length = 2 from rfl, show (ascii "then").length = 4 from rfl, show (ascii "is").length = 2 from rfl]
  omega
theorem ruleWords_wlen {r : Rule} (ok : ROk r) : wlen [r.name, decimal r.rank, ascii "after", decimal r.after, ascii "if", joined 32 (condText r.cond 0), ascii "then", r.thing, ascii "is", joined 32 (sumText r.value)] ≤ 200200 := by
  obtain ⟨h1, h2, h3, _, h4, h5, h6⟩ := rule_lens ok
  have h7 := joined_wlen 32 (condText r.cond 0)
  have h8 := joined_wlen 32 (sumText r.value)
  simp only [wlen_cons, wlen_nil, show (ascii "after").length = 5 from rfl, show (ascii "if").length = 2 from rfl, show (ascii "then").length = 4 from rfl, show (ascii "is").length = 2 from rfl]
  omega
theorem leaf_told (s : House) {c : Cond} (ok : CondOk c) : told (leafText s c) = joined 32 (condText c 0) ++ 32 :: (if Hr01.holds s c then ascii "yes" else ascii "no") := by
  unfold Hr01.leafText Hr01.told
  rw [joined_append (condText_ne c 0 ok) (List.cons_ne_nil _ _)]
  rfl
theorem leaf_wlen (s : House) {c : Cond} (ok : CondOk c) (o : Bool) (x y : Sum) (e : c = leafC o x y) : wlen (leafText s c) ≤ 210 := by
  unfold Hr01.leafText
  have h := condText_len c 0 ok
  have h1 : csize c = 1 := by rw [e]; cases o <;> rfl
  have h2 : wlen [if Hr01.holds s c then ascii "yes" else ascii "no"] ≤ 4 := by split <;> decide
  rw [wlen_append]; omega
theorem leaves_leafC : ∀ (c : Cond), ∀ z ∈ leaves c, ∃ o x y, z = leafC o x y := by
  intro c
  induction c with
  | less a b => intro z hz; simp [leaves] at hz; exact ⟨true, a, b, hz⟩
  | same a b => intro z hz; simp [leaves] at hz; exact ⟨false, a, b, hz⟩
  | not c ih => exact ih
  | both a b iha ihb => intro z hz; rcases List.mem_append.mp hz with hz | hz; exact iha z hz; exact ihb z hz
  | either a b iha ihb => intro z hz; rcases List.mem_append.mp hz with hz | hz; exact iha z hz; exact ihb z hz
theorem leaves_wlen (s : House) {c : Cond} (ok : CondOk c) (sz : csize c ≤ 1000) : wlen (((leaves c).map (leafText s)).map told) ≤ 211000 := by
  have := wlen_map_le (f := leafText s) (l := leaves c) (n := 210) fun x hx => by
    obtain ⟨o, a, b, e⟩ := leaves_leafC c x hx
    exact leaf_wlen s (leaves_ok c ok x hx) o a b e
  have := leaves_le c
  omega
theorem text_gone (n : Bytes) : (S [114, 117, 108, 101, 32] ++ S n) ++ S [32, 103, 111, 110, 101] = S (told [ascii "rule", n, ascii "gone"]) := by
  rw [S_append, S_append]
  have e : told [ascii "rule", n, ascii "gone"] = ascii "rule" ++ 32 :: (n ++ 32 :: ascii "gone") := rfl
  have e1 : ascii "rule" = [114, 117, 108, 101] := by decide
  have e2 : ascii "gone" = [103, 111, 110, 101] := by decide
  rw [e, e1, e2]; simp
section
variable {P : Program} {w : World} {K : PySem.W.Frag} {mg : Str → Option Value} {base : Heap}
def sp_show_rule (K : PySem.W.Frag) : Sp := fun vs H Q _ => ∃ (a : Addr) (r : Rule), vs = [vS r.name, .ref a] ∧ RuleAt K H a r ∧ ROk r ∧ ∀ H', Same H H' → Q (vS (told (ruleText r))) H'
theorem sc_show_rule : FnScope ["name", "rule", "head", "body"] ["name", "rule"] (defScope s_show_rule) := ⟨rfl, rfl, rfl, by decide +kernel, rfl, by decide +kernel, by decide +kernel⟩
theorem ok_show_rule (g : Good w K mg) : FnOk P w K mg base CX0 64 (He.ga K "show_rule") (fdA K (He.ga K "show_rule")) ["name", "rule"] (sp_show_rule K) := by
  refine (F_show_rule g).ok sc_show_rule (fun vs H Q E h => ?_) (fun cdv A outer s0 H vs Q E hr h => ⟨_, PSs.nox (pss_cons (ps_set (i := 2) sc_show_rule.nd rfl (Or.inl rfl) (pe_lst (pa_cons (pv 0) (pa_cons (pe_callTy call_str_int rfl (fr_str g) (by decide +kernel) (pa_cons (pe_fld (pv 1) rfl) pa_nil)) (pa_cons pe_str (pa_cons (pe_callTy call_str_int rfl (fr_str g) (by decide +kernel) (pa_cons (pe_fld (pv 1) rfl) pa_nil)) pa_nil)))))) (pss_cons (ps_set (i := 3) sc_show_rule.nd rfl (Or.inl rfl) (pe_lst (pa_cons pe_str (pa_cons (pe_call (ok_show_condition g) (hr.mono (by decide)) rfl (m_show_condition g) (F_show_condition g).kp (b_show_condition g) .nil pass0 (pa_cons (pe_fld (pv 1) rfl) pa_nil)) (pa_cons pe_str (pa_cons (pe_fld (pv 1) rfl) (pa_cons pe_str (pa_cons (pe_call (ok_show_sum g) (hr.mono (by decide)) rfl (m_show_sum g) (F_show_sum g).kp (b_show_sum g) .nil pass0 (pa_cons (pe_fld (pv 1) rfl) pa_nil)) pa_nil)))))))) (pss_one (ps_ret (pe_join pe_str (pe_op op_cat (pv 2) (pv 3))))))), ?_⟩)
  · obtain ⟨a, r, rfl, _⟩ := h; rfl
  · obtain ⟨a, r, rfl, ⟨dx, vc, va, h1, h2, h3⟩, ok, k⟩ := h
    have es : ((" " : String) : Str) = S [32] := S_of " "
    have ea : (("after" : String) : Str) = S (ascii "after") := S_of "after"
    have ei : (("if" : String) : Str) = S (ascii "if") := S_of "if"
    have et : (("then" : String) : Str) = S (ascii "then") := S_of "then"
    have eI : (("is" : String) : Str) = S (ascii "is") := S_of "is"
    have crk := ok.rank
    have caf := ok.after
    refine ⟨_, rfl, _, rfl, a, _, dx, _, _, rfl, h1, cl_Rule g, na_Rule_rank g, lk_Rule_rank .., _, rfl, log_small (by omega), ?_⟩
    refine ⟨_, rfl, a, _, dx, _, _, rfl, h1, cl_Rule g, na_Rule_delay g, lk_Rule_delay .., _, rfl, log_small (by omega), by show 4 ≤ sizeLine; decide, fun p np => ?_⟩
    rw [dec_S, dec_S] at *
    have s1 := same_new (o := HO.lst [vS r.name, V.str (S (decimal r.rank)), V.str (("after" : String) : Str), V.str (S (decimal r.after))]) np
    refine ⟨_, rfl, a, _, dx, _, _, rfl, s1 _ _ h1, cl_Rule g, na_Rule_condition g, lk_Rule_condition .., vc, r.cond, rfl, h2.keep (Tups.of_same s1), ok.cond, ok.size, fun H2 s2 => ?_⟩
    have sA := s1.trans s2
    refine ⟨_, rfl, a, _, dx, _, _, rfl, sA _ _ h1, cl_Rule g, na_Rule_thing g, lk_Rule_thing .., ?_⟩
    refine ⟨_, rfl, a, _, dx, _, _, rfl, sA _ _ h1, cl_Rule g, na_Rule_amount g, lk_Rule_amount .., va, r.value, rfl, h3.keep (Tups.of_same sA), ok.value, fun H3 s3 => ?_⟩
    refine ⟨by show 6 ≤ sizeLine; decide, fun q nq => ?_⟩
    have s4 := same_new (o := HO.lst [V.str (("if" : String) : Str), vS (joined 32 (condText r.cond 0)), V.str (("then" : String) : Str), vS r.thing, V.str (("is" : String) : Str), vS (joined 32 (sumText r.value))]) nq
    have hp4 := s4 _ _ (s3 _ _ (s2 _ _ (upd_same (H := H) (a := p))))
    refine ⟨⟨_, rfl⟩, _, rfl, _, rfl, p, q, _, _, rfl, rfl, hp4, upd_same, by rw [sizeLine_eq]; simp, fun z nz => ?_⟩
    have s5 := same_new (o := HO.lst ([vS r.name, V.str (S (decimal r.rank)), V.str (("after" : String) : Str), V.str (S (decimal r.after))] ++ [V.str (("if" : String) : Str), vS (joined 32 (condText r.cond 0)), V.str (("then" : String) : Str), vS r.thing, V.str (("is" : String) : Str), vS (joined 32 (sumText r.value))])) nz
    have hz : upd (upd H3 q (.lst [V.str (("if" : String) : Str), vS (joined 32 (condText r.cond 0)), V.str (("then" : String) : Str), vS r.thing, V.str (("is" : String) : Str), vS (joined 32 (sumText r.value))])) z (.lst ([vS r.name, V.str (S (decimal r.rank)), V.str (("after" : String) : Str), V.str (S (decimal r.after))] ++ [V.str (("if" : String) : Str), vS (joined 32 (condText r.cond 0)), V.str (("then" : String) : Str), vS r.thing, V.str (("is" : String) : Str), vS (joined 32 (sumText r.value))])) z = some (.lst (([r.name, decimal r.rank, ascii "after", decimal r.after, ascii "if", joined 32 (condText r.cond 0), ascii "then", r.thing, ascii "is", joined 32 (sumText r.value)].map S).map V.str)) := by
      rw [upd_same, ea, ei, et, eI]; rfl
    refine ⟨_, z, _, rfl, rfl, Or.inl (SqL.of hz), join_fits es (ruleWords_wlen ok) (by decide), ?_⟩
    rw [es, join_sep rfl, ← ruleText_join ok]
    exact k _ ((sA.trans s3).trans (s4.trans s5))
def sp_tell_rules (K : PySem.W.Frag) : Sp := fun vs H Q _ => ∃ (L : Lay) (s : House) (ar : Addr), vs = [.ref L.h, .ref ar] ∧ HouseAt K H L s ∧ Opn H L s ∧ WF s ∧ ∀ H', Same H H' → Q (vS (does s .list).2) H'
theorem sc_tell_rules : FnScope ["house", "arguments", "name", "rule"] ["house", "arguments"] (defScope s_tell_rules) := ⟨rfl, rfl, rfl, by decide +kernel, rfl, by decide +kernel, by decide +kernel⟩
theorem ok_tell_rules (g : Good w K mg) : FnOk P w K mg base CX0 65 (He.ga K "tell_rules") (fdA K (He.ga K "tell_rules")) ["house", "arguments"] (sp_tell_rules K) := by
  refine (F_tell_rules g).ok sc_tell_rules (fun vs H Q E h => ?_) (fun cdv A outer s0 H vs Q E hr h => ⟨_, PSs.nox (pss_one (ps_ret (pe_call (ok_show_list g) (hr.mono (by decide)) rfl (m_show_list g) (F_show_list g).kp (b_show_list g) .nil pass0 (pa_cons (pe_lock (pe_lc (own := [("name", 2), ("rule", 3)]) rfl sc_tell_rules.nd (pi_items (pe_fld (pv 0) rfl)) (blkOk_by (own := [("name", 2), ("rule", 3)]) (N := ["house", "arguments", "name", "rule"]) (sc := defScope s_tell_rules) (by decide +kernel)) (fun _ _ _ _ _ => (pg_tupK (K := K) (n := 2) rfl rfl (pgs_cons (pg_name (i := 2) sc_tell_rules.nd rfl (Or.inl rfl)) (pgs_cons (pg_name (i := 3) sc_tell_rules.nd rfl (Or.inl rfl)) pgs_nil)))) (fun _ _ _ _ _ => pts_nil) (fun _ _ _ _ _ => (pe_call (ok_show_rule g) (hr.mono (by decide)) rfl (m_show_rule g) (F_show_rule g).kp (b_show_rule g) .nil pass0 (pa_cons (pv 2) (pa_cons (pv 3) pa_nil)))))) pa_nil)))), ?_⟩)
  · obtain ⟨L, s, ar, rfl, _⟩ := h; rfl
  · obtain ⟨L, s, ar, rfl, hh, op, wf, k⟩ := h
    obtain ⟨dx, hH⟩ := hh.h
    have fr := wf.few.fr
    have ed : (does s .list).2 = listed (s.rules.map ruleText) := rfl
    rw [ed] at k
    refine ⟨L.dr, _, op.dr, trivial, fun od => ?_⟩
    refine ⟨_, rfl, L.h, _, dx, _, _, rfl, (upd_ne (ne_of hH op.dr (by intro z; cases z))).trans hH, cl_House g, na_House_rules g, lk_House_rules .., ?_⟩
    refine ⟨L.dr, od, _, rfl, upd_same, fun D nD => ?_⟩
    have nDr : L.dr ≠ D := fun z => by rw [← z, upd_same] at nD; cases nD
    have nD0 : H D = none := by rw [upd_ne nDr.symm] at nD; exact nD
    refine lc_it (walk_itR hh.lr) (fun i H' => Fr (At L.dr) H H' ∧ H' L.dr = some (.frz od (.dK (rulesK L.rs s.rules))) ∧ H' D = some (.lst ((((s.rules.take i).map ruleText).map told).map vS)))
      ⟨Fr.at1.trans (Fr.new nD), (upd_ne nDr).trans upd_same, upd_same⟩ (fun i H' _ z => z.2.1) ?_ ?_
    · rintro i y H' H3 hi ⟨f3, hlk3, hD3⟩ ⟨T, l, x, hl, hx, rfl, hT, rfl⟩
      obtain ⟨x', hx', tx⟩ := paired_get hh.rs hl
      rw [hx] at hx'; cases hx'
      obtain ⟨_, _, _, _, _, _, _, _, e4⟩ := tx.there
      have qf : Quiet H H' := Quiet.at1 f3 op.dr soft_dK
      have tx2 := tx.quiet qf (f3.eq e4 (ne_of e4 op.dr (by intro z; cases z)))
      have sT := same_new (o := HO.tup [vS x.name, .ref l]) hT
      have et : s.rules.take (i + 1) = s.rules.take i ++ [x] := by rw [List.take_succ, hx]; rfl
      have mem := List.mem_of_getElem? hx
      refine ⟨T, _, rfl, SqT.of upd_same, rfl, _, _, rfl, _, _, rfl, rfl, rfl, ?_⟩
      dsimp only [tYes]
      refine iteT ⟨_, rfl, _, rfl, l, x, rfl, tx2.same sT, wf.ro x mem, fun H5 s5 => ?_⟩
      have hD5 := s5 _ _ (sT _ _ hD3)
      refine ⟨_, hD5, by rw [List.length_map, List.length_map, List.length_map, List.length_take, sizeLine_eq]; omega, ?_, ?_, ?_⟩
      · intro b u e n
        rw [upd_ne (ne_of_none e nD0)]; exact s5 _ _ (sT _ _ (f3 b u e n))
      · rw [upd_ne nDr]; exact s5 _ _ (sT _ _ hlk3)
      · rw [upd_same, et, List.map_append, List.map_append, List.map_append]; rfl
    · rintro H3 ⟨f3, hlk3, hD3⟩
      refine ⟨hlk3, ?_⟩
      rw [List.take_length] at hD3
      have sm3 : Same H (upd H3 L.dr (.dK (rulesK L.rs s.rules))) := f3.unlock op.dr
      have hD4 : upd H3 L.dr (.dK (rulesK L.rs s.rules)) D = some (.lst (((s.rules.map ruleText).map told).map vS)) := (upd_ne nDr.symm).trans hD3
      refine ⟨D, (s.rules.map ruleText).map told, rfl, hD4, ?_, fun H5 s5 => ?_⟩
      · have := wlen_map_le (f := ruleText) (l := s.rules) (n := 200200) fun x hx => ruleText_wlen (wf.ro x hx)
        omega
      · rw [← listed_eq]
        exact k _ (sm3.trans s5)
def sp_show_comparisons (K : PySem.W.Frag) : Sp := fun vs H Q _ => ∃ (L : Lay) (s : House) (v : V) (c : Cond), vs = [.ref L.h, v] ∧ HouseAt K H L s ∧ H L.dt = some (.dK (thingsK L.ts s.things)) ∧ WF s ∧ CondAt H 20 v c ∧ CondOk c ∧ csize c ≤ 1000 ∧ KnowsC s c ∧
  ∀ H' p, Same H H' → H p = none → H' p = some (.lst ((((leaves c).map (leafText s)).map told).map vS)) → Q (.ref p) H'
theorem sc_show_comparisons : FnScope ["house", "condition", "readings", "entries", "comparison", "verdict"] ["house", "condition"] (defScope s_show_comparisons) := ⟨rfl, rfl, rfl, by decide +kernel, rfl, by decide +kernel, by decide +kernel⟩
theorem ok_show_comparisons (g : Good w K mg) : FnOk P w K mg base CX0 22 (He.ga K "show_comparisons") (fdA K (He.ga K "show_comparisons")) ["house", "condition"] (sp_show_comparisons K) := by
  refine (F_show_comparisons g).ok sc_show_comparisons (fun vs H Q E h => ?_) (fun cdv A outer s0 H vs Q E hr h => ⟨_, PSs.nox (pss_cons (ps_set (i := 2) sc_show_comparisons.nd rfl (Or.inl rfl) (pe_call (ok_readings_of g) (hr.mono (by decide)) rfl (m_readings_of g) (F_readings_of g).kp (b_readings_of g) .nil pass0 (pa_cons (pv 0) pa_nil))) (pss_cons (ps_set (i := 3) sc_show_comparisons.nd rfl (Or.inl rfl) (pe_lst pa_nil)) (pss_cons (ps_for PassesOwn.never rfl (pi_list (pe_call (ok_comparisons g) (hr.mono (by decide)) rfl (m_comparisons g) (F_comparisons g).kp (b_comparisons g) .nil pass0 (pa_cons (pv 1) pa_nil))) (pg_name (i := 4) sc_show_comparisons.nd rfl (Or.inl rfl)) (pss_cons (ps_set (i := 5) sc_show_comparisons.nd rfl (Or.inl rfl) (pe_ifExp (pt_val (pe_call (ok_compares g) (hr.mono (by decide)) rfl (m_compares g) (F_compares g).kp (b_compares g) .nil pass0 (pa_cons (pv 4) (pa_cons (pv 2) pa_nil)))) pe_str pe_str)) (pss_one (ps_expr (pe_bm PySem.F.plainAttrs_list PySem.F.slot_list_append PySem.F.type_list_append mt_append (pv 3) (pa_cons (pe_op op_add_str (pe_op op_add_str (pe_call (ok_show_comparison g) (hr.mono (by decide)) rfl (m_show_comparison g) (F_show_comparison g).kp (b_show_comparison g) .nil pass0 (pa_cons (pv 4) pa_nil)) pe_str) (pv 5)) pa_nil)))))) (pss_one (ps_ret (pv 3)))))), ?_⟩)
  · obtain ⟨L, s, v, c, rfl, _⟩ := h; rfl
  · obtain ⟨L, s, v, c, rfl, hh, hdt, wf, hc, ok, sz, kn, k⟩ := h
    have es : ((" " : String) : Str) = S [32] := S_of " "
    have ey : (("yes" : String) : Str) = S (ascii "yes") := S_of "yes"
    have eno : (("no" : String) : Str) = S (ascii "no") := S_of "no"
    have lv := leaves_le c
    refine ⟨_, rfl, L, s, rfl, hh, hdt, wf.few, fun H1 ad s1 nad had => ?_⟩
    refine ⟨by show 0 ≤ sizeLine; decide, fun D nD => ?_⟩
    have s2 := same_new (o := HO.lst []) nD
    have sA := s1.trans s2
    have nD0 : H D = none := s1.free nD
    refine ⟨_, rfl, v, c, rfl, hc.keep (Tups.of_same sA), sz, fun H3 p us s3 np hp hpu => ?_⟩
    have hD3 := s3 _ _ (upd_same (H := H1) (a := D) (o := HO.lst []))
    have npD : p ≠ D := fun z => by rw [z, upd_same] at np; cases np
    have had3 := s3 _ _ (s2 _ _ had)
    have nadD : ad ≠ D := ne_of_none had nD
    refine ⟨p, rfl, ⟨_, SqL.of hp⟩, ?_⟩
    refine for_list (K := K) (a := p) (xs := us) (fun i σ H' => Same H H' ∧ Tups H3 H' ∧ H' ad = some (.dK (rdg s)) ∧ H' p = some (.lst us) ∧ H' D = some (.lst (((((leaves c).take i).map (leafText s)).map told).map vS)) ∧ ∃ z1 z2, σ = [some (.ref L.h), some v, some (.ref ad), some (.ref D), z1, z2])
      ⟨sA.trans s3, fun _ _ e => e, had3, hp, hD3, none, none, rfl⟩ (fun i σ H' _ z => SqL.of z.2.2.2.1) ?_ ?_
    · rintro i x σ H' hi ⟨sm, tu, had', hp', hD', z1, z2, rfl⟩
      obtain ⟨d, hdi, o, lx, ly, hlf, rfl⟩ := paired_get hpu hi
      have hm := List.mem_of_getElem? hdi
      have okd := leaves_ok c ok _ hm
      have okk := leaf_ok okd
      have et : (leaves c).take (i + 1) = (leaves c).take i ++ [leafC o lx ly] := by rw [List.take_succ, hdi]; rfl
      have knd : KnowsC s (leafC o lx ly) := fun y hy => kn y (by rw [things_leaves]; exact List.mem_flatMap.mpr ⟨_, hm, hy⟩)
      have hlf' := hlf.same tu
      refine ⟨_, rfl, _, rfl, x, ad, s, o, lx, ly, rfl, hlf', had', wf.names, knd, _, rfl, ?_⟩
      have wt := leaf_told s okd
      have tl := Nat.le_trans (joined_wlen 32 (condText (leafC o lx ly) 0)) (condText_len _ 0 okd)
      have cz : csize (leafC o lx ly) = 1 := by cases o <;> rfl
      rw [cz] at tl
      have l1 : ((leaves c).take i).length ≤ 1000 := by rw [List.length_take]; omega
      cases hb : Hr01.holds s (leafC o lx ly) with
      | true =>
        rw [hb, if_pos rfl] at wt
        refine iteT ?_
        refine ⟨_, rfl, Or.inl ⟨rfl, _, SqL.of hD'⟩, _, rfl, x, o, lx, ly, rfl, hlf', okk.1, okk.2, fun H4 s4 => ?_⟩
        have hD4 := s4 _ _ hD'
        refine ⟨_, _, rfl, rfl, by rw [es, S_len, S_len, sizeLine_eq]; simp; omega, ?_⟩
        rw [es, S_append]
        refine ⟨_, rfl, _, _, rfl, rfl, by rw [ey, S_len, S_len, List.length_append, sizeLine_eq, show (ascii "yes").length = 3 from rfl]; simp; omega, ?_⟩
        rw [ey, S_append]
        have e9 : joined 32 (condText (leafC o lx ly) 0) ++ [32] ++ ascii "yes" = told (leafText s (leafC o lx ly)) := by rw [wt]; simp
        rw [e9]
        refine ⟨D, _, _, rfl, rfl, hD4, by rw [List.length_map, List.length_map, List.length_map, sizeLine_eq]; omega, ?_, ?_, ?_, ?_, ?_, some x, _, rfl⟩
        · intro b u e
          rw [upd_ne (ne_of_none e nD0)]; exact s4 _ _ (sm _ _ e)
        · intro b xs e
          have e1 := s4 _ _ (tu _ _ e)
          rw [upd_ne (ne_of e1 hD4 (by intro z; cases z))]; exact e1
        · rw [upd_ne nadD]; exact s4 _ _ had'
        · rw [upd_ne npD]; exact s4 _ _ hp'
        · rw [upd_same, et, List.map_append, List.map_append, List.map_append]; rfl
      | false =>
        rw [hb, if_neg Bool.false_ne_true] at wt
        refine iteF ?_
        refine ⟨_, rfl, Or.inl ⟨rfl, _, SqL.of hD'⟩, _, rfl, x, o, lx, ly, rfl, hlf', okk.1, okk.2, fun H4 s4 => ?_⟩
        have hD4 := s4 _ _ hD'
        refine ⟨_, _, rfl, rfl, by rw [es, S_len, S_len, sizeLine_eq]; simp; omega, ?_⟩
        rw [es, S_append]
        refine ⟨_, rfl, _, _, rfl, rfl, by rw [eno, S_len, S_len, List.length_append, sizeLine_eq, show (ascii "no").length = 2 from rfl]; simp; omega, ?_⟩
        rw [eno, S_append]
        have e9 : joined 32 (condText (leafC o lx ly) 0) ++ [32] ++ ascii "no" = told (leafText s (leafC o lx ly)) := by rw [wt]; simp
        rw [e9]
        refine ⟨D, _, _, rfl, rfl, hD4, by rw [List.length_map, List.length_map, List.length_map, sizeLine_eq]; omega, ?_, ?_, ?_, ?_, ?_, some x, _, rfl⟩
        · intro b u e
          rw [upd_ne (ne_of_none e nD0)]; exact s4 _ _ (sm _ _ e)
        · intro b xs e
          have e1 := s4 _ _ (tu _ _ e)
          rw [upd_ne (ne_of e1 hD4 (by intro z; cases z))]; exact e1
        · rw [upd_ne nadD]; exact s4 _ _ had'
        · rw [upd_ne npD]; exact s4 _ _ hp'
        · rw [upd_same, et, List.map_append, List.map_append, List.map_append]; rfl
    · rintro σ H' ⟨sm, tu, had', hp', hD', z1, z2, rfl⟩
      rw [hpu.length, List.take_length] at hD'
      exact ⟨_, rfl, k _ D sm nD0 hD'⟩
end
end Hw
end

/-! ## part V3 -/
section
set_option Elab.async false
set_option linter.all false
set_option maxRecDepth 100000
set_option maxHeartbeats 2000000
namespace Hw
open PySem PySem.Spec PyProof.Rows L2
open Hr01 (Bytes Words Term Sum Cond ascii isName num? term? digit small sum? parted Cmd Rule cmd? Thing House By byText thingsIn thingsOf valueOf termValue sumValue isSensor thingOf ruleOf leaves joined decimal told listed termText sumText condText wanted clamped looked become wasAt minute minutes taken withThing setSensor does no hangs ringed look restFrom thingText ruleText leafText over)
theorem told1 (a : Bytes) : told [a] = a := rfl
section
variable {P : Program} {w : World} {K : PySem.W.Frag} {mg : Str → Option Value} {base : Heap}
def holdText (x : Thing) : Bytes := match x.hold with
  | some h => told [ascii "hold", decimal h.1, decimal h.2.1, decimal h.2.2]
  | none => ascii "hold"
def sp_explain_hold (K : PySem.W.Frag) : Sp := fun vs H Q _ => ∃ (l : TL) (x : Thing), vs = [.ref l.a] ∧ ThingAt K H l x ∧ TOk x ∧ ∀ H', Same H H' → Q (vS (holdText x)) H'
theorem sc_explain_hold : FnScope ["thing"] ["thing"] (defScope s_explain_hold) := ⟨rfl, rfl, rfl, by decide +kernel, rfl, by decide +kernel, by decide +kernel⟩
theorem ok_explain_hold (g : Good w K mg) : FnOk P w K mg base CX0 1 (He.ga K "explain_hold") (fdA K (He.ga K "explain_hold")) ["thing"] (sp_explain_hold K) := by
  refine (F_explain_hold g).ok sc_explain_hold (fun vs H Q E h => ?_) (fun cdv A outer s0 H vs Q E hr h => ⟨_, PSs.nox (pss_cons (ps_if (pt_cmp (pc_isN (pe_fld (pv 0) rfl))) (pss_one (ps_ret pe_str)) pss_nil) (pss_one (ps_ret (pe_join pe_str (pe_lst (pa_cons pe_str (pa_cons (pe_callTy call_str_int rfl (fr_str g) (by decide +kernel) (pa_cons (pe_fld (pe_fld (pv 0) rfl) rfl) pa_nil)) (pa_cons (pe_callTy call_str_int rfl (fr_str g) (by decide +kernel) (pa_cons (pe_fld (pe_fld (pv 0) rfl) rfl) pa_nil)) (pa_cons (pe_callTy call_str_int rfl (fr_str g) (by decide +kernel) (pa_cons (pe_fld (pe_fld (pv 0) rfl) rfl) pa_nil)) pa_nil))))))))), ?_⟩)
  · obtain ⟨l, x, rfl, _⟩ := h; rfl
  · obtain ⟨l, x, rfl, ⟨dx, o, hv, h1, h2, h3⟩, ok, k⟩ := h
    have eh : (("hold" : String) : Str) = S (ascii "hold") := S_of "hold"
    have es : ((" " : String) : Str) = S [32] := S_of " "
    unfold holdText at k
    refine ⟨_, rfl, l.a, _, dx, _, _, rfl, h1, cl_Thing g, na_Thing_hold g, lk_Thing_hold .., ?_⟩
    cases e : x.hold with
    | none =>
      rw [e] at h3 k
      have h3' : hv = .non := h3
      subst h3'
      refine ⟨_, rfl, iteT ?_⟩
      show Q (.str _) H
      rw [eh]
      exact k _ (Same.refl _)
    | some h =>
      have oh := ok.hold h e
      rw [e] at h3 k
      obtain ⟨b, db, rfl, hb⟩ := h3
      refine ⟨_, rfl, iteF ?_⟩
      refine ⟨⟨_, rfl⟩, _, rfl, l.a, _, dx, _, _, rfl, h1, cl_Thing g, na_Thing_hold g, lk_Thing_hold .., b, _, db, _, _, rfl, hb, cl_Hold g, na_Hold_value g, lk_Hold_value .., _, rfl, log_small (by omega), ?_⟩
      refine ⟨_, rfl, l.a, _, dx, _, _, rfl, h1, cl_Thing g, na_Thing_hold g, lk_Thing_hold .., b, _, db, _, _, rfl, hb, cl_Hold g, na_Hold_rank g, lk_Hold_rank .., _, rfl, log_small (by omega), ?_⟩
      refine ⟨_, rfl, l.a, _, dx, _, _, rfl, h1, cl_Thing g, na_Thing_hold g, lk_Thing_hold .., b, _, db, _, _, rfl, hb, cl_Hold g, na_Hold_end g, lk_Hold_end .., _, rfl, log_small (by omega), by show 4 ≤ sizeLine; decide, fun p np => ?_⟩
      rw [dec_S, dec_S, dec_S] at *
      have hp : upd H p (.lst [V.str (("hold" : String) : Str), V.str (S (decimal h.1)), V.str (S (decimal h.2.1)), V.str (S (decimal h.2.2))]) p = some (.lst (([ascii "hold", decimal h.1, decimal h.2.1, decimal h.2.2].map S).map V.str)) := by rw [upd_same, eh]; rfl
      have d1 := dec_len (n := h.1) (k := 3) (by decide) (by omega)
      have d2 := dec_len (n := h.2.1) (k := 3) (by decide) (by omega)
      have d3 := dec_len (n := h.2.2) (k := 5) (by decide) (by omega)
      refine ⟨_, p, _, rfl, rfl, Or.inl (SqL.of hp), join_fits es (n := 100) (by simp only [wlen_cons, wlen_nil, show (ascii "hold").length = 4 from rfl]; omega) (by decide), ?_⟩
      rw [es, join_sep rfl]
      exact k _ (same_new np)
def ruleWhy (s : House) (r : Bytes) : Bytes := match ruleOf s r with
  | none => told [ascii "rule", r, ascii "gone"]
  | some q => listed (([ascii "rule", r, decimal q.rank, decimal q.held]) :: (leaves q.cond).map (leafText s))
def sp_explain_rule (K : PySem.W.Frag) : Sp := fun vs H Q _ => ∃ (L : Lay) (s : House) (n : Bytes), vs = [.ref L.h, vS n] ∧ HouseAt K H L s ∧ H L.dt = some (.dK (thingsK L.ts s.things)) ∧ WF s ∧ isName n = true ∧ ∀ H', Same H H' → Q (vS (ruleWhy s n)) H'
theorem sc_explain_rule : FnScope ["house", "name", "rule", "head"] ["house", "name"] (defScope s_explain_rule) := ⟨rfl, rfl, rfl, by decide +kernel, rfl, by decide +kernel, by decide +kernel⟩
theorem ok_explain_rule (g : Good w K mg) : FnOk P w K mg base CX0 23 (He.ga K "explain_rule") (fdA K (He.ga K "explain_rule")) ["house", "name"] (sp_explain_rule K) := by
  refine (F_explain_rule g).ok sc_explain_rule (fun vs H Q E h => ?_) (fun cdv A outer s0 H vs Q E hr h => ⟨_, PSs.nox (pss_cons (ps_if (pt_cmp (pc_dnotin (hu_of hr) (pv 1) (pe_fld (pv 0) rfl))) (pss_one (ps_ret (pe_joined (.cons pe_str (.cons (pe_fmt (pv 1)) (.cons pe_str .nil)))))) pss_nil) (pss_cons (ps_set (i := 2) sc_explain_rule.nd rfl (Or.inl rfl) (pe_dget (hu_of hr) (pe_fld (pv 0) rfl) (pv 1) (fun _ _ => rfl))) (pss_cons (ps_set (i := 3) sc_explain_rule.nd rfl (Or.inl rfl) (pe_join pe_str (pe_lst (pa_cons pe_str (pa_cons (pv 1) (pa_cons (pe_callTy call_str_int rfl (fr_str g) (by decide +kernel) (pa_cons (pe_fld (pv 2) rfl) pa_nil)) (pa_cons (pe_callTy call_str_int rfl (fr_str g) (by decide +kernel) (pa_cons (pe_fld (pv 2) rfl) pa_nil)) pa_nil))))))) (pss_one (ps_ret (pe_call (ok_show_list g) (hr.mono (by decide)) rfl (m_show_list g) (F_show_list g).kp (b_show_list g) .nil pass0 (pa_cons (pe_op op_cat (pe_lst (pa_cons (pv 3) pa_nil)) (pe_call (ok_show_comparisons g) (hr.mono (by decide)) rfl (m_show_comparisons g) (F_show_comparisons g).kp (b_show_comparisons g) .nil pass0 (pa_cons (pv 0) (pa_cons (pe_fld (pv 2) rfl) pa_nil)))) pa_nil))))))), ?_⟩)
  · obtain ⟨L, s, n, rfl, _⟩ := h; rfl
  · obtain ⟨L, s, n, rfl, hh, hdt, wf, hn, k⟩ := h
    obtain ⟨dx, hH⟩ := hh.h
    have nl := isName_len hn
    have es : ((" " : String) : Str) = S [32] := S_of " "
    have er : (("rule" : String) : Str) = S (ascii "rule") := S_of "rule"
    unfold ruleWhy at k
    refine ⟨_, rfl, _, rfl, L.h, _, dx, _, _, rfl, hH, cl_House g, na_House_rules g, lk_House_rules .., L.dr, _, rfl, dget_r hh n, _, rfl, ?_⟩
    rw [rules_some hh wf.rn]
    cases e : ruleOf s n with
    | none =>
      rw [e] at k
      have e1 : (("rule " : String) : Str) = S [114, 117, 108, 101, 32] := S_of "rule "
      have e2 : ((" gone" : String) : Str) = S [32, 103, 111, 110, 101] := S_of " gone"
      refine iteT ⟨_, rfl, by rw [e1, S_appE, S_len, sizeLine_eq]; simp, _, rfl, .inl ⟨_, rfl, by rw [S_len, sizeLine_eq]; omega, _, rfl, ?_, ?_⟩⟩
      · rw [e1, S_appE, S_append, S_len, List.length_append, sizeLine_eq]; simp; omega
      · refine ⟨_, rfl, ?_, ?_⟩
        · rw [e1, e2, S_appE, S_append, S_append, S_len, List.length_append, List.length_append, sizeLine_eq]; simp; omega
        · show Q (.str _) H
          rw [e1, e2, S_appE, text_gone]
          exact k _ (Same.refl _)
    | some q =>
      rw [e] at k
      obtain ⟨en, i, l, hx, hl, rx, dg⟩ := rule_at hh wf.rn e
      have mem := List.mem_of_getElem? hx
      have ok := wf.ro q mem
      obtain ⟨dy, vc, va, q1, q2, q3⟩ := rx
      obtain ⟨_, l2, _, l4, _, _, _⟩ := rule_lens ok
      have crk := ok.rank
      have chl := ok.held
      refine iteF ⟨_, rfl, L.h, _, dx, _, _, rfl, hH, cl_House g, na_House_rules g, lk_House_rules .., _, rfl, L.dr, _, rfl, dg, ?_⟩
      refine ⟨⟨_, rfl⟩, _, rfl, _, rfl, l, _, dy, _, _, rfl, q1, cl_Rule g, na_Rule_rank g, lk_Rule_rank .., _, rfl, log_small (by omega), ?_⟩
      refine ⟨_, rfl, l, _, dy, _, _, rfl, q1, cl_Rule g, na_Rule_count g, lk_Rule_count .., _, rfl, log_small (by omega), by show 4 ≤ sizeLine; decide, fun p np => ?_⟩
      rw [dec_S, dec_S] at *
      have s1 := same_new (o := HO.lst [V.str (("rule" : String) : Str), vS n, V.str (S (decimal q.rank)), V.str (S (decimal q.held))]) np
      have hp : upd H p (.lst [V.str (("rule" : String) : Str), vS n, V.str (S (decimal q.rank)), V.str (S (decimal q.held))]) p = some (.lst (([ascii "rule", n, decimal q.rank, decimal q.held].map S).map V.str)) := by rw [upd_same, er]; rfl
      have wh : wlen [ascii "rule", n, decimal q.rank, decimal q.held] ≤ 50 := by simp only [wlen_cons, wlen_nil, show (ascii "rule").length = 4 from rfl]; omega
      refine ⟨_, p, _, rfl, rfl, Or.inl (SqL.of hp), join_fits es wh (by decide), ?_⟩
      rw [es, join_sep rfl]
      generalize upd H p (.lst [V.str (("rule" : String) : Str), vS n, V.str (S (decimal q.rank)), V.str (S (decimal q.held))]) = H1 at s1
      refine ⟨_, rfl, by show 1 ≤ sizeLine; decide, fun p2 np2 => ?_⟩
      have s2 := same_new (o := HO.lst [vS (joined 32 [ascii "rule", n, decimal q.rank, decimal q.held])]) np2
      have sA := s1.trans s2
      have hh2 := hh.same sA
      refine ⟨_, rfl, _, rfl, l, _, dy, _, _, rfl, sA _ _ q1, cl_Rule g, na_Rule_condition g, lk_Rule_condition .., ?_⟩
      refine ⟨L, s, vc, q.cond, rfl, hh2, sA _ _ hdt, wf, q2.keep (Tups.of_same sA), ok.cond, ok.size, wf.kc q mem, fun H3 p3 s3 np3 hp3 => ?_⟩
      have hp23 := s3 _ _ (upd_same (H := H1) (a := p2))
      have lw := leaves_wlen s ok.cond ok.size
      have ll : (((leaves q.cond).map (leafText s)).map told).length ≤ 211000 := by unfold wlen at lw; omega
      refine ⟨p2, p3, _, _, rfl, rfl, hp23, hp3, by rw [List.length_map, sizeLine_eq]; simp only [List.length_cons, List.length_nil]; omega, fun p4 np4 => ?_⟩
      have s4 := same_new (o := HO.lst ([vS (joined 32 [ascii "rule", n, decimal q.rank, decimal q.held])] ++ (((leaves q.cond).map (leafText s)).map told).map vS)) np4
      refine ⟨p4, ([ascii "rule", n, decimal q.rank, decimal q.held] :: (leaves q.cond).map (leafText s)).map told, rfl, ?_, ?_, fun H5 s5 => ?_⟩
      · rw [upd_same]; rfl
      · rw [List.map_cons, wlen_cons]
        have := joined_wlen 32 [ascii "rule", n, decimal q.rank, decimal q.held]
        have : (told [ascii "rule", n, decimal q.rank, decimal q.held]).length ≤ 50 := Nat.le_trans this wh
        omega
      · rw [← listed_eq]
        exact k _ ((sA.trans s3).trans (s4.trans s5))
def sp_tell_why (K : PySem.W.Frag) : Sp := fun vs H Q _ => ∃ (L : Lay) (s : House) (ar : Addr) (n : Bytes), vs = [.ref L.h, .ref ar] ∧ H ar = some (.lst [vS n]) ∧ HouseAt K H L s ∧ Opn H L s ∧ WF s ∧ ∀ H', Same H H' → Q (vS (does s (.why n)).2) H'
theorem sc_tell_why : FnScope ["house", "arguments", "thing", "kind"] ["house", "arguments"] (defScope s_tell_why) := ⟨rfl, rfl, rfl, by decide +kernel, rfl, by decide +kernel, by decide +kernel⟩
theorem why_none {s : House} {n : Bytes} (e : thingOf s n = none) : (does s (.why n)).2 = no "thing" := by
  show (Hr01.onThing s n _).2 = _
  rw [on_none e]
theorem why_some {s : House} {n : Bytes} {x : Thing} (e : thingOf s n = some x) : (does s (.why n)).2 = match x.by_ with
    | .rule r => ruleWhy s r
    | .hold => holdText x
    | b => told (byText b) := by
  show (Hr01.onThing s n _).2 = _
  rw [on_some e]
  unfold ruleWhy holdText
  cases x.by_ <;> rfl
theorem ok_tell_why (g : Good w K mg) : FnOk P w K mg base CX0 24 (He.ga K "tell_why") (fdA K (He.ga K "tell_why")) ["house", "arguments"] (sp_tell_why K) := by
  refine (F_tell_why g).ok sc_tell_why (fun vs H Q E h => ?_) (fun cdv A outer s0 H vs Q E hr h => ⟨_, PSs.nox (pss_cons (ps_if (pt_cmp (pc_dnotin (hu_of hr) (pe_ix ix_list (pv 1) pe_int (fun _ _ => rfl)) (pe_fld (pv 0) rfl))) (pss_one (ps_ret pe_str)) pss_nil) (pss_cons (ps_set (i := 2) sc_tell_why.nd rfl (Or.inl rfl) (pe_dget (hu_of hr) (pe_fld (pv 0) rfl) (pe_ix ix_list (pv 1) pe_int (fun _ _ => rfl)) (fun _ _ => rfl))) (pss_cons (ps_set (i := 3) sc_tell_why.nd rfl (Or.inl rfl) (pe_ix ix_tup (pe_fld (pv 2) rfl) pe_int (fun _ _ => rfl))) (pss_cons (ps_if (pt_cmpR op_eq (pv 3) pe_str (nomark _)) (pss_one (ps_ret (pe_call (ok_explain_hold g) (hr.mono (by decide)) rfl (m_explain_hold g) (F_explain_hold g).kp (b_explain_hold g) .nil pass0 (pa_cons (pv 2) pa_nil)))) pss_nil) (pss_cons (ps_if (pt_cmpR op_eq (pv 3) pe_str (nomark _)) (pss_one (ps_ret (pe_call (ok_explain_rule g) (hr.mono (by decide)) rfl (m_explain_rule g) (F_explain_rule g).kp (b_explain_rule g) .nil pass0 (pa_cons (pv 0) (pa_cons (pe_ix ix_tup (pe_fld (pv 2) rfl) pe_int (fun _ _ => rfl)) pa_nil))))) pss_nil) (pss_one (ps_ret (pv 3)))))))), ?_⟩)
  · obtain ⟨L, s, ar, n, rfl, _⟩ := h; rfl
  · obtain ⟨L, s, ar, n, rfl, ha, hh, op, wf, k⟩ := h
    obtain ⟨dx, hH⟩ := hh.h
    have eh : (("hold" : String) : Str) = S (ascii "hold") := S_of "hold"
    have er : (("rule" : String) : Str) = S (ascii "rule") := S_of "rule"
    refine ⟨_, rfl, ar, _, _, _, rfl, rfl, SqL.of ha, atI_nat (j := 0) rfl, ?_⟩
    refine ⟨_, rfl, L.h, _, dx, _, _, rfl, hH, cl_House g, na_House_things g, lk_House_things .., L.dt, _, rfl, dget_t hh n, _, rfl, ?_⟩
    rw [things_some hh wf.names]
    cases e : thingOf s n with
    | none =>
      rw [why_none e] at k
      refine iteT ?_
      rw [no_S "thing" "no thing"]
      exact k _ (Same.refl _)
    | some x =>
      rw [why_some e] at k
      obtain ⟨en, i, l, hx, hl, tx, dg⟩ := thing_at hh wf.names e
      have ox := wf.to x (List.mem_of_getElem? hx)
      have tx0 := tx
      obtain ⟨dy, o, hv, q1, q2, q3⟩ := tx
      refine iteF ⟨_, rfl, L.h, _, dx, _, _, rfl, hH, cl_House g, na_House_things g, lk_House_things .., _, rfl, ar, _, _, _, rfl, rfl, SqL.of ha, atI_nat (j := 0) rfl, L.dt, _, rfl, dg, ?_⟩
      have Qe : ∀ (a b : Bytes), a = b → Q (vS a) H → Q (vS b) H := fun a b e q => e ▸ q
      cases eb : x.by_ with
      | none_ =>
        rw [eb] at q2 k
        refine ⟨_, rfl, l.a, _, dy, _, _, rfl, q1, cl_Thing g, na_Thing_origin g, lk_Thing_origin .., o, _, _, _, rfl, rfl, SqT.of q2, atI_nat (j := 0) (v := vS (ascii "none")) rfl, ?_⟩
        refine ⟨_, rfl, rfl, _, rfl, ?_⟩
        rw [eh, S_dec]
        refine iteF ⟨_, rfl, rfl, _, rfl, ?_⟩
        rw [er, S_dec]
        exact iteF ⟨_, rfl, k _ (Same.refl _)⟩
      | hand =>
        rw [eb] at q2 k
        refine ⟨_, rfl, l.a, _, dy, _, _, rfl, q1, cl_Thing g, na_Thing_origin g, lk_Thing_origin .., o, _, _, _, rfl, rfl, SqT.of q2, atI_nat (j := 0) (v := vS (ascii "hand")) rfl, ?_⟩
        refine ⟨_, rfl, rfl, _, rfl, ?_⟩
        rw [eh, S_dec]
        refine iteF ⟨_, rfl, rfl, _, rfl, ?_⟩
        rw [er, S_dec]
        exact iteF ⟨_, rfl, k _ (Same.refl _)⟩
      | hold =>
        rw [eb] at q2 k
        refine ⟨_, rfl, l.a, _, dy, _, _, rfl, q1, cl_Thing g, na_Thing_origin g, lk_Thing_origin .., o, _, _, _, rfl, rfl, SqT.of q2, atI_nat (j := 0) (v := vS (ascii "hold")) rfl, ?_⟩
        refine ⟨_, rfl, rfl, _, rfl, ?_⟩
        rw [eh, S_dec]
        exact iteT ⟨_, rfl, l, x, rfl, tx0, ox, k⟩
      | rule r =>
        have nr := ox.by_ r eb
        rw [eb] at q2 k
        refine ⟨_, rfl, l.a, _, dy, _, _, rfl, q1, cl_Thing g, na_Thing_origin g, lk_Thing_origin .., o, _, _, _, rfl, rfl, SqT.of q2, atI_nat (j := 0) (v := vS (ascii "rule")) rfl, ?_⟩
        refine ⟨_, rfl, rfl, _, rfl, ?_⟩
        rw [eh, S_dec]
        refine iteF ⟨_, rfl, rfl, _, rfl, ?_⟩
        rw [er, S_dec]
        refine iteT ⟨_, rfl, _, rfl, l.a, _, dy, _, _, rfl, q1, cl_Thing g, na_Thing_origin g, lk_Thing_origin .., o, _, _, _, rfl, rfl, SqT.of q2, atI_nat (j := 1) (v := vS r) rfl, ?_⟩
        exact ⟨L, s, r, rfl, hh, op.dt, wf, nr, k⟩
end
end Hw
end

/-! ## part V4 -/
section
set_option Elab.async false
set_option linter.all false
set_option maxRecDepth 100000
set_option maxHeartbeats 2000000
namespace Hw
open PySem PySem.Spec PyProof.Rows L2
open Hr01 (Bytes Words Term Sum Cond ascii isName num? term? digit small sum? parted Cmd Rule cmd? Thing House By byText thingsIn thingsOf valueOf termValue sumValue isSensor thingOf ruleOf leaves joined decimal told listed termText sumText condText wanted clamped looked become wasAt minute minutes taken withThing setSensor does no hangs ringed look restFrom thingText ruleText leafText over)
theorem text_waits (n : Nat) : S [119, 97, 105, 116, 115, 32] ++ S (decimal n) = S (told [ascii "waits", decimal n]) := by rw [S_append]; rfl
section
variable {P : Program} {w : World} {K : PySem.W.Frag} {mg : Str → Option Value} {base : Heap}
def silence (s : House) (r : Rule) : Bytes := if Hr01.holds s r.cond then told [ascii "waits", decimal r.held] else listed ([ascii "silent"] :: (leaves r.cond).map (leafText s))
def sp_explain_silence (K : PySem.W.Frag) : Sp := fun vs H Q _ => ∃ (L : Lay) (s : House) (a : Addr) (r : Rule), vs = [.ref L.h, .ref a] ∧ HouseAt K H L s ∧ H L.dt = some (.dK (thingsK L.ts s.things)) ∧ WF s ∧ r ∈ s.rules ∧ RuleAt K H a r ∧ ∀ H', Same H H' → Q (vS (silence s r)) H'
theorem sc_explain_silence : FnScope ["house", "rule"] ["house", "rule"] (defScope s_explain_silence) := ⟨rfl, rfl, rfl, by decide +kernel, rfl, by decide +kernel, by decide +kernel⟩
theorem ok_explain_silence (g : Good w K mg) : FnOk P w K mg base CX0 24 (He.ga K "explain_silence") (fdA K (He.ga K "explain_silence")) ["house", "rule"] (sp_explain_silence K) := by
  refine (F_explain_silence g).ok sc_explain_silence (fun vs H Q E h => ?_) (fun cdv A outer s0 H vs Q E hr h => ⟨_, PSs.nox (pss_cons (ps_if (pt_val (pe_call (ok_holds g) (hr.mono (by decide)) rfl (m_holds g) (F_holds g).kp (b_holds g) .nil pass0 (pa_cons (pe_fld (pv 1) rfl) (pa_cons (pe_call (ok_readings_of g) (hr.mono (by decide)) rfl (m_readings_of g) (F_readings_of g).kp (b_readings_of g) .nil pass0 (pa_cons (pv 0) pa_nil)) pa_nil)))) (pss_one (ps_ret (pe_op op_add_str pe_str (pe_callTy call_str_int rfl (fr_str g) (by decide +kernel) (pa_cons (pe_fld (pv 1) rfl) pa_nil))))) pss_nil) (pss_one (ps_ret (pe_call (ok_show_list g) (hr.mono (by decide)) rfl (m_show_list g) (F_show_list g).kp (b_show_list g) .nil pass0 (pa_cons (pe_op op_cat (pe_lst (pa_cons pe_str pa_nil)) (pe_call (ok_show_comparisons g) (hr.mono (by decide)) rfl (m_show_comparisons g) (F_show_comparisons g).kp (b_show_comparisons g) .nil pass0 (pa_cons (pv 0) (pa_cons (pe_fld (pv 1) rfl) pa_nil)))) pa_nil))))), ?_⟩)
  · obtain ⟨L, s, a, r, rfl, _⟩ := h; rfl
  · obtain ⟨L, s, a, r, rfl, hh, hdt, wf, mem, ⟨dy, vc, va, q1, q2, q3⟩, k⟩ := h
    have ok := wf.ro r mem
    have chl := ok.held
    have ew : (("waits " : String) : Str) = S [119, 97, 105, 116, 115, 32] := S_of "waits "
    have esl : (("silent" : String) : Str) = S (ascii "silent") := S_of "silent"
    unfold silence at k
    refine ⟨_, rfl, a, _, dy, _, _, rfl, q1, cl_Rule g, na_Rule_condition g, lk_Rule_condition .., ?_⟩
    refine ⟨_, rfl, L, s, rfl, hh, hdt, wf.few, fun H1 ad s1 nad had => ?_⟩
    refine ⟨vc, ad, s, r.cond, rfl, q2.keep (Tups.of_same s1), had, wf.names, wf.kc r mem, _, rfl, ?_⟩
    cases c : Hr01.holds s r.cond with
    | true =>
      rw [c, if_pos rfl] at k
      refine iteT ⟨_, rfl, a, _, dy, _, _, rfl, s1 _ _ q1, cl_Rule g, na_Rule_count g, lk_Rule_count .., _, rfl, log_small (by omega), ?_⟩
      have d1 := dec_len (n := r.held) (k := 2) (by decide) (by omega)
      refine ⟨_, _, rfl, rfl, by rw [ew, dec_S, S_len, S_len, sizeLine_eq]; simp; omega, ?_⟩
      rw [ew, dec_S, text_waits]
      exact k _ s1
    | false =>
      rw [c, if_neg Bool.false_ne_true] at k
      refine iteF ⟨by show 1 ≤ sizeLine; decide, fun p np => ?_⟩
      have s2 := same_new (o := HO.lst [V.str (("silent" : String) : Str)]) np
      have sA := s1.trans s2
      refine ⟨_, rfl, _, rfl, a, _, dy, _, _, rfl, sA _ _ q1, cl_Rule g, na_Rule_condition g, lk_Rule_condition .., ?_⟩
      refine ⟨L, s, vc, r.cond, rfl, hh.same sA, sA _ _ hdt, wf, q2.keep (Tups.of_same sA), ok.cond, ok.size, wf.kc r mem, fun H3 p3 s3 np3 hp3 => ?_⟩
      have hp23 := s3 _ _ (upd_same (H := H1) (a := p))
      have lw := leaves_wlen s ok.cond ok.size
      have ll : (((leaves r.cond).map (leafText s)).map told).length ≤ 211000 := by unfold wlen at lw; omega
      refine ⟨p, p3, _, _, rfl, rfl, hp23, hp3, by rw [List.length_map, sizeLine_eq]; simp only [List.length_cons, List.length_nil]; omega, fun p4 np4 => ?_⟩
      have s4 := same_new (o := HO.lst ([V.str (("silent" : String) : Str)] ++ (((leaves r.cond).map (leafText s)).map told).map vS)) np4
      refine ⟨p4, ([ascii "silent"] :: (leaves r.cond).map (leafText s)).map told, rfl, ?_, ?_, fun H5 s5 => ?_⟩
      · rw [upd_same, esl]; rfl
      · rw [List.map_cons, wlen_cons, told1, show (ascii "silent").length = 6 from rfl]; omega
      · rw [← listed_eq]
        exact k _ ((sA.trans s3).trans (s4.trans s5))
def speech (s : House) (r : Rule) : Bytes := match over s r with
  | [] => ascii "speaks"
  | l => listed ([ascii "over"] :: l.map fun q => [q.name, decimal q.rank])
def overI (r : Rule) (l : List Rule) : List Rule := l.filter fun q => q.thing == r.thing && (Hr01.speaks q && decide (r.rank < q.rank))
theorem overI_snoc (r : Rule) (l : List Rule) (q : Rule) : overI r (l ++ [q]) = if (decide (q.thing = r.thing) && (Hr01.speaks q && decide (r.rank < q.rank))) = true then overI r l ++ [q] else overI r l := by
  unfold overI
  rw [List.filter_append]
  have e : (q.thing == r.thing) = decide (q.thing = r.thing) := by
    by_cases c : q.thing = r.thing
    · rw [beq_iff_eq.mpr c, decide_eq_true c]
    · rw [beq_eq_false_iff_ne.mpr c, decide_eq_false c]
  split
  · rename_i h; rw [List.filter_cons, e, if_pos h]; rfl
  · rename_i h; rw [List.filter_cons, e, if_neg h]; simp
def sp_explain_speech (K : PySem.W.Frag) : Sp := fun vs H Q _ => ∃ (L : Lay) (s : House) (a : Addr) (r : Rule), vs = [.ref L.h, .ref a] ∧ HouseAt K H L s ∧ Opn H L s ∧ WF s ∧ RuleAt K H a r ∧ ∀ H', Same H H' → Q (vS (speech s r)) H'
theorem sc_explain_speech : FnScope ["house", "rule", "above", "name", "other"] ["house", "rule"] (defScope s_explain_speech) := ⟨rfl, rfl, rfl, by decide +kernel, rfl, by decide +kernel, by decide +kernel⟩
theorem ok_explain_speech (g : Good w K mg) : FnOk P w K mg base CX0 2 (He.ga K "explain_speech") (fdA K (He.ga K "explain_speech")) ["house", "rule"] (sp_explain_speech K) := by
  refine (F_explain_speech g).ok sc_explain_speech (fun vs H Q E h => ?_) (fun cdv A outer s0 H vs Q E hr h => ⟨_, PSs.nox (pss_cons (ps_set (i := 2) sc_explain_speech.nd rfl (Or.inl rfl) (pe_lst pa_nil)) (pss_cons (ps_lock (ps_for PassesOwn.never rfl (pi_items (pe_fld (pv 0) rfl)) (pg_tup rfl (pgs_cons (pg_name (i := 3) sc_explain_speech.nd rfl (Or.inl rfl)) (pgs_cons (pg_name (i := 4) sc_explain_speech.nd rfl (Or.inl rfl)) pgs_nil))) (pss_one (ps_if (PW.pt (pw_and (pt_cmpR op_eq (pe_fld (pv 4) rfl) (pe_fld (pv 1) rfl) (nomark _)) (pw_and (pt_val (pe_call (ok_speaks g) (hr.mono (by decide)) rfl (m_speaks g) (F_speaks g).kp (b_speaks g) .nil pass0 (pa_cons (pv 4) pa_nil))) (pw_and1 (pt_cmpR op_gt (pe_fld (pv 4) rfl) (pe_fld (pv 1) rfl) (nomark _)))))) (pss_one (ps_expr (pe_bm PySem.F.plainAttrs_list PySem.F.slot_list_append PySem.F.type_list_append mt_append (pv 2) (pa_cons (pe_call (ok_show_named_value g) (hr.mono (by decide)) rfl (m_show_named_value g) (F_show_named_value g).kp (b_show_named_value g) .nil pass0 (pa_cons (pv 3) (pa_cons (pe_fld (pv 4) rfl) pa_nil))) pa_nil)))) pss_nil)))) (pss_one (ps_ret (pe_ifExp (pt_truth (pv 2) (by intro _; rfl)) (pe_call (ok_show_list g) (hr.mono (by decide)) rfl (m_show_list g) (F_show_list g).kp (b_show_list g) .nil pass0 (pa_cons (pe_op op_cat (pe_lst (pa_cons pe_str pa_nil)) (pv 2)) pa_nil)) pe_str))))), ?_⟩)
  · obtain ⟨L, s, a, r, rfl, _⟩ := h; rfl
  · obtain ⟨L, s, a, r, rfl, hh, op, wf, rx, k⟩ := h
    obtain ⟨dx, hH⟩ := hh.h
    have fr := wf.few.fr
    have rx0 := rx
    obtain ⟨dy, vc, va, q1, q2, q3⟩ := rx
    have eo : (("over" : String) : Str) = S (ascii "over") := S_of "over"
    let fR : Rule → Words := fun q => [q.name, decimal q.rank]
    refine ⟨by show 0 ≤ sizeLine; decide, fun D nD => ?_⟩
    have s1 := same_new (o := HO.lst []) nD
    have hdr1 := s1 _ _ op.dr
    refine ⟨L.dr, _, hdr1, trivial, fun od => ?_⟩
    refine ⟨_, rfl, L.h, _, dx, _, _, rfl, (upd_ne (ne_of hH op.dr (by intro z; cases z))).trans (s1 _ _ hH), cl_House g, na_House_rules g, lk_House_rules .., ?_⟩
    refine ⟨L.dr, od, _, rfl, upd_same, ?_⟩
    have nDr : D ≠ L.dr := fun z => by rw [z, op.dr] at nD; cases nD
    refine for_it (walk_itR hh.lr) (fun i σ H' => Fr (At L.dr) H H' ∧ H' L.dr = some (.frz od (.dK (rulesK L.rs s.rules))) ∧ H' D = some (.lst ((((overI r (s.rules.take i)).map fR).map told).map vS)) ∧ ∃ z1 z2, σ = [some (.ref L.h), some (.ref a), some (.ref D), z1, z2])
      ⟨(Fr.of_same s1).trans Fr.at1, upd_same, (upd_ne nDr).trans upd_same, none, none, rfl⟩ (fun i σ H' _ z => z.2.1) ?_ ?_
    · rintro i y σ H' H2 hi ⟨f, hlk, hD, z1, z2, rfl⟩ ⟨T, l, q, hl, hq, rfl, hT, rfl⟩
      obtain ⟨q', hq', qx⟩ := paired_get hh.rs hl
      rw [hq] at hq'; cases hq'
      have okq := wf.ro q (List.mem_of_getElem? hq)
      have nlq := isName_len okq.name
      have crk := okq.rank
      obtain ⟨_, _, _, _, _, _, _, _, e4⟩ := qx.there
      have qf : Quiet H H' := Quiet.at1 f op.dr soft_dK
      have sT := same_new (o := HO.tup [vS q.name, .ref l]) hT
      have qx2 := (qx.quiet qf (f.eq e4 (ne_of e4 op.dr (by intro z; cases z)))).same sT
      have qx3 := qx2
      obtain ⟨dq, wc, wa, p1, p2, p3⟩ := qx2
      have q1' := sT _ _ (f _ _ q1 (ne_of q1 op.dr (by intro z; cases z)))
      have et : s.rules.take (i + 1) = s.rules.take i ++ [q] := by rw [List.take_succ, hq]; rfl
      have hD2 := sT _ _ hD
      have lo : (overI r (s.rules.take i)).length ≤ 6 := by
        unfold overI
        have := List.length_filter_le (fun q : Rule => q.thing == r.thing && (Hr01.speaks q && decide (r.rank < q.rank))) (s.rules.take i)
        rw [List.length_take] at this; omega
      refine ⟨T, _, rfl, SqT.of upd_same, rfl, _, _, rfl, _, _, rfl, rfl, ?_⟩
      refine test_and (a := decide (q.thing = r.thing)) (b := Hr01.speaks q && decide (r.rank < q.rank)) (fun Q' z => ⟨_, rfl, l, _, dq, _, _, rfl, p1, cl_Rule g, na_Rule_thing g, lk_Rule_thing .., _, rfl, a, _, dy, _, _, rfl, q1', cl_Rule g, na_Rule_thing g, lk_Rule_thing .., rfl, _, rfl, by rw [S_dec]; exact z⟩)
        (fun Q' z => test_and (a := Hr01.speaks q) (b := decide (r.rank < q.rank)) (fun Q2 z2 => ⟨_, rfl, l, q, rfl, qx3, _, rfl, z2⟩) (fun Q2 z2 => ⟨_, rfl, l, _, dq, _, _, rfl, p1, cl_Rule g, na_Rule_rank g, lk_Rule_rank .., _, rfl, a, _, dy, _, _, rfl, q1', cl_Rule g, na_Rule_rank g, lk_Rule_rank .., _, _, rfl, rfl, _, rfl, ?_⟩) z) ?_
      · rw [show decide (((r.rank : Nat) : Int) < ((q.rank : Nat) : Int)) = decide (r.rank < q.rank) from decide_eq_decide.mpr ⟨fun h => by omega, fun h => by omega⟩]; exact z2
      cases hb : (decide (q.thing = r.thing) && (Hr01.speaks q && decide (r.rank < q.rank))) with
      | true =>
        refine iteT ⟨_, rfl, Or.inl ⟨rfl, _, SqL.of hD2⟩, _, rfl, _, rfl, l, _, dq, _, _, rfl, p1, cl_Rule g, na_Rule_rank g, lk_Rule_rank .., q.name, q.rank, rfl, by omega, by omega, ?_⟩
        refine ⟨D, _, _, rfl, rfl, hD2, by rw [List.length_map, List.length_map, List.length_map, sizeLine_eq]; omega, ?_, ?_, ?_, _, _, rfl⟩
        · intro b u e n
          rw [upd_ne (ne_of_none e nD)]; exact sT _ _ (f b u e n)
        · rw [upd_ne nDr.symm]; exact sT _ _ hlk
        · rw [upd_same, et, overI_snoc, if_pos hb, List.map_append, List.map_append, List.map_append]; rfl
      | false =>
        refine iteF ⟨f.trans (Fr.of_same sT), sT _ _ hlk, ?_, _, _, rfl⟩
        rw [et, overI_snoc, if_neg (by rw [hb]; exact Bool.false_ne_true)]; exact hD2
    · rintro σ H' ⟨f, hlk, hD, z1, z2, rfl⟩
      refine ⟨hlk, ?_⟩
      rw [List.take_length] at hD
      have sm : Same H (upd H' L.dr (.dK (rulesK L.rs s.rules))) := f.unlock op.dr
      have hD1 : upd H' L.dr (.dK (rulesK L.rs s.rules)) D = some (.lst ((((over s r).map fR).map told).map vS)) := (upd_ne nDr).trans hD
      generalize upd H' L.dr (.dK (rulesK L.rs s.rules)) = H1 at sm hD1
      unfold speech at k
      refine ⟨_, rfl, _, Or.inl ⟨_, SqL.of hD1, rfl⟩, ?_⟩
      cases eo2 : over s r with
      | nil =>
        rw [eo2] at k
        refine iteF ?_
        show Q (.str _) H1
        rw [S_of]
        exact k _ sm
      | cons q0 l0 =>
        have k' : ∀ H', Same H H' → Q (vS (listed ([ascii "over"] :: (over s r).map fR))) H' := by
          rw [eo2] at k ⊢; exact k
        rw [← eo2]
        have eb : (!((((over s r).map fR).map told).map vS).isEmpty) = true := by rw [eo2]; rfl
        rw [eb]
        have lo : (over s r).length ≤ 6 := by
          have := List.length_filter_le (fun q : Rule => q.thing == r.thing && (Hr01.speaks q && decide (r.rank < q.rank))) s.rules
          exact Nat.le_trans this fr
        refine iteT ⟨by show 1 ≤ sizeLine; decide, fun p np => ?_⟩
        have s2 := same_new (o := HO.lst [V.str (("over" : String) : Str)]) np
        refine ⟨_, rfl, p, D, _, _, rfl, rfl, upd_same, s2 _ _ hD1, by rw [List.length_map, List.length_map, List.length_map, sizeLine_eq]; simp only [List.length_cons, List.length_nil]; omega, fun p4 np4 => ?_⟩
        have s4 := same_new (o := HO.lst ([V.str (("over" : String) : Str)] ++ (((over s r).map fR).map told).map vS)) np4
        refine ⟨p4, ([ascii "over"] :: (over s r).map fR).map told, rfl, ?_, ?_, fun H5 s5 => ?_⟩
        · rw [upd_same, eo]; rfl
        · rw [List.map_cons, wlen_cons, told1, show (ascii "over").length = 4 from rfl]
          have := wlen_map_le (f := fR) (l := over s r) (n := 20) fun x hx => by
            have hm : x ∈ s.rules := (List.mem_filter.mp hx).1
            have okx := wf.ro x hm
            obtain ⟨m1, m2, _⟩ := rule_lens okx
            show wlen [x.name, decimal x.rank] ≤ 20
            rw [wlen_cons, wlen_cons, wlen_nil]; omega
          omega
        · rw [← listed_eq]
          exact k' _ (sm.trans (s2.trans (s4.trans s5)))
def sp_tell_why_not (K : PySem.W.Frag) : Sp := fun vs H Q _ => ∃ (L : Lay) (s : House) (ar : Addr) (n : Bytes), vs = [.ref L.h, .ref ar] ∧ H ar = some (.lst [vS n]) ∧ HouseAt K H L s ∧ Opn H L s ∧ WF s ∧ ∀ H', Same H H' → Q (vS (does s (.whynot n)).2) H'
theorem sc_tell_why_not : FnScope ["house", "arguments", "rule"] ["house", "arguments"] (defScope s_tell_why_not) := ⟨rfl, rfl, rfl, by decide +kernel, rfl, by decide +kernel, by decide +kernel⟩
theorem whynot_none {s : House} {n : Bytes} (e : ruleOf s n = none) : (does s (.whynot n)).2 = no "rule" := by
  show (match ruleOf s n with | none => no "rule" | some r => _) = _
  rw [e]
theorem whynot_some {s : House} {n : Bytes} {r : Rule} (e : ruleOf s n = some r) : (does s (.whynot n)).2 = if Hr01.speaks r = false then silence s r else speech s r := by
  show (match ruleOf s n with | none => no "rule" | some r => _) = _
  rw [e]
  unfold silence speech
  rfl
theorem ok_tell_why_not (g : Good w K mg) : FnOk P w K mg base CX0 25 (He.ga K "tell_why_not") (fdA K (He.ga K "tell_why_not")) ["house", "arguments"] (sp_tell_why_not K) := by
  refine (F_tell_why_not g).ok sc_tell_why_not (fun vs H Q E h => ?_) (fun cdv A outer s0 H vs Q E hr h => ⟨_, PSs.nox (pss_cons (ps_if (pt_cmp (pc_dnotin (hu_of hr) (pe_ix ix_list (pv 1) pe_int (fun _ _ => rfl)) (pe_fld (pv 0) rfl))) (pss_one (ps_ret pe_str)) pss_nil) (pss_cons (ps_set (i := 2) sc_tell_why_not.nd rfl (Or.inl rfl) (pe_dget (hu_of hr) (pe_fld (pv 0) rfl) (pe_ix ix_list (pv 1) pe_int (fun _ _ => rfl)) (fun _ _ => rfl))) (pss_one (ps_ret (pe_ifExp (pt_val (pe_call (ok_speaks g) (hr.mono (by decide)) rfl (m_speaks g) (F_speaks g).kp (b_speaks g) .nil pass0 (pa_cons (pv 2) pa_nil))) (pe_call (ok_explain_speech g) (hr.mono (by decide)) rfl (m_explain_speech g) (F_explain_speech g).kp (b_explain_speech g) .nil pass0 (pa_cons (pv 0) (pa_cons (pv 2) pa_nil))) (pe_call (ok_explain_silence g) (hr.mono (by decide)) rfl (m_explain_silence g) (F_explain_silence g).kp (b_explain_silence g) .nil pass0 (pa_cons (pv 0) (pa_cons (pv 2) pa_nil)))))))), ?_⟩)
  · obtain ⟨L, s, ar, n, rfl, _⟩ := h; rfl
  · obtain ⟨L, s, ar, n, rfl, ha, hh, op, wf, k⟩ := h
    obtain ⟨dx, hH⟩ := hh.h
    refine ⟨_, rfl, ar, _, _, _, rfl, rfl, SqL.of ha, atI_nat (j := 0) rfl, ?_⟩
    refine ⟨_, rfl, L.h, _, dx, _, _, rfl, hH, cl_House g, na_House_rules g, lk_House_rules .., L.dr, _, rfl, dget_r hh n, _, rfl, ?_⟩
    rw [rules_some hh wf.rn]
    cases e : ruleOf s n with
    | none =>
      rw [whynot_none e] at k
      refine iteT ?_
      rw [no_S "rule" "no rule"]
      exact k _ (Same.refl _)
    | some r =>
      rw [whynot_some e] at k
      obtain ⟨en, i, l, hx, hl, rx, dg⟩ := rule_at hh wf.rn e
      refine iteF ⟨_, rfl, L.h, _, dx, _, _, rfl, hH, cl_House g, na_House_rules g, lk_House_rules .., _, rfl, ar, _, _, _, rfl, rfl, SqL.of ha, atI_nat (j := 0) rfl, L.dr, _, rfl, dg, ?_⟩
      refine ⟨_, rfl, l, r, rfl, rx, _, rfl, ?_⟩
      cases c : Hr01.speaks r with
      | true =>
        rw [c, if_neg (fun z => nomatch z)] at k
        exact iteT ⟨_, rfl, _, rfl, L, s, l, r, rfl, hh, op, wf, rx, k⟩
      | false =>
        rw [c, if_pos rfl] at k
        exact iteF ⟨_, rfl, _, rfl, L, s, l, r, rfl, hh, op.dt, wf, List.mem_of_getElem? hx, rx, k⟩
def sp_tell_rings (K : PySem.W.Frag) : Sp := fun vs H Q _ => ∃ (L : Lay) (s : House) (ar : Addr), vs = [.ref L.h, .ref ar] ∧ HouseAt K H L s ∧ Sep L ∧ Opn H L s ∧ WF s ∧ ∀ H', Same H H' → Q (vS (does s .rings).2) H'
theorem sc_tell_rings : FnScope ["house", "arguments", "name"] ["house", "arguments"] (defScope s_tell_rings) := ⟨rfl, rfl, rfl, by decide +kernel, rfl, by decide +kernel, by decide +kernel⟩
theorem ok_tell_rings (g : Good w K mg) : FnOk P w K mg base CX0 25 (He.ga K "tell_rings") (fdA K (He.ga K "tell_rings")) ["house", "arguments"] (sp_tell_rings K) := by
  refine (F_tell_rings g).ok sc_tell_rings (fun vs H Q E h => ?_) (fun cdv A outer s0 H vs Q E hr h => ⟨_, PSs.nox (pss_one (ps_ret (pe_call (ok_show_list g) (hr.mono (by decide)) rfl (m_show_list g) (F_show_list g).kp (b_show_list g) .nil pass0 (pa_cons (pe_lock (pe_lc (own := [("name", 2)]) rfl sc_tell_rings.nd (pi_keys (pe_fld (pv 0) rfl)) (blkOk_by (own := [("name", 2)]) (N := ["house", "arguments", "name"]) (sc := defScope s_tell_rings) (by decide +kernel)) (fun _ _ _ _ _ => (pg_name (i := 2) sc_tell_rings.nd rfl (Or.inl rfl))) (fun _ _ _ _ _ => (pts_one (pt_val (pe_call (ok_is_circular g) (hr.mono (by decide)) rfl (m_is_circular g) (F_is_circular g).kp (b_is_circular g) .nil pass0 (pa_cons (pv 0) (pa_cons (pv 2) pa_nil)))))) (fun _ _ _ _ _ => (pv 2)))) pa_nil)))), ?_⟩)
  · obtain ⟨L, s, ar, rfl, _⟩ := h; rfl
  · obtain ⟨L, s, ar, rfl, hh, sp, op, wf, k⟩ := h
    obtain ⟨dx, hH⟩ := hh.h
    have ft := wf.few.ft
    have ed : (does s .rings).2 = listed ((s.things.filter fun x => ringed s x.name).map fun x => [x.name]) := rfl
    rw [ed] at k
    refine ⟨L.dt, _, op.dt, trivial, fun od => ?_⟩
    refine ⟨_, rfl, L.h, _, dx, _, _, rfl, (upd_ne (ne_of hH op.dt (by intro z; cases z))).trans hH, cl_House g, na_House_things g, lk_House_things .., ?_⟩
    refine ⟨L.dt, od, rfl, .inl ⟨_, upd_same, fun D nD => ?_⟩⟩
    have nDt : L.dt ≠ D := fun z => by rw [← z, upd_same] at nD; cases nD
    have nD0 : H D = none := by rw [upd_ne nDt.symm] at nD; exact nD
    have hl0 : HouseAt K (upd H L.dt (.frz od (.dK (thingsK L.ts s.things)))) L s := hh.lock (.inl op.dt) (.inr ⟨od, rfl⟩)
    have hdr0 : upd H L.dt (.frz od (.dK (thingsK L.ts s.things))) L.dr = some (.dK (rulesK L.rs s.rules)) := (upd_ne sp.d3.symm).trans op.dr
    have f0 : Fr (At L.dt) H (upd H L.dt (.frz od (.dK (thingsK L.ts s.things)))) := Fr.at1
    have hlk0 : upd H L.dt (.frz od (.dK (thingsK L.ts s.things))) L.dt = some (.frz od (.dK (thingsK L.ts s.things))) := upd_same
    generalize upd H L.dt (.frz od (.dK (thingsK L.ts s.things))) = HL at nD hl0 hdr0 f0 hlk0
    let fT : Thing → Words := fun x => [x.name]
    refine lc_it (walk_kT hh.lt) (fun i H' => Same HL H' ∧ H' D = some (.lst (((((s.things.take i).filter fun x => ringed s x.name).map fT).map told).map vS)))
      ⟨same_new nD, upd_same⟩ (fun i H' _ z => z.1 _ _ hlk0) ?_ ?_
    · rintro i y H' H2 hi ⟨sm, hD⟩ ⟨rfl, l, x, hl, hx, rfl⟩
      have et : s.things.take (i + 1) = s.things.take i ++ [x] := by rw [List.take_succ, hx]; rfl
      refine ⟨rfl, ?_⟩
      refine ⟨_, rfl, _, rfl, L, s, x.name, rfl, hl0.same sm, sm _ _ hdr0, wf, fun H3 s3 => ?_⟩
      refine ⟨_, rfl, ?_⟩
      have hD3 := s3 _ _ hD
      have lf := List.length_filter_le (fun x : Thing => ringed s x.name) (s.things.take i)
      rw [List.length_take] at lf
      cases c : ringed s x.name with
      | true =>
        refine iteT ⟨_, rfl, _, hD3, by rw [List.length_map, List.length_map, List.length_map, sizeLine_eq]; omega, fun b u e => ?_, ?_⟩
        · rw [upd_ne (ne_of_none e nD)]; exact s3 _ _ (sm _ _ e)
        · rw [upd_same, et, List.filter_append]
          have : [x].filter (fun x => ringed s x.name) = [x] := by simp [c]
          rw [this, List.map_append, List.map_append, List.map_append]; rfl
      | false =>
        refine iteF ⟨sm.trans s3, ?_⟩
        rw [hD3, et, List.filter_append]
        have : [x].filter (fun x => ringed s x.name) = [] := by simp [c]
        rw [this, List.append_nil]
    · rintro H3 ⟨sm, hD⟩
      have hlk3 := sm _ _ hlk0
      refine ⟨hlk3, ?_⟩
      rw [List.take_length] at hD
      have sm3 : Same H (upd H3 L.dt (.dK (thingsK L.ts s.things))) := (f0.trans (Fr.of_same sm)).unlock op.dt
      refine ⟨D, ((s.things.filter fun x => ringed s x.name).map fT).map told, rfl, (upd_ne nDt.symm).trans hD, ?_, fun H5 s5 => ?_⟩
      · have := wlen_map_le (f := fT) (l := s.things.filter fun x => ringed s x.name) (n := 20) fun x hx => by
          have := isName_len (wf.names.tn x (List.mem_filter.mp hx).1)
          show wlen [x.name] ≤ 20
          rw [wlen_cons, wlen_nil]; omega
        have lf := List.length_filter_le (fun x : Thing => ringed s x.name) s.things
        omega
      · rw [← listed_eq]
        exact k _ (sm3.trans s5)
def sp_tell_rest (K : PySem.W.Frag) : Sp := fun vs H Q _ => ∃ (L : Lay) (s : House) (ar : Addr), vs = [.ref L.h, .ref ar] ∧ HouseAt K H L s ∧ Opn H L s ∧ WF s ∧ ∀ H', Same H H' → Q (vS (does s .rest).2) H'
theorem sc_tell_rest : FnScope ["house", "arguments"] ["house", "arguments"] (defScope s_tell_rest) := ⟨rfl, rfl, rfl, by decide +kernel, rfl, by decide +kernel, by decide +kernel⟩
theorem ok_tell_rest (g : Good w K mg) : FnOk P w K mg base CX0 27 (He.ga K "tell_rest") (fdA K (He.ga K "tell_rest")) ["house", "arguments"] (sp_tell_rest K) := by
  refine (F_tell_rest g).ok sc_tell_rest (fun vs H Q E h => ?_) (fun cdv A outer s0 H vs Q E hr h => ⟨_, PSs.nox (pss_one (ps_ret (pe_call (ok_find_rest g) (hr.mono (by decide)) rfl (m_find_rest g) (F_find_rest g).kp (b_find_rest g) .nil pass0 (pa_cons (pv 0) pa_nil)))), ?_⟩)
  · obtain ⟨L, s, ar, rfl, _⟩ := h; rfl
  · obtain ⟨L, s, ar, rfl, hh, op, wf, k⟩ := h
    have ed : (does s .rest).2 = restText (Hr01.rest s) := by
      show (match Hr01.rest s with | .rest n => _ | .round n p => _ | .more => _) = _
      unfold restText
      cases Hr01.rest s <;> rfl
    rw [ed] at k
    exact ⟨_, rfl, L, s, rfl, hh, op, wf, k⟩
def sp_tell_trial (K : PySem.W.Frag) : Sp := fun vs H Q _ => ∃ (L : Lay) (s : House) (ar : Addr) (n : Bytes) (v m : Nat), vs = [.ref L.h, .ref ar] ∧ H ar = some (.lst [vS n, .int (v : Nat), .int (m : Nat)]) ∧ v ≤ 999 ∧ m ≤ 100 ∧ HouseAt K H L s ∧ Opn H L s ∧ WF s ∧ ∀ H', Same H H' → Q (vS (does s (.trial n v m)).2) H'
theorem sc_tell_trial : FnScope ["house", "arguments", "ahead", "name", "thing"] ["house", "arguments"] (defScope s_tell_trial) := ⟨rfl, rfl, rfl, by decide +kernel, rfl, by decide +kernel, by decide +kernel⟩
theorem ok_tell_trial (g : Good w K mg) : FnOk P w K mg base CX0 28 (He.ga K "tell_trial") (fdA K (He.ga K "tell_trial")) ["house", "arguments"] (sp_tell_trial K) := by
  refine (F_tell_trial g).ok sc_tell_trial (fun vs H Q E h => ?_) (fun cdv A outer s0 H vs Q E hr h => ⟨_, PSs.nox (pss_cons (ps_if (pt_cmp (pc_dnotin (hu_of hr) (pe_ix ix_list (pv 1) pe_int (fun _ _ => rfl)) (pe_fld (pv 0) rfl))) (pss_one (ps_ret pe_str)) pss_nil) (pss_cons (ps_set (i := 2) sc_tell_trial.nd rfl (Or.inl rfl) (pe_call (ok_house_ahead g) (hr.mono (by decide)) rfl (m_house_ahead g) (F_house_ahead g).kp (b_house_ahead g) .nil pass0 (pa_cons (pv 0) (pa_cons (pe_ix ix_list (pv 1) pe_int (fun _ _ => rfl)) (pa_cons (pe_ix ix_list (pv 1) pe_int (fun _ _ => rfl)) (pa_cons (pe_ix ix_list (pv 1) pe_int (fun _ _ => rfl)) pa_nil)))))) (pss_one (ps_ret (pe_call (ok_show_list g) (hr.mono (by decide)) rfl (m_show_list g) (F_show_list g).kp (b_show_list g) .nil pass0 (pa_cons (pe_lock (pe_lc (own := [("name", 3), ("thing", 4)]) rfl sc_tell_trial.nd (pi_items (pe_fld (pv 2) rfl)) (blkOk_by (own := [("name", 3), ("thing", 4)]) (N := ["house", "arguments", "ahead", "name", "thing"]) (sc := defScope s_tell_trial) (by decide +kernel)) (fun _ _ _ _ _ => (pg_tupK (K := K) (n := 2) rfl rfl (pgs_cons (pg_name (i := 3) sc_tell_trial.nd rfl (Or.inl rfl)) (pgs_cons (pg_name (i := 4) sc_tell_trial.nd rfl (Or.inl rfl)) pgs_nil)))) (fun _ _ _ _ _ => pts_nil) (fun _ _ _ _ _ => (pe_call (ok_show_named_value g) (hr.mono (by decide)) rfl (m_show_named_value g) (F_show_named_value g).kp (b_show_named_value g) .nil pass0 (pa_cons (pv 3) (pa_cons (pe_fldK (K := K) rfl (pv 4) rfl) pa_nil)))))) pa_nil)))))), ?_⟩)
  · obtain ⟨L, s, ar, n, v, m, rfl, _⟩ := h; rfl
  · obtain ⟨L, s, ar, n, v, m, rfl, ha, hv, hm, hh, op, wf, k⟩ := h
    obtain ⟨dx, hH⟩ := hh.h
    have ed : (does s (.trial n v m)).2 = if isSensor s n = false then no "sensor" else listed ((minutes m (setSensor s n v)).things.map fun x => [x.name, decimal x.is]) := rfl
    rw [ed] at k
    refine ⟨_, rfl, ar, _, _, _, rfl, rfl, SqL.of ha, atI_nat (j := 0) rfl, ?_⟩
    refine ⟨_, rfl, L.h, _, dx, _, _, rfl, hH, cl_House g, na_House_sensors g, lk_House_sensors .., L.ds, _, rfl, dget_s hh n, _, rfl, ?_⟩
    rw [sens_some]
    cases e : isSensor s n with
    | false =>
      rw [if_pos e] at k
      refine iteT ?_
      rw [no_S "sensor" "no sensor"]
      exact k _ (Same.refl _)
    | true =>
      rw [if_neg (by rw [e]; exact fun z => nomatch z)] at k
      refine iteF ⟨_, rfl, _, rfl, ar, _, _, _, rfl, rfl, SqL.of ha, atI_nat (j := 0) rfl, ?_⟩
      refine ⟨_, rfl, ar, _, _, _, rfl, rfl, SqL.of ha, atI_nat (j := 1) rfl, ?_⟩
      refine ⟨_, rfl, ar, _, _, _, rfl, rfl, SqL.of ha, atI_nat (j := 2) rfl, ?_⟩
      refine ⟨L, s, n, v, m, rfl, hh, op, wf, e, hv, hm, fun H1 L' s1 nw b1 => ?_⟩
      have wf1 : WF (minutes m (setSensor s n v)) := (wf.setS hv).minutes
      generalize minutes m (setSensor s n v) = t at b1 wf1 k
      have ft := wf1.few.ft
      obtain ⟨dy, hH1⟩ := b1.hat.h
      let fT : Thing → Words := fun x => [x.name, decimal x.is]
      refine ⟨L'.dt, _, b1.opn.dt, trivial, fun od => ?_⟩
      refine ⟨_, rfl, L'.h, _, dy, _, _, rfl, (upd_ne (ne_of hH1 b1.opn.dt (by intro z; cases z))).trans hH1, cl_House g, na_House_things g, lk_House_things .., ?_⟩
      refine ⟨L'.dt, od, _, rfl, upd_same, fun D nD => ?_⟩
      have nDt : L'.dt ≠ D := fun z => by rw [← z, upd_same] at nD; cases nD
      have nD0 : H1 D = none := by rw [upd_ne nDt.symm] at nD; exact nD
      refine lc_it (walk_itT b1.hat.lt) (fun i H' => Fr (At L'.dt) H1 H' ∧ H' L'.dt = some (.frz od (.dK (thingsK L'.ts t.things))) ∧ H' D = some (.lst ((((t.things.take i).map fT).map told).map vS)))
        ⟨Fr.at1.trans (Fr.new nD), (upd_ne nDt).trans upd_same, upd_same⟩ (fun i H' _ z => z.2.1) ?_ ?_
      · rintro i y H' H3 hi ⟨f3, hlk3, hD3⟩ ⟨T, l, x, hl, hx, rfl, hT, rfl⟩
        obtain ⟨x', hx', tx⟩ := paired_get b1.hat.ts hl
        rw [hx] at hx'; cases hx'
        obtain ⟨da, o, hv', q1, q2, q3⟩ := tx
        have sT := same_new (o := HO.tup [vS x.name, .ref l.a]) hT
        have q1' := sT _ _ (f3 _ _ q1 (ne_of q1 b1.opn.dt (by intro z; cases z)))
        have et : t.things.take (i + 1) = t.things.take i ++ [x] := by rw [List.take_succ, hx]; rfl
        have mem := List.mem_of_getElem? hx
        have hn := isName_len (wf1.names.tn x mem)
        have hi2 := (wf1.to x mem).is
        refine ⟨T, _, rfl, SqT.of upd_same, rfl, _, _, rfl, _, _, rfl, rfl, rfl, ?_⟩
        dsimp only [tYes]
        refine iteT ⟨_, rfl, _, rfl, l.a, _, da, _, _, rfl, q1', cl_Thing g, na_Thing_value g, lk_Thing_value .., x.name, x.is, rfl, by omega, by omega, ?_⟩
        have hD5 := sT _ _ hD3
        refine ⟨_, hD5, by rw [List.length_map, List.length_map, List.length_map, List.length_take, sizeLine_eq]; omega, ?_, ?_, ?_⟩
        · intro b u e n
          rw [upd_ne (ne_of_none e nD0)]; exact sT _ _ (f3 b u e n)
        · rw [upd_ne nDt]; exact sT _ _ hlk3
        · rw [upd_same, et, List.map_append, List.map_append, List.map_append]; rfl
      · rintro H3 ⟨f3, hlk3, hD3⟩
        refine ⟨hlk3, ?_⟩
        rw [List.take_length] at hD3
        have sm3 : Same H1 (upd H3 L'.dt (.dK (thingsK L'.ts t.things))) := f3.unlock b1.opn.dt
        refine ⟨D, (t.things.map fT).map told, rfl, (upd_ne nDt.symm).trans hD3, ?_, fun H5 s5 => ?_⟩
        · have := wlen_map_le (f := fT) (l := t.things) (n := 20) fun x hx => by
            have hn := isName_len (wf1.names.tn x hx)
            have hi2 := (wf1.to x hx).is
            have := dec_len (n := x.is) (k := 3) (by decide) (by omega)
            show wlen [x.name, decimal x.is] ≤ 20
            rw [wlen_cons, wlen_cons, wlen_nil]; omega
          omega
        · rw [← listed_eq]
          exact k _ (s1.trans (sm3.trans s5))
end
end Hw
end

/-! ## part V5 -/
section
set_option Elab.async false
set_option linter.all false
set_option maxRecDepth 100000
set_option maxHeartbeats 2000000
namespace Hw
open PySem PySem.Spec PyProof.Rows L2
open Hr01 (Bytes Words Term Sum Cond ascii isName num? term? digit small sum? parted Cmd Rule cmd? Thing House By byText thingsIn thingsOf valueOf termValue sumValue isSensor thingOf ruleOf leaves joined decimal told listed termText sumText condText wanted clamped looked become wasAt minute minutes taken withThing setSensor does no hangs ringed look restFrom thingText ruleText leafText over)
def isQ : Cmd → Bool
  | .state => true
  | .was .. => true
  | .list => true
  | .why .. => true
  | .whynot .. => true
  | .rings => true
  | .rest => true
  | .trial .. => true
  | _ => false
theorem isQ_change {c : Cmd} (h : isQ c = false) : isChange c := by cases c <;> first | trivial | cases h
theorem isQ_same (s : House) {c : Cmd} (h : isQ c = true) : (does s c).1 = s := by
  cases c with
  | state => rfl
  | was n t => rfl
  | list => rfl
  | why n =>
    show (Hr01.onThing s n _).1 = s
    cases e : thingOf s n with
    | none => rw [on_none e]
    | some x => rw [on_some e]
  | whynot n => rfl
  | rings => rfl
  | rest => rfl
  | trial n v m => rfl
  | _ => cases h
def QKEYS : List Str := ["state", "was", "list", "why", "whynot", "rings", "rest", "try"]
def QWORDS : List Bytes := [ascii "state", ascii "was", ascii "list", ascii "why", ascii "whynot", ascii "rings", ascii "rest", ascii "try"]
theorem QKEYS_eq : QKEYS = QWORDS.map S := by
  unfold QKEYS QWORDS
  simp only [List.map_cons, List.map_nil, S_of]
theorem qkeys_no {x : Bytes} (h : x ∉ QWORDS) : S x ∉ QKEYS := fun z => by
  rw [QKEYS_eq] at z
  obtain ⟨y, hy, e⟩ := List.mem_map.mp z
  exact h (S_inj e ▸ hy)
section
variable {P : Program} {w : World} {K : PySem.W.Frag} {mg : Str → Option Value} {base : Heap}
theorem qry_kd (g : Good w K mg) (k f : String) (h : ((k : Str), He.Dv.glo (f : Str)) ∈ t_QUERIES) : KDct K w (He.ga K "QUERIES") (S (ascii k)) (.ref (He.ga K f)) := by
  have T : He.dicW K (He.ga K "QUERIES") = some (He.keysIn w.params _) := g.tab 4 rfl
  obtain ⟨es, n, D⟩ := He.dicW_ok T
  obtain ⟨u, e, r⟩ := He.valsB_ok (g.x 28 (b := He.valsB K (He.ga K "QUERIES") t_QUERIES) rfl) h
  rw [← S_of]
  exact ⟨es, n, u, D.at_, D.lit, e, r⟩
def sp_is_query (K : PySem.W.Frag) : Sp := fun vs H Q _ => ∃ (us : List V) (x : Bytes) (c : Cmd), vs = [vS x] ∧ CmdIs H us x c ∧ Q (.bl (isQ c)) H
theorem sc_is_query : FnScope ["word"] ["word"] (defScope s_is_query) := ⟨rfl, rfl, rfl, by decide +kernel, rfl, by decide +kernel, by decide +kernel⟩
theorem ok_is_query (g : Good w K mg) : FnOk P w K mg base CX0 1 (He.ga K "is_query") (fdA K (He.ga K "is_query")) ["word"] (sp_is_query K) := by
  have T : He.dicW K (He.ga K "QUERIES") = some (He.keysIn w.params QKEYS) := g.tab 4 rfl
  obtain ⟨es, n, D⟩ := He.dicW_ok T
  refine (F_is_query g).ok sc_is_query (fun vs H Q E h => ?_) (fun cdv A outer s0 H vs Q E hr h => ⟨_, PSs.nox (pss_one (ps_ret (pe_cmpR (op_in_kd D) (pv 0) (pe_gR rfl (m_QUERIES g)) rfl))), ?_⟩)
  · obtain ⟨us, x, c, rfl, _⟩ := h; rfl
  · obtain ⟨us, x, c, rfl, ci, k⟩ := h
    cases c with
    | sensor n v =>
      obtain ⟨rfl, _⟩ := ci
      exact ⟨_, rfl, _, none, rfl, rfl, tab_none T (qkeys_no (by decide)), k⟩
    | thing n v =>
      obtain ⟨rfl, _⟩ := ci
      exact ⟨_, rfl, _, none, rfl, rfl, tab_none T (qkeys_no (by decide)), k⟩
    | set n v =>
      obtain ⟨rfl, _⟩ := ci
      exact ⟨_, rfl, _, none, rfl, rfl, tab_none T (qkeys_no (by decide)), k⟩
    | deaf n =>
      obtain ⟨rfl, _⟩ := ci
      exact ⟨_, rfl, _, none, rfl, rfl, tab_none T (qkeys_no (by decide)), k⟩
    | hears n =>
      obtain ⟨rfl, _⟩ := ci
      exact ⟨_, rfl, _, none, rfl, rfl, tab_none T (qkeys_no (by decide)), k⟩
    | hand n v =>
      obtain ⟨rfl, _⟩ := ci
      exact ⟨_, rfl, _, none, rfl, rfl, tab_none T (qkeys_no (by decide)), k⟩
    | hold n v p m =>
      obtain ⟨rfl, _⟩ := ci
      exact ⟨_, rfl, _, none, rfl, rfl, tab_none T (qkeys_no (by decide)), k⟩
    | free n =>
      obtain ⟨rfl, _⟩ := ci
      exact ⟨_, rfl, _, none, rfl, rfl, tab_none T (qkeys_no (by decide)), k⟩
    | drop n =>
      obtain ⟨rfl, _⟩ := ci
      exact ⟨_, rfl, _, none, rfl, rfl, tab_none T (qkeys_no (by decide)), k⟩
    | tick n =>
      obtain ⟨rfl, _⟩ := ci
      exact ⟨_, rfl, _, none, rfl, rfl, tab_none T (qkeys_no (by decide)), k⟩
    | state  =>
      obtain ⟨rfl, _⟩ := ci
      obtain ⟨es', n', u', e1, e2, e3, e4⟩ := qry_kd g "state" "tell_state" (by simp [t_QUERIES])
      exact ⟨_, rfl, _, some u', rfl, rfl, e3, k⟩
    | was n v =>
      obtain ⟨rfl, _⟩ := ci
      obtain ⟨es', n', u', e1, e2, e3, e4⟩ := qry_kd g "was" "tell_past" (by simp [t_QUERIES])
      exact ⟨_, rfl, _, some u', rfl, rfl, e3, k⟩
    | list  =>
      obtain ⟨rfl, _⟩ := ci
      obtain ⟨es', n', u', e1, e2, e3, e4⟩ := qry_kd g "list" "tell_rules" (by simp [t_QUERIES])
      exact ⟨_, rfl, _, some u', rfl, rfl, e3, k⟩
    | why n =>
      obtain ⟨rfl, _⟩ := ci
      obtain ⟨es', n', u', e1, e2, e3, e4⟩ := qry_kd g "why" "tell_why" (by simp [t_QUERIES])
      exact ⟨_, rfl, _, some u', rfl, rfl, e3, k⟩
    | whynot n =>
      obtain ⟨rfl, _⟩ := ci
      obtain ⟨es', n', u', e1, e2, e3, e4⟩ := qry_kd g "whynot" "tell_why_not" (by simp [t_QUERIES])
      exact ⟨_, rfl, _, some u', rfl, rfl, e3, k⟩
    | rings  =>
      obtain ⟨rfl, _⟩ := ci
      obtain ⟨es', n', u', e1, e2, e3, e4⟩ := qry_kd g "rings" "tell_rings" (by simp [t_QUERIES])
      exact ⟨_, rfl, _, some u', rfl, rfl, e3, k⟩
    | rest  =>
      obtain ⟨rfl, _⟩ := ci
      obtain ⟨es', n', u', e1, e2, e3, e4⟩ := qry_kd g "rest" "tell_rest" (by simp [t_QUERIES])
      exact ⟨_, rfl, _, some u', rfl, rfl, e3, k⟩
    | trial n v m =>
      obtain ⟨rfl, _⟩ := ci
      obtain ⟨es', n', u', e1, e2, e3, e4⟩ := qry_kd g "try" "tell_trial" (by simp [t_QUERIES])
      exact ⟨_, rfl, _, some u', rfl, rfl, e3, k⟩
    | rule r =>
      obtain ⟨rfl, _⟩ := ci
      exact ⟨_, rfl, _, none, rfl, rfl, tab_none T (qkeys_no (by decide)), k⟩
def sp_answer_query (K : PySem.W.Frag) : Sp := fun vs H Q _ => ∃ (L : Lay) (s : House) (pss : List (List Nat)) (ar : Addr) (us : List V) (x : Bytes) (c : Cmd), vs = [.ref L.h, vS x, .ref ar] ∧ H ar = some (.lst us) ∧ CmdIs H us x c ∧ COk c ∧ isQ c = true ∧ s.clock ≤ 99999 ∧ Live K H L s pss ∧ ∀ H', Same H H' → Q (vS (does s c).2) H'
theorem sc_answer_query : FnScope ["house", "word", "arguments", "tell"] ["house", "word", "arguments"] (defScope s_answer_query) := ⟨rfl, rfl, rfl, by decide +kernel, rfl, by decide +kernel, by decide +kernel⟩
theorem ok_answer_query (g : Good w K mg) : FnOk P w K mg base CX0 66 (He.ga K "answer_query") (fdA K (He.ga K "answer_query")) ["house", "word", "arguments"] (sp_answer_query K) := by
  refine (F_answer_query g).ok sc_answer_query (fun vs H Q E h => ?_) (fun cdv A outer s0 H vs Q E hr h => ?_)
  · obtain ⟨L, s, pss, ar, us, x, c, rfl, _⟩ := h; rfl
  · obtain ⟨L, s, pss, ar, us, x, c, rfl, ha, ci, co, ic, hc, lv, k⟩ := h
    cases c with
    | sensor _ _ => cases ic
    | thing _ _ => cases ic
    | set _ _ => cases ic
    | deaf _ => cases ic
    | hears _ => cases ic
    | hand _ _ => cases ic
    | hold _ _ _ _ => cases ic
    | free _ => cases ic
    | drop _ => cases ic
    | tick _ => cases ic
    | state  =>
      obtain ⟨rfl, rfl⟩ := ci
      refine ⟨_, PSs.nox (pss_cons (ps_set (i := 3) sc_answer_query.nd rfl (Or.inl rfl) (pe_ix ix_kdict (pe_gR rfl (m_QUERIES g)) (pv 1) (fun _ _ => rfl))) (pss_one (ps_ret (pe_callL (i := 3) (ok_tell_state g) (hr.mono (by decide)) rfl (Or.inl rfl) (F_tell_state g).kp (b_tell_state g) .nil pass0 (pa_cons (pv 0) (pa_cons (pv 2) pa_nil)))))), ?_⟩
      exact ⟨_, rfl, _, _, _, rfl, rfl, qry_kd g "state" "tell_state" (by simp [t_QUERIES]), rfl, _, rfl, _, rfl, L, s, ar, rfl, lv.hat, lv.opn, lv.wf, k⟩
    | was n v =>
      obtain ⟨rfl, rfl⟩ := ci
      refine ⟨_, PSs.nox (pss_cons (ps_set (i := 3) sc_answer_query.nd rfl (Or.inl rfl) (pe_ix ix_kdict (pe_gR rfl (m_QUERIES g)) (pv 1) (fun _ _ => rfl))) (pss_one (ps_ret (pe_callL (i := 3) (ok_tell_past g) (hr.mono (by decide)) rfl (Or.inl rfl) (F_tell_past g).kp (b_tell_past g) .nil pass0 (pa_cons (pv 0) (pa_cons (pv 2) pa_nil)))))), ?_⟩
      exact ⟨_, rfl, _, _, _, rfl, rfl, qry_kd g "was" "tell_past" (by simp [t_QUERIES]), rfl, _, rfl, _, rfl, L, s, pss, ar, n, v, rfl, ha, lv, hc, k _ (Same.refl _)⟩
    | list  =>
      obtain ⟨rfl, rfl⟩ := ci
      refine ⟨_, PSs.nox (pss_cons (ps_set (i := 3) sc_answer_query.nd rfl (Or.inl rfl) (pe_ix ix_kdict (pe_gR rfl (m_QUERIES g)) (pv 1) (fun _ _ => rfl))) (pss_one (ps_ret (pe_callL (i := 3) (ok_tell_rules g) (hr.mono (by decide)) rfl (Or.inl rfl) (F_tell_rules g).kp (b_tell_rules g) .nil pass0 (pa_cons (pv 0) (pa_cons (pv 2) pa_nil)))))), ?_⟩
      exact ⟨_, rfl, _, _, _, rfl, rfl, qry_kd g "list" "tell_rules" (by simp [t_QUERIES]), rfl, _, rfl, _, rfl, L, s, ar, rfl, lv.hat, lv.opn, lv.wf, k⟩
    | why n =>
      obtain ⟨rfl, rfl⟩ := ci
      refine ⟨_, PSs.nox (pss_cons (ps_set (i := 3) sc_answer_query.nd rfl (Or.inl rfl) (pe_ix ix_kdict (pe_gR rfl (m_QUERIES g)) (pv 1) (fun _ _ => rfl))) (pss_one (ps_ret (pe_callL (i := 3) (ok_tell_why g) (hr.mono (by decide)) rfl (Or.inl rfl) (F_tell_why g).kp (b_tell_why g) .nil pass0 (pa_cons (pv 0) (pa_cons (pv 2) pa_nil)))))), ?_⟩
      exact ⟨_, rfl, _, _, _, rfl, rfl, qry_kd g "why" "tell_why" (by simp [t_QUERIES]), rfl, _, rfl, _, rfl, L, s, ar, n, rfl, ha, lv.hat, lv.opn, lv.wf, k⟩
    | whynot n =>
      obtain ⟨rfl, rfl⟩ := ci
      refine ⟨_, PSs.nox (pss_cons (ps_set (i := 3) sc_answer_query.nd rfl (Or.inl rfl) (pe_ix ix_kdict (pe_gR rfl (m_QUERIES g)) (pv 1) (fun _ _ => rfl))) (pss_one (ps_ret (pe_callL (i := 3) (ok_tell_why_not g) (hr.mono (by decide)) rfl (Or.inl rfl) (F_tell_why_not g).kp (b_tell_why_not g) .nil pass0 (pa_cons (pv 0) (pa_cons (pv 2) pa_nil)))))), ?_⟩
      exact ⟨_, rfl, _, _, _, rfl, rfl, qry_kd g "whynot" "tell_why_not" (by simp [t_QUERIES]), rfl, _, rfl, _, rfl, L, s, ar, n, rfl, ha, lv.hat, lv.opn, lv.wf, k⟩
    | rings  =>
      obtain ⟨rfl, rfl⟩ := ci
      refine ⟨_, PSs.nox (pss_cons (ps_set (i := 3) sc_answer_query.nd rfl (Or.inl rfl) (pe_ix ix_kdict (pe_gR rfl (m_QUERIES g)) (pv 1) (fun _ _ => rfl))) (pss_one (ps_ret (pe_callL (i := 3) (ok_tell_rings g) (hr.mono (by decide)) rfl (Or.inl rfl) (F_tell_rings g).kp (b_tell_rings g) .nil pass0 (pa_cons (pv 0) (pa_cons (pv 2) pa_nil)))))), ?_⟩
      exact ⟨_, rfl, _, _, _, rfl, rfl, qry_kd g "rings" "tell_rings" (by simp [t_QUERIES]), rfl, _, rfl, _, rfl, L, s, ar, rfl, lv.hat, lv.sep, lv.opn, lv.wf, k⟩
    | rest  =>
      obtain ⟨rfl, rfl⟩ := ci
      refine ⟨_, PSs.nox (pss_cons (ps_set (i := 3) sc_answer_query.nd rfl (Or.inl rfl) (pe_ix ix_kdict (pe_gR rfl (m_QUERIES g)) (pv 1) (fun _ _ => rfl))) (pss_one (ps_ret (pe_callL (i := 3) (ok_tell_rest g) (hr.mono (by decide)) rfl (Or.inl rfl) (F_tell_rest g).kp (b_tell_rest g) .nil pass0 (pa_cons (pv 0) (pa_cons (pv 2) pa_nil)))))), ?_⟩
      exact ⟨_, rfl, _, _, _, rfl, rfl, qry_kd g "rest" "tell_rest" (by simp [t_QUERIES]), rfl, _, rfl, _, rfl, L, s, ar, rfl, lv.hat, lv.opn, lv.wf, k⟩
    | trial n v m =>
      obtain ⟨rfl, rfl⟩ := ci
      refine ⟨_, PSs.nox (pss_cons (ps_set (i := 3) sc_answer_query.nd rfl (Or.inl rfl) (pe_ix ix_kdict (pe_gR rfl (m_QUERIES g)) (pv 1) (fun _ _ => rfl))) (pss_one (ps_ret (pe_callL (i := 3) (ok_tell_trial g) (hr.mono (by decide)) rfl (Or.inl rfl) (F_tell_trial g).kp (b_tell_trial g) .nil pass0 (pa_cons (pv 0) (pa_cons (pv 2) pa_nil)))))), ?_⟩
      exact ⟨_, rfl, _, _, _, rfl, rfl, qry_kd g "try" "tell_trial" (by simp [t_QUERIES]), rfl, _, rfl, _, rfl, L, s, ar, n, v, m, rfl, ha, co.1, co.2, lv.hat, lv.opn, lv.wf, k⟩
    | rule _ => cases ic
end
end Hw
end

/-! ## part W0 -/
section
set_option Elab.async false
set_option linter.all false
set_option maxRecDepth 100000
set_option maxHeartbeats 2000000
namespace Hw
open PySem PySem.Spec PyProof.Rows L2
open Hr01 (Bytes Words Term Sum Cond ascii isName num? term? digit small sum? parted Cmd Rule cmd? Thing House By byText thingsIn thingsOf valueOf termValue sumValue isSensor thingOf ruleOf leaves joined decimal told listed termText sumText condText wanted clamped looked become wasAt minute minutes taken withThing setSensor does no hangs ringed look restFrom thingText ruleText leafText over)
/-! ### the clock -/
theorem onThing_clock {s : House} {n : Bytes} {f : Thing → House × Bytes} (h : ∀ x, (f x).1.clock = s.clock) : (Hr01.onThing s n f).1.clock = s.clock := by
  cases e : thingOf s n with
  | none => rw [on_none e]
  | some x => rw [on_some e]; exact h x
theorem does_clock (s : House) {c : Cmd} (h : COk c) : (does s c).1.clock ≤ s.clock + 500 := by
  cases q : isQ c with
  | true => rw [isQ_same s q]; omega
  | false =>
    cases c with
    | sensor n v =>
      unfold does; dsimp only; split
      · dsimp only; omega
      · split <;> dsimp only <;> omega
    | thing n v =>
      unfold does; dsimp only; split
      · dsimp only; omega
      · split <;> dsimp only <;> omega
    | set n v => unfold does; dsimp only; split <;> first | (dsimp only; omega) | exact Nat.le_add_right _ _
    | deaf n => exact Nat.le_trans (Nat.le_of_eq (onThing_clock fun x => rfl)) (Nat.le_add_right _ _)
    | hears n => exact Nat.le_trans (Nat.le_of_eq (onThing_clock fun x => rfl)) (Nat.le_add_right _ _)
    | hand n v => exact Nat.le_trans (Nat.le_of_eq (onThing_clock fun x => rfl)) (Nat.le_add_right _ _)
    | hold n v p m => exact Nat.le_trans (Nat.le_of_eq (onThing_clock fun x => rfl)) (Nat.le_add_right _ _)
    | free n =>
      refine Nat.le_trans (Nat.le_of_eq (onThing_clock fun x => ?_)) (Nat.le_add_right _ _)
      cases x.hold with
      | none => rfl
      | some y =>
        show (if s.clock < y.2.2 then _ else _ : House × Bytes).1.clock = s.clock
        split <;> rfl
    | rule r =>
      unfold does; dsimp only; split
      · dsimp only; omega
      · split
        · dsimp only; omega
        · split
          · dsimp only; omega
          · split <;> dsimp only <;> omega
    | drop n => unfold does; dsimp only; split <;> dsimp only <;> omega
    | tick n =>
      show (minutes n s).clock ≤ _
      rw [minutes_clock]
      have : n ≤ 500 := h
      omega
    | _ => cases q
theorem said_clock (s : House) {t : Bytes} (hl : t.length ≤ 160) : (Hr01.said s t).1.clock ≤ s.clock + 500 := by
  unfold Hr01.said
  cases e : cmd? (parted 32 t) with
  | none => exact Nat.le_add_right _ _
  | some c => exact does_clock s (cmd_cok e (by have := parted_len t; omega))
theorem stp_clock (s : House) (ns : List Int) : (stp s ns).clock ≤ s.clock + 500 := by
  unfold stp Hr01.step
  dsimp only
  split
  · exact Nat.le_add_right _ _
  · rename_i c
    refine said_clock s ?_
    rw [List.length_map]
    have : ¬ 160 < ns.length := fun z => c (.inl z)
    omega
/-! ### the house as it was -/
theorem Live.same {K : PySem.W.Frag} {H H' : Hp} {L : Lay} {s : House} {pss : List (List Nat)} (v : Live K H L s pss) (sm : Same H H') : Live K H' L s pss :=
  ⟨v.hat.same sm, v.sep, ⟨sm _ _ v.opn.ds, sm _ _ v.opn.dt, sm _ _ v.opn.dr⟩, v.wf, v.past.keep fun b xs e => sm _ _ e, v.hist⟩
theorem Did.of_same {K : PySem.W.Frag} {H H' : Hp} {L : Lay} {Q : VK} {r : House × Bytes} (k : Did K L H Q r) (sm : Same H H') : Did K L H' Q r := fun H2 L2 p2 v e f m =>
  k H2 L2 p2 v e (fun b o z n => f b o (sm b o z) n) fun b z => (m b z).imp id fun y => sm.free y
def txt (ns : List Int) : Bool := decide (ns.length ≤ 160) && ns.all fun z => decide (32 ≤ z) && decide (z ≤ 126)
section
variable {P : Program} {w : World} {K : PySem.W.Frag} {mg : Str → Option Value} {base : Heap}
def sp_is_text (K : PySem.W.Frag) : Sp := fun vs H Q _ => ∃ (a : Addr) (ns : List Int), vs = [.ref a] ∧ SqL K H a (ns.map V.int) ∧ ns.length ≤ 179 ∧ ∀ H', Same H H' → Q (.bl (txt ns)) H'
theorem sc_is_text : FnScope ["command", "byte"] ["command"] (defScope s_is_text) := ⟨rfl, rfl, rfl, by decide +kernel, rfl, by decide +kernel, by decide +kernel⟩
theorem ok_is_text (g : Good w K mg) : FnOk P w K mg base CX0 1 (He.ga K "is_text") (fdA K (He.ga K "is_text")) ["command"] (sp_is_text K) := by
  refine (F_is_text g).ok sc_is_text (fun vs H Q E h => ?_) (fun cdv A outer s0 H vs Q E hr h => ⟨_, PSs.nox (pss_one (ps_ret (pe_and (pe_cmpR op_le (pe_callB call_len rfl (fr_len g) (by decide +kernel) (pa_cons (pv 0) pa_nil)) (pe_gI rfl (i_LONGEST_COMMAND g)) (nomark _)) (pe_one (pe_callB (cr_all rfl) rfl (fr_all g) (by decide +kernel) (pa_cons (pe_lc (own := [("byte", 1)]) rfl sc_is_text.nd (pi_list (pv 0)) (blkOk_by (own := [("byte", 1)]) (N := ["command", "byte"]) (sc := defScope s_is_text) (by decide +kernel)) (fun _ _ _ _ _ => (pg_name (i := 1) sc_is_text.nd rfl (Or.inl rfl))) (fun _ _ _ _ _ => pts_nil) (fun _ _ _ _ _ => (pe_chain op_le op_le (pe_gI rfl (i_LEAST_BYTE g)) (pv 1) (pe_gI rfl (i_MOST_BYTE g))))) pa_nil)))))), ?_⟩)
  · obtain ⟨a, ns, rfl, _⟩ := h; rfl
  · obtain ⟨a, ns, rfl, hS, hl, k⟩ := h
    have q0 : LenV K (.ref a) H (ns.map V.int).length := Or.inl ⟨_, hS, rfl⟩
    refine ⟨_, rfl, _, _, rfl, q0, _, _, rfl, rfl, _, rfl, ?_⟩
    rw [List.length_map]
    by_cases c : ns.length ≤ 160
    · rw [decide_eq_true (by omega : ((ns.length : Nat) : Int) ≤ 160)]
      refine iteT ⟨_, rfl, a, rfl, ⟨_, hS⟩, fun D hD => ?_⟩
      refine lc_list (K := K) (a := a) (xs := ns.map V.int) (fun i H' => Same H H' ∧ H' D = some (.lst (((ns.take i).map fun z => decide (32 ≤ z) && decide (z ≤ 126)).map V.bl)))
        ⟨same_new hD, upd_same⟩ (fun i H' _ z => z.1.seq hS) ?_ ?_
      · rintro i y H' hi ⟨sm, hDi⟩
        rw [List.getElem?_map] at hi
        obtain ⟨n, hn, rfl⟩ := Option.map_eq_some_iff.mp hi
        refine ⟨rfl, ?_⟩
        dsimp only [tYes]
        refine iteT ?_
        have put : ∀ b : Bool, (decide (32 ≤ n) && decide (n ≤ 126)) = b → ∃ acc, H' D = some (.lst acc) ∧ acc.length < sizeLine ∧ Same H (upd H' D (.lst (acc ++ [V.bl b]))) ∧ upd H' D (.lst (acc ++ [V.bl b])) D = some (.lst (((ns.take (i + 1)).map fun z => decide (32 ≤ z) && decide (z ≤ 126)).map V.bl)) := fun b e => by
          refine ⟨_, hDi, by rw [List.length_map, List.length_map, List.length_take, sizeLine_eq]; omega, fun b o z => ?_, ?_⟩
          · rw [upd_ne (ne_of_none z hD)]; exact sm b o z
          · rw [upd_same, List.take_succ, hn, Option.toList_some, List.map_append, List.map_append, ← e]; rfl
        refine ⟨_, rfl, _, _, rfl, rfl, _, rfl, ?_⟩
        by_cases c1 : (32 : Int) ≤ n
        · rw [decide_eq_true c1]
          refine iteT ⟨_, _, rfl, rfl, ?_⟩
          exact put _ (by rw [decide_eq_true c1]; rfl)
        · rw [decide_eq_false c1]
          exact iteF (put _ (by rw [decide_eq_false c1]; rfl))
      · rintro H4 ⟨sm, hD4⟩
        rw [List.length_map, List.take_length] at hD4
        refine ⟨D, _, rfl, SqL.of hD4, ?_⟩
        have e : (ns.map fun z => decide (32 ≤ z) && decide (z ≤ 126)).all id = txt ns := by
          unfold txt
          rw [decide_eq_true c, List.all_map]; rfl
        rw [e]
        exact k _ sm
    · rw [decide_eq_false (by omega : ¬ ((ns.length : Nat) : Int) ≤ 160)]
      have e : txt ns = false := by unfold txt; rw [decide_eq_false c]; rfl
      rw [e] at k
      exact iteF (k _ (Same.refl _))
end
end Hw
end

/-! ## part W1 -/
section
set_option Elab.async false
set_option linter.all false
set_option maxRecDepth 100000
set_option maxHeartbeats 2000000
namespace Hw
open PySem PySem.Spec PyProof.Rows L2
open Hr01 (Bytes Words Term Sum Cond ascii isName num? term? digit small sum? parted Cmd Rule cmd? Thing House By byText thingsIn thingsOf valueOf termValue sumValue isSensor thingOf ruleOf leaves joined decimal told listed termText sumText condText wanted clamped looked become wasAt minute minutes taken withThing setSensor does no hangs ringed look restFrom thingText ruleText leafText over)
/-- what a command comes to -/
def told? (s : House) (ws : Words) : House × Bytes := match cmd? ws with
  | none => (s, no "form")
  | some c => does s c
section
variable {P : Program} {w : World} {K : PySem.W.Frag} {mg : Str → Option Value} {base : Heap}
def sp_reply (K : PySem.W.Frag) : Sp := fun vs H Q _ => ∃ (L : Lay) (s : House) (pss : List (List Nat)) (wl : Addr) (x : Bytes) (t : Words), vs = [.ref L.h, .ref wl] ∧ H wl = some (.lst ((x :: t).map vS)) ∧ WOk (x :: t) ∧ s.clock ≤ 90000 ∧ Live K H L s pss ∧ Did K L H Q (told? s (x :: t))
theorem sc_reply : FnScope ["house", "words", "arguments"] ["house", "words"] (defScope s_reply) := ⟨rfl, rfl, rfl, by decide +kernel, rfl, by decide +kernel, by decide +kernel⟩
theorem ok_reply (g : Good w K mg) : FnOk P w K mg base CX0 67 (He.ga K "reply") (fdA K (He.ga K "reply")) ["house", "words"] (sp_reply K) := by
  refine (F_reply g).ok sc_reply (fun vs H Q E h => ?_) (fun cdv A outer s0 H vs Q E hr h => ⟨_, PSs.nox (pss_cons (ps_try_only (tb := fun W => tAsg (tCallS (sp_read_arguments K) (WE W) (tCons (tVar 1) tNil)) (gName 2)) (ts := fun _ _ _ => tRet (tC (.str "no form"))) (Wout := fun _ _ _ _ => False) rfl rfl ⟨rfl, by decide, Or.inl (m_NoForm g)⟩ takes0 (fun W pn xe tk _ => pss_one (ps_set (i := 2) sc_reply.nd rfl (Or.inl rfl) (by exact (pe_callS (ok_read_arguments g) (hr.mono (by decide)) rfl (m_read_arguments g) (F_read_arguments g).kp (b_read_arguments g) (fun σ => passAt tk σ) (by exact (pa_cons (pv 1) pa_nil)))))) (fun a oe cls d pn hz hf => pss_one (ps_ret pe_str))) (pss_cons (ps_if (pt_val (pe_call (ok_is_query g) (hr.mono (by decide)) rfl (m_is_query g) (F_is_query g).kp (b_is_query g) .nil pass0 (pa_cons (pe_ix ix_list (pv 1) pe_int (fun _ _ => rfl)) pa_nil))) (pss_one (ps_ret (pe_call (ok_answer_query g) (hr.mono (by decide)) rfl (m_answer_query g) (F_answer_query g).kp (b_answer_query g) .nil pass0 (pa_cons (pv 0) (pa_cons (pe_ix ix_list (pv 1) pe_int (fun _ _ => rfl)) (pa_cons (pv 2) pa_nil)))))) pss_nil) (pss_one (ps_ret (pe_call (ok_change g) (hr.mono (by decide)) rfl (m_change g) (F_change g).kp (b_change g) .nil pass0 (pa_cons (pv 0) (pa_cons (pe_ix ix_list (pv 1) pe_int (fun _ _ => rfl)) (pa_cons (pv 2) pa_nil)))))))), ?_⟩)
  · obtain ⟨L, s, pss, wl, x, t, rfl, _⟩ := h; rfl
  · obtain ⟨L, s, pss, wl, x, t, rfl, hw, W, hc, lv, k⟩ := h
    refine ⟨_, rfl, wl, x, t, rfl, hw, W, fun e H' sm => ?_, fun c e H' p us sm np hp ca => ?_⟩
    · unfold told? at k
      rw [e] at k
      refine ⟨true, ex_NoForm g, fun _ a0 _ => ?_, fun q => Bool.noConfusion q⟩
      show Q (.str _) H'
      rw [no_S "form" "no form"]
      exact (k.of_same sm).same (lv.same sm) rfl
    · unfold told? at k
      rw [e] at k
      have ci := cmdIs ca
      have co : COk c := cmd_cok e (Nat.le_trans W.len (by decide))
      have k' := k.of_same sm
      have lv' := lv.same sm
      have hw' := sm _ _ hw
      refine ⟨_, rfl, wl, _, _, _, rfl, rfl, SqL.of hw', atI_nat (j := 0) rfl, us, x, c, rfl, ci, _, rfl, ?_⟩
      cases q : isQ c with
      | true =>
        refine iteT ⟨_, rfl, _, rfl, wl, _, _, _, rfl, rfl, SqL.of hw', atI_nat (j := 0) rfl, _, rfl, ?_⟩
        refine ⟨L, s, pss, p, us, x, c, rfl, hp, ci, co, q, by omega, lv', fun H2 s2 => ?_⟩
        refine k' _ L pss ?_ rfl (Fr.of_same s2) fun b m => .inl m
        rw [isQ_same s q]
        exact lv'.same s2
      | false =>
        refine iteF ⟨_, rfl, _, rfl, wl, _, _, _, rfl, rfl, SqL.of hw', atI_nat (j := 0) rfl, _, rfl, ?_⟩
        exact ⟨L, s, pss, p, us, x, c, rfl, hp, ci, co, isQ_change q, hc, lv', k'⟩
/-! say -/
theorem said_told (s : House) (l : Bytes) : told? s (parted 32 (sgs l)) = Hr01.said s l := by
  unfold told? Hr01.said
  rw [parted_sgs, cmd_ms]
  cases cmd? (parted 32 l) <;> rfl
theorem ans_no {s : House} {ns : List Int} (h : txt ns = false) : ans1 s ns = [-1] ∧ stp s ns = s := by
  have e : Hr01.LONG < ns.length ∨ (ns.all fun z => decide (32 ≤ z) && decide (z ≤ 126)) = false := by
    unfold txt at h
    rcases Bool.and_eq_false_iff.mp h with h | h
    · left
      have := of_decide_eq_false h
      show 160 < ns.length
      omega
    · exact .inr h
  have z : Hr01.step s (.say ns) = (s, ⟨-1, []⟩) := if_pos e
  unfold ans1 stp
  rw [z]; exact ⟨rfl, rfl⟩
theorem ans_yes {s : House} {ns : List Int} (h : txt ns = true) : ans1 s ns = (((Hr01.said s (ns.map Int.toNat)).2.length : Nat) : Int) :: (Hr01.said s (ns.map Int.toNat)).2.map (fun c : Nat => (c : Int)) ∧ stp s ns = (Hr01.said s (ns.map Int.toNat)).1 := by
  obtain ⟨h1, h2⟩ := Bool.and_eq_true_iff.mp h
  have h1 := of_decide_eq_true h1
  have e : ¬ (Hr01.LONG < ns.length ∨ (ns.all fun z => decide (32 ≤ z) && decide (z ≤ 126)) = false) := fun z => by
    rcases z with z | z
    · have z : 160 < ns.length := z
      omega
    · rw [h2] at z; cases z
  have z : Hr01.step s (.say ns) = ((Hr01.said s (ns.map Int.toNat)).1, ⟨((Hr01.said s (ns.map Int.toNat)).2.length : Int), (Hr01.said s (ns.map Int.toNat)).2.map fun (c : Nat) => (c : Int)⟩) := if_neg e
  unfold ans1 stp
  rw [z]; exact ⟨rfl, rfl⟩
theorem ns_nat {ns : List Int} (h : txt ns = true) : ns.map V.int = (ns.map Int.toNat).map (fun c : Nat => V.int (c : Nat)) ∧ (∀ c ∈ ns.map Int.toNat, 32 ≤ c ∧ c ≤ 126) ∧ (ns.map Int.toNat).length ≤ 160 := by
  obtain ⟨h1, h2⟩ := Bool.and_eq_true_iff.mp h
  have h1 := of_decide_eq_true h1
  have h3 : ∀ z ∈ ns, 32 ≤ z ∧ z ≤ 126 := fun z hz => by
    have := List.all_eq_true.mp h2 z hz
    simpa using this
  refine ⟨?_, fun c hc => ?_, by rw [List.length_map]; exact h1⟩
  · rw [List.map_map]
    refine List.map_congr_left fun z hz => ?_
    have := h3 z hz
    show V.int z = V.int (z.toNat : Nat)
    rw [Int.toNat_of_nonneg (by omega)]
  · obtain ⟨z, hz, rfl⟩ := List.mem_map.mp hc
    have := h3 z hz
    omega
def sp_say (K : PySem.W.Frag) : Sp := fun vs H Q _ => ∃ (L : Lay) (s : House) (pss : List (List Nat)) (a : Addr) (ns : List Int), vs = [.ref L.h, .ref a] ∧ SqL K H a (ns.map V.int) ∧ ns.length ≤ 179 ∧ s.clock ≤ 90000 ∧ (ans1 s ns).length ≤ 10000000 ∧ Live K H L s pss ∧
  ∀ H' L' pss' p, Live K H' L' (stp s ns) pss' → L'.h = L.h → Fr (MaL L) H H' → (∀ b, MaL L' b → MaL L b ∨ H b = none) → (∀ o, H p = some o → MaL L p) → H' p = some (.lst ((ans1 s ns).map V.int)) → Q (.ref p) H'
theorem sc_say : FnScope ["house", "command", "text", "sign"] ["house", "command"] (defScope s_say) := ⟨rfl, rfl, rfl, by decide +kernel, rfl, by decide +kernel, by decide +kernel⟩
theorem ok_say (g : Good w K mg) : FnOk P w K mg base CX0 68 (He.ga K "say") (fdA K (He.ga K "say")) ["house", "command"] (sp_say K) := by
  refine (F_say g).ok sc_say (fun vs H Q E h => ?_) (fun cdv A outer s0 H vs Q E hr h => ⟨_, PSs.nox (pss_cons (ps_if (pt_not (pt_val (pe_call (ok_is_text g) (hr.mono (by decide)) rfl (m_is_text g) (F_is_text g).kp (b_is_text g) .nil pass0 (pa_cons (pv 1) pa_nil)))) (pss_one (ps_ret (pe_lst (pa_cons (pe_un un_neg pe_int) pa_nil)))) pss_nil) (pss_cons (ps_set (i := 2) sc_say.nd rfl (Or.inl rfl) (pe_call (ok_reply g) (hr.mono (by decide)) rfl (m_reply g) (F_reply g).kp (b_reply g) .nil pass0 (pa_cons (pv 0) (pa_cons (pe_call (ok_words_of g) (hr.mono (by decide)) rfl (m_words_of g) (F_words_of g).kp (b_words_of g) .nil pass0 (pa_cons (pv 1) pa_nil)) pa_nil)))) (pss_one (ps_ret (pe_op op_cat (pe_lst (pa_cons (pe_callB call_len_str rfl (fr_len g) (by decide +kernel) (pa_cons (pv 2) pa_nil)) pa_nil)) (pe_lc (own := [("sign", 3)]) rfl sc_say.nd (pi_str (pv 2)) (blkOk_by (own := [("sign", 3)]) (N := ["house", "command", "text", "sign"]) (sc := defScope s_say) (by decide +kernel)) (fun _ _ _ _ _ => (pg_name (i := 3) sc_say.nd rfl (Or.inl rfl))) (fun _ _ _ _ _ => pts_nil) (fun _ _ _ _ _ => (pe_callB call_ord rfl (fr_ord g) (by decide +kernel) (pa_cons (pv 3) pa_nil))))))))), ?_⟩)
  · obtain ⟨L, s, pss, a, ns, rfl, _⟩ := h; rfl
  · obtain ⟨L, s, pss, a, ns, rfl, hS, hl, hc, al, lv, k⟩ := h
    refine ⟨_, rfl, a, ns, rfl, hS, hl, fun H1 s1 => ⟨_, rfl, ?_⟩⟩
    cases e : txt ns with
    | false =>
      obtain ⟨e1, e2⟩ := ans_no (s := s) e
      rw [e1, e2] at k
      refine iteT ⟨_, rfl, by show 1 ≤ sizeLine; decide, fun p np => ?_⟩
      have s2 := same_new (o := HO.lst [V.int (-1)]) np
      exact k _ L pss p (lv.same (s1.trans s2)) rfl (Fr.of_same (s1.trans s2)) (fun b m => .inl m) (fun o z => by rw [s1.free np] at z; cases z) upd_same
    | true =>
      obtain ⟨e1, e2⟩ := ans_yes (s := s) e
      rw [e1, e2] at k
      rw [e1] at al
      obtain ⟨en, hb, hz⟩ := ns_nat e
      generalize ns.map Int.toNat = l at en hb hz k al
      rw [en] at hS
      refine iteF ?_
      refine ⟨_, rfl, _, rfl, a, l, rfl, s1.seq hS, hz, hb, fun H2 wl s2 nw hw => ?_⟩
      cases ep : parted 32 (sgs l) with
      | nil => exact absurd ep (parted_ne _)
      | cons x t =>
        have W := words_ok hz
        have et := said_told s l
        rw [ep] at W hw et
        have sA := s1.trans s2
        have lv2 := lv.same sA
        refine ⟨L, s, pss, wl, x, t, rfl, hw, W, hc, lv2, fun H3 L3 pss3 v3 eh f3 m3 => ?_⟩
        rw [et] at v3 ⊢
        generalize Hr01.said s l = r at v3 k al
        obtain ⟨s', u⟩ := r
        dsimp only at v3 k al ⊢
        have ul : u.length < 10000000 := by
          rw [List.length_cons, List.length_map] at al
          omega
        refine ⟨_, rfl, _, rfl, by rw [S_len, sizeLine_eq]; omega, by show 1 ≤ sizeLine; decide, fun p1 np1 => ?_⟩
        have s4 := same_new (o := HO.lst [V.int ((S u).length : Nat)]) np1
        have h1 := upd_same (H := H3) (a := p1) (o := HO.lst [V.int ((S u).length : Nat)])
        generalize upd H3 p1 (HO.lst [V.int ((S u).length : Nat)]) = H4 at s4 h1
        refine ⟨_, rfl, _, rfl, fun D hD => ?_⟩
        refine ⟨fun i m H' => m = u.length - i ∧ i ≤ u.length ∧ Same H4 H' ∧ H' D = some (.lst ((u.take i).map fun c => V.int (c : Nat))), ⟨u.length, rfl, Nat.zero_le _, same_new hD, upd_same⟩, ?_⟩
        rintro i m H' ⟨rfl, hi, sm, hDi⟩
        have es : (S u).cps.size = u.length := by simp
        by_cases c : i < u.length
        · right
          refine ⟨by show i < (S u).cps.size; omega, fun H'' => Same H4 H'' ∧ H'' D = some (.lst ((u.take (i + 1)).map fun c => V.int (c : Nat))), fun H'' z => ⟨_, by omega, rfl, by omega, z.1, z.2⟩, ?_⟩
          rintro x1 H'' ⟨rfl, d, hd, rfl⟩
          have hd' : u[i]? = some d := by
            rw [← hd]; simp
          refine ⟨rfl, ?_⟩
          dsimp only [tYes]
          refine iteT ⟨_, rfl, _, rfl, rfl, _, hDi, by rw [List.length_map, List.length_take, sizeLine_eq]; omega, fun b o z => ?_, ?_⟩
          · rw [upd_ne (ne_of_none z hD)]; exact sm b o z
          · rw [upd_same, List.take_succ, hd', Option.toList_some, List.map_append]; rfl
        · left
          have ei : i = u.length := by omega
          subst ei
          rw [List.take_length] at hDi
          refine ⟨by show (S u).cps.size ≤ u.length; omega, ?_⟩
          refine ⟨p1, D, _, _, rfl, rfl, sm _ _ h1, hDi, by rw [List.length_map, sizeLine_eq]; simp only [List.length_cons, List.length_nil]; omega, fun p np => ?_⟩
          have s5 := same_new (o := HO.lst ([V.int ((S u).length : Nat)] ++ u.map fun c => V.int (c : Nat))) np
          have s35 : Same H3 (upd H' p (HO.lst ([V.int ((S u).length : Nat)] ++ u.map fun c => V.int (c : Nat)))) := (s4.trans sm).trans s5
          have fA : Fr (MaL L) H2 (upd H' p (HO.lst ([V.int ((S u).length : Nat)] ++ u.map fun c => V.int (c : Nat)))) := f3.trans (Fr.of_same s35)
          refine k _ L3 pss3 p (v3.same s35) eh ((Fr.of_same sA).trans fA) (fun b z => (m3 b z).imp id fun y => sA.free y) ?_ ?_
          · intro o z
            refine Classical.byContradiction fun n => ?_
            have z2 := sm _ _ (s4 _ _ (f3 _ _ (sA _ _ z) n))
            rw [np] at z2; cases z2
          · rw [upd_same, S_len]
            show some (HO.lst (V.int (u.length : Nat) :: _)) = some (HO.lst (V.int (u.length : Nat) :: _))
            rw [List.map_map]; rfl
end
end Hw
end

/-! ## part W2 -/
section
set_option Elab.async false
set_option linter.all false
set_option maxRecDepth 100000
set_option maxHeartbeats 2000000
namespace Hw
open PySem PySem.Spec PyProof.Rows L2
open Hr01 (Bytes Words Term Sum Cond ascii isName num? term? digit small sum? parted Cmd Rule cmd? Thing House By byText thingsIn thingsOf valueOf termValue sumValue isSensor thingOf ruleOf leaves joined decimal told listed termText sumText condText wanted clamped looked become wasAt minute minutes taken withThing setSensor does no hangs ringed look restFrom thingText ruleText leafText over)
/-! ### a list beside the house -/
theorem Live.beside {K : PySem.W.Frag} {H : Hp} {L : Lay} {s : House} {pss : List (List Nat)} (v : Live K H L s pss) {D : Addr} {xs ys : List V} (hD : H D = some (.lst xs)) (n : ¬ MaL L D) : Live K (upd H D (.lst ys)) L s pss := by
  have ne : ∀ b, MaL L b → b ≠ D := fun b m z => n (z ▸ m)
  refine ⟨v.hat.lists (M := fun b => b = D) (Fr.put rfl) (fun b m => ⟨xs, by rw [m]; exact hD⟩), v.sep, ⟨?_, ?_, ?_⟩, v.wf, ?_, v.hist⟩
  · rw [upd_ne (ne _ (.inr (.inr (.inl rfl))))]; exact v.opn.ds
  · rw [upd_ne (ne _ (.inr (.inr (.inr (.inl rfl)))))]; exact v.opn.dt
  · rw [upd_ne (ne _ (.inr (.inr (.inr (.inr rfl)))))]; exact v.opn.dr
  · refine paired_map2 v.past fun j l ps hl hp e => ?_
    rw [upd_ne (ne _ (.inr (.inl (List.mem_map.mpr ⟨l, List.mem_of_getElem? hl, rfl⟩))))]; exact e
/-- a new house -/
theorem Live.first {K : PySem.W.Frag} {H : Hp} {b db ds dt dr : Addr} (hb : H b = some (.ins (cHouse K) db (fsHouse 0 ds dt dr))) (e1 : H ds = some (.dK [])) (e2 : H dt = some (.dK [])) (e3 : H dr = some (.dK [])) (d1 : ds ≠ dt) (d2 : ds ≠ dr) (d3 : dt ≠ dr) :
    Live K H ⟨b, ds, dt, dr, [], []⟩ Hr01.start [] := by
  refine ⟨⟨⟨db, hb⟩, .inl e1, .inl e2, .inl e3, .nil, .nil⟩, ⟨List.nodup_nil, List.nodup_nil, List.nodup_nil, d1, d2, d3⟩, ⟨e1, e2, e3⟩, ?_, .nil, ⟨rfl, fun i l ps x h => by cases h⟩⟩
  exact ⟨⟨fun p h => absurd h List.not_mem_nil, fun p h => absurd h List.not_mem_nil, List.nodup_nil⟩, List.nodup_nil, ⟨by decide, by decide, by decide⟩, fun r h => absurd h List.not_mem_nil, fun r h => absurd h List.not_mem_nil, fun r h => absurd h List.not_mem_nil, fun r h => absurd h List.not_mem_nil, fun r h => absurd h List.not_mem_nil⟩
theorem flat_cut {a b : List (List Int)} {ns : List Int} : (flat (a ++ ns :: b)).length = (flat a).length + (ns.length + 3) + (flat b).length := by
  rw [flat_append]
  show (flat a ++ 1 :: (ns.length : Int) :: (ns ++ 0 :: flat b)).length = _
  simp only [List.length_append, List.length_cons]
  omega
theorem flat_size {a b : List (List Int)} {ns : List Int} : (flat (a ++ ns :: b))[(flat a).length + 1]? = some (ns.length : Int) := by
  rw [flat_append, List.getElem?_append_right (by omega)]
  show (1 :: (ns.length : Int) :: (ns ++ 0 :: flat b))[_]? = _
  rw [show (flat a).length + 1 - (flat a).length = 1 by omega]
  rfl
theorem flat_slice {a b : List (List Int)} {ns : List Int} : cutV ((flat (a ++ ns :: b)).map V.int) (some (((flat a).length + 2 : Nat) : Int)) (some (((flat a).length + 2 + ns.length : Nat) : Int)) = ns.map V.int := by
  unfold cutV
  have hl := flat_cut (a := a) (b := b) (ns := ns)
  rw [List.length_map, HT.sIx_nat, HT.sIx_nat, Nat.min_eq_left (by omega), Nat.min_eq_left (by omega), show (flat a).length + 2 + ns.length - ((flat a).length + 2) = ns.length by omega, ← List.map_drop, ← List.map_take]
  congr 1
  rw [flat_append, List.drop_append, List.drop_of_length_le (by omega), show (flat a).length + 2 - (flat a).length = 2 by omega, List.nil_append]
  show (ns ++ 0 :: flat b).take ns.length = ns
  rw [List.take_left']
  rfl
theorem flat_next {a : List (List Int)} {ns : List Int} : (flat (a ++ [ns])).length = (flat a).length + 2 + ns.length + 1 := by
  have := flat_cut (a := a) (b := []) (ns := ns)
  rw [this]
  show _ + 0 = _
  omega
section
variable {P : Program} {w : World} {K : PySem.W.Frag} {mg : Str → Option Value} {base : Heap}
def sp_answers (K : PySem.W.Frag) : Sp := fun vs H Q _ => ∃ (a : Addr) (nss : List (List Int)), vs = [.ref a] ∧ SqL K H a ((flat nss).map V.int) ∧ nss.length ≤ 60 ∧ (∀ ns ∈ nss, ns.length ≤ 179) ∧ (outs Hr01.start nss).length ≤ 10000000 ∧
  ∀ H' p, H' p = some (.lst ((outs Hr01.start nss).map V.int)) → Q (.ref p) H'
theorem sc_answers : FnScope ["calls", "house", "results", "place", "size", "start", "answer"] ["calls"] (defScope s_answers) := ⟨rfl, rfl, rfl, by decide +kernel, rfl, by decide +kernel, by decide +kernel⟩
/-- between two calls -/
structure Turn1 (K : PySem.W.Frag) (H H' : Hp) (a D : Addr) (nss pre rest : List (List Int)) (out : List Int) (L : Lay) (s : House) (pss : List (List Nat)) : Prop where
  cut : nss = pre ++ rest
  res : out ++ outs s rest = outs Hr01.start nss
  clk : s.clock ≤ 500 * pre.length
  sm : Same H H'
  old : ∀ b, MaL L b → H b = none
  lv : Live K H' L s pss
  hD : H' D = some (.lst (out.map V.int))
  nD : ¬ MaL L D
def Loop1 (K : PySem.W.Frag) (H : Hp) (a b D : Addr) (nss : List (List Int)) (m : Nat) (σ : L2.St) (H' : Hp) : Prop := ∃ (pre rest : List (List Int)) (out : List Int) (L : Lay) (s : House) (pss : List (List Nat)) (z4 z5 z6 : Option V), m = rest.length ∧ L.h = b ∧
  Turn1 K H H' a D nss pre rest out L s pss ∧ σ = [some (.ref a), some (.ref b), some (.ref D), some (.int ((flat pre).length : Nat)), z4, z5, z6]
theorem ok_answers (g : Good w K mg) : FnOk P w K mg base CX0 69 (He.ga K "answers") (fdA K (He.ga K "answers")) ["calls"] (sp_answers K) := by
  refine (F_answers g).ok sc_answers (fun vs H Q E h => ?_) (fun cdv A outer s0 H vs Q E hr h => ⟨_, PSs.nox (pss_cons (ps_set (i := 1) sc_answers.nd rfl (Or.inl rfl) (pe_make0 (mk_House g) (ok_House_init g) (hr.mono (by decide)) rfl (m_House g) (b_House_init g) .nil pass0)) (pss_cons (ps_set (i := 2) sc_answers.nd rfl (Or.inl rfl) (pe_lst pa_nil)) (pss_cons (ps_set (i := 3) sc_answers.nd rfl (Or.inl rfl) pe_int) (pss_cons (ps_while PassesOwn.never (pt_cmpR op_lt (pv 3) (pe_callB call_len rfl (fr_len g) (by decide +kernel) (pa_cons (pv 0) pa_nil)) (nomark _)) (pss_cons (ps_set (i := 4) sc_answers.nd rfl (Or.inl rfl) (pe_ix ix_list (pv 0) (pe_op op_add (pv 3) pe_int) (fun _ _ => rfl))) (pss_cons (ps_set (i := 5) sc_answers.nd rfl (Or.inl rfl) (pe_op op_add (pv 3) pe_int)) (pss_cons (ps_set (i := 6) sc_answers.nd rfl (Or.inl rfl) (pe_call (ok_say g) (hr.mono (by decide)) rfl (m_say g) (F_say g).kp (b_say g) .nil pass0 (pa_cons (pv 1) (pa_cons (pe_slice sl_list (pv 0) (po_some (pv 5)) (po_some (pe_op op_add (pv 5) (pv 4)))) pa_nil)))) (pss_cons (ps_expr (pe_bm PySem.F.plainAttrs_list PySem.F.slot_list_append PySem.F.type_list_append mt_append (pv 2) (pa_cons (pe_callB call_len rfl (fr_len g) (by decide +kernel) (pa_cons (pv 6) pa_nil)) pa_nil))) (pss_cons (ps_expr (pe_bm PySem.F.plainAttrs_list PySem.F.slot_list_extend PySem.F.type_list_extend mt_extend (pv 2) (pa_cons (pv 6) pa_nil))) (pss_one (ps_set (i := 3) sc_answers.nd rfl (Or.inl rfl) (pe_op op_add (pe_op op_add (pv 5) (pv 4)) pe_int))))))))) (pss_one (ps_ret (pv 2))))))), ?_⟩)
  · obtain ⟨a, nss, rfl, _⟩ := h; rfl
  · obtain ⟨a, nss, rfl, hS, hn, hl, ho, k⟩ := h
    intro b db nb ndb nn
    refine ⟨b, db, rfl, upd_same, fun H1 ds dt dr n1 n2 n3 d1 d2 d3 hb e1 e2 e3 f1 => ⟨rfl, ?_⟩⟩
    have s1 : Same H H1 := made_same nb ndb f1
    have m1 := made_none n1
    have m2 := made_none n2
    have m3 := made_none n3
    refine ⟨by show 0 ≤ sizeLine; decide, fun D nD => ?_⟩
    have s2 := same_new (o := HO.lst []) nD
    have hDn : H D = none := s1.free nD
    refine ⟨fun m σ H' => Loop1 K H a b D nss m σ H', ⟨nss.length, [], nss, [], ⟨b, ds, dt, dr, [], []⟩, Hr01.start, [], none, none, none, rfl, rfl, ⟨rfl, rfl, Nat.le_refl _, s1.trans s2, ?_, (Live.first hb e1 e2 e3 d1 d2 d3).same s2, upd_same, ?_⟩, rfl⟩, ?_⟩
    · rintro c ((rfl | m | m) | m | rfl | rfl | rfl)
      · exact nb
      · exact absurd m List.not_mem_nil
      · exact absurd m List.not_mem_nil
      · exact absurd m List.not_mem_nil
      · exact m1
      · exact m2
      · exact m3
    · rintro ((rfl | m | m) | m | rfl | rfl | rfl)
      · rw [nD] at hb; cases hb
      · exact absurd m List.not_mem_nil
      · exact absurd m List.not_mem_nil
      · exact absurd m List.not_mem_nil
      · rw [nD] at e1; cases e1
      · rw [nD] at e2; cases e2
      · rw [nD] at e3; cases e3
    · rintro m σ H' ⟨pre, rest, out, L, s, pss, z4, z5, z6, rfl, rfl, T, rfl⟩
      have hA := T.sm.seq hS
      have q0 : LenV K (.ref a) H' ((flat nss).map V.int).length := Or.inl ⟨_, hA, rfl⟩
      refine ⟨_, rfl, _, rfl, _, _, rfl, q0, _, _, rfl, rfl, _, rfl, ?_⟩
      rw [List.length_map]
      have lenO : out.length + (outs s rest).length ≤ 10000000 := by
        have := congrArg List.length T.res
        rw [List.length_append] at this
        omega
      cases rest with
      | nil =>
        have e : nss = pre := by rw [T.cut, List.append_nil]
        have er : outs Hr01.start nss = out := by rw [← T.res]; exact List.append_nil _
        rw [decide_eq_false (by rw [e]; omega)]
        refine iteF ⟨_, rfl, k _ _ ?_⟩
        rw [er]; exact T.hD
      | cons ns r =>
        have hc := flat_cut (a := pre) (b := r) (ns := ns)
        rw [← T.cut] at hc
        rw [decide_eq_true (by omega)]
        refine iteT ⟨fun σ' H' => ∃ m', m' < (ns :: r).length ∧ Loop1 K H a L.h D nss m' σ' H', fun σ' H' h => h, ?_⟩
        have atS : atI ((flat nss).map V.int) (((flat pre).length : Int) + 1) = some (V.int (ns.length : Int)) := by
          have z : (((flat pre).length : Int) + 1) = (((flat pre).length + 1 : Nat) : Int) := by omega
          rw [z]
          refine atI_nat ?_
          rw [List.getElem?_map, T.cut, flat_size]; rfl
        have ec : cutV ((flat nss).map V.int) (some (((flat pre).length : Int) + 2)) (some (((flat pre).length : Int) + 2 + (ns.length : Int))) = ns.map V.int := by
          rw [T.cut]
          exact flat_slice
        refine ⟨_, rfl, _, rfl, _, _, rfl, rfl, a, _, _, _, rfl, rfl, hA, atS, ?_⟩
        refine ⟨_, rfl, _, _, rfl, rfl, ?_⟩
        refine ⟨_, rfl, _, rfl, _, rfl, _, rfl, _, rfl, _, rfl, _, _, rfl, rfl, _, rfl, a, _, rfl, hA, fun p np => ?_⟩
        have hp : upd H' p (HO.lst (cutV ((flat nss).map V.int) (some (((flat pre).length : Int) + 2)) (some (((flat pre).length : Int) + 2 + (ns.length : Int))))) p = some (HO.lst (ns.map V.int)) := upd_same.trans (congrArg (fun z => some (HO.lst z)) ec)
        have s3 := same_new (o := HO.lst (cutV ((flat nss).map V.int) (some (((flat pre).length : Int) + 2)) (some (((flat pre).length : Int) + 2 + (ns.length : Int))))) np
        have pl : pre.length + (r.length + 1) ≤ 60 := by
          have := congrArg List.length T.cut
          rw [List.length_append, List.length_cons] at this
          omega
        have hck := T.clk
        have lenA : out.length + (1 + ((ans1 s ns).length + (outs (stp s ns) r).length)) ≤ 10000000 := by
          have z : (outs s (ns :: r)).length = 1 + ((ans1 s ns).length + (outs (stp s ns) r).length) := by
            show (((ans1 s ns).length : Int) :: (ans1 s ns ++ outs (stp s ns) r)).length = _
            rw [List.length_cons, List.length_append]; omega
          rw [z] at lenO; exact lenO
        refine ⟨L, s, pss, p, ns, rfl, SqL.of hp, hl ns (by rw [T.cut]; exact List.mem_append_right _ (List.mem_cons_self ..)), by omega, by omega, T.lv.same s3, fun H2 L2 pss2 q v2 eh f2 m2 nq hq => ?_⟩
        clear hp
        generalize upd H' p (HO.lst (cutV ((flat nss).map V.int) (some (((flat pre).length : Int) + 2)) (some (((flat pre).length : Int) + 2 + (ns.length : Int))))) = H1' at s3 f2 m2 nq
        have hD1 := s3 _ _ T.hD
        have hD2 := f2 _ _ hD1 T.nD
        have nD2 : ¬ MaL L2 D := fun z => by
          rcases m2 D z with y | y
          · exact T.nD y
          · rw [hD1] at y; cases y
        have qD : q ≠ D := fun z => by
          subst z
          exact T.nD (nq _ hD1)
        have q1 : LenV K (.ref q) H2 ((ans1 s ns).map V.int).length := Or.inl ⟨_, SqL.of hq, rfl⟩
        refine ⟨_, rfl, Or.inl ⟨rfl, _, SqL.of hD2⟩, _, rfl, _, _, rfl, q1, D, _, _, rfl, rfl, hD2, by rw [List.length_map, sizeLine_eq]; omega, ?_⟩
        have v3 := v2.beside (ys := out.map V.int ++ [V.int (((ans1 s ns).map V.int).length : Nat)]) hD2 nD2
        have hq3 : upd H2 D (.lst (out.map V.int ++ [V.int (((ans1 s ns).map V.int).length : Nat)])) q = some (.lst ((ans1 s ns).map V.int)) := (upd_ne qD).trans hq
        have hD3 : upd H2 D (.lst (out.map V.int ++ [V.int (((ans1 s ns).map V.int).length : Nat)])) D = some (.lst (out.map V.int ++ [V.int (((ans1 s ns).map V.int).length : Nat)])) := upd_same
        have k3 : ∀ c o, H2 c = some o → c ≠ D → upd H2 D (.lst (out.map V.int ++ [V.int (((ans1 s ns).map V.int).length : Nat)])) c = some o := fun c o e n => (upd_ne n).trans e
        generalize upd H2 D (.lst (out.map V.int ++ [V.int (((ans1 s ns).map V.int).length : Nat)])) = H3' at v3 hq3 hD3 k3
        refine ⟨_, rfl, Or.inl ⟨rfl, _, SqL.of hD3⟩, _, rfl, D, q, _, _, rfl, rfl, hD3, hq3, by rw [List.length_append, List.length_map, List.length_map, List.length_singleton, sizeLine_eq]; omega, ?_⟩
        refine ⟨_, rfl, _, rfl, _, _, rfl, rfl, _, _, rfl, rfl, ?_⟩
        refine ⟨r.length, Nat.lt_succ_self _, pre ++ [ns], r, out ++ ((ans1 s ns).length : Int) :: ans1 s ns, L2, stp s ns, pss2, some (.int (ns.length : Int)), some (.int (((flat pre).length : Int) + 2)), some (.ref q), rfl, eh, ⟨?_, ?_, ?_, ?_, ?_, v3.beside hD3 nD2, ?_, nD2⟩, ?_⟩
        · rw [T.cut, List.append_assoc]; rfl
        · rw [← T.res, List.append_assoc]; rfl
        · have := stp_clock s ns
          rw [List.length_append, List.length_singleton]
          omega
        · intro c o e
          have cD : c ≠ D := ne_of_none e hDn
          rw [upd_ne cD]
          refine k3 _ _ (f2 _ _ (s3 _ _ (T.sm _ _ e)) fun m => ?_) cD
          rw [T.old _ m] at e; cases e
        · intro c m
          rcases m2 c m with y | y
          · exact T.old _ y
          · exact T.sm.free (s3.free y)
        · rw [upd_same, List.length_map, List.map_append, List.append_assoc]; rfl
        · rw [flat_next]; rfl
end
end Hw
end

/-! ## part H3 -/
set_option Elab.async false
set_option linter.all false
set_option maxRecDepth 100000
set_option maxHeartbeats 2000000
namespace Hw
open PySem PySem.Spec PyProof.Rows L2
open PySem.W (OpenSpec Codec WalkOS WData)
/-! ### the row's call from the promise of its def, whatever the top has written -/
theorem walk_any {r : OpenSpec} {k : Nat} {q : Program} {loose : List Str} {XP : (Str → Option Value) → Heap → Prop} {YP : World → Heap → Prop} {d : DefRec} {ps : List Str} {sp : PySem.W.Frag → Sp}
    (hwell : r.wellSaid = true) (hlen : r.args.length = ps.length) (hr : Room k callerA)
    (F : ∀ (w : World) (mg : Str → Option Value) (f : Addr) (h : Heap), YP w h → h.Ns mainGlobals mg → mg d.name = some (.ref f) →
      ∃ (K : PySem.W.Frag) (fd : FuncData), K.In h ∧ (∀ (s : Shared) (us : List Value), us.length = ps.length → BindsTo s fd ⟨us, []⟩ (ps.zip us)) ∧
        ∀ base : Heap, FnOk r.prog w K mg base CX0 k f fd ps (sp K))
    (hsp : ∀ (K : PySem.W.Frag) (H : Hp) (xs : List V) (a : Codec.denoteAll r.args), Codec.app r.args r.asked a = true → DwAll K H xs (Codec.encAll r.args a) →
      sp K xs H (fun v H' => Dw K H' v (r.ret.enc (Codec.app r.args r.f a))) fun _ _ _ => False) :
    WalkOS q loose XP YP r d [] (fun f vs => PySem.call f vs) := by
  intro w t0 t1 mg mb G Y f o pm cd doc dV kV ho hd hcd hD hmg hg args vals as hpre hlay hrd hwl hlo
  obtain ⟨a, ea, asked⟩ := PySem.W.os_pre_some hpre
  obtain ⟨rfl, within⟩ := Codec.encAll_of_decAll r.args args a ea
  obtain ⟨K, fd, KX, bind, ok⟩ := F w mg f _ Y G.T.g hmg
  have run := spec_call (R := []) (cl := classAt t0.heap) (d0 := r.ret.enc (Codec.app r.args r.f a)) (CX := CX0) KX G.T.g G.T.b G.T.builtins G.T.nolimit hg hwl (pl_encAll _ _) (layable_weight hlay) hr (fun base _ _ => ok base) bind
    ((encAll_len _ _).trans hlen) (fun H xs _ hS => hsp K H xs a asked hS) (fun _ _ _ z => z)
  refine PySem.W.enter_call (codeAny_mono run fun r' t' z => ?_)
  obtain ⟨u, as', rfl, z1, z2, z3, z4⟩ := z
  exact ⟨.inl ⟨u, _, as', rfl, fun _ => rfl, z1, (OpenSpec.post_iff hwell within _ _).mpr rfl, fun y => Bool.noConfusion (show false = true from y)⟩, z2, z3, z4⟩
theorem good_of {w : World} {K : PySem.W.Frag} {h : Heap} {mg : Str → Option Value} (X : K.In h) (G : h.Ns mainGlobals mg) (e : obsX K = valX w) : Good w K mg :=
  ⟨e, fun _ _ z => PySem.W.mg_of X G z, fun _ z => PySem.W.mg_none_of X G z⟩
theorem call : WalkOS (PySem.W.view R.prog [114]) nms (PySem.W.XL (PySem.W.view R.prog [114]) []) hkX.says R (HandSHeadRun.topDef R.prog 114) [] fun f vs => PySem.call f vs := by
  refine walk_any (r := R) (k := 69) (ps := ["calls"]) (sp := sp_answers) said rfl ⟨rfl, by decide, by decide⟩ ?_ ?_
  · intro w mg f h Y G hmg0
    obtain ⟨K, KX, c⟩ := Y
    have g := good_of KX G c
    have en : (HandSHeadRun.topDef R.prog 114).name = ("answers" : Str) := by kernel_rfl
    have hmg : mg ("answers" : Str) = some (.ref f) := by rw [← en]; exact hmg0
    have e := hmg.symm.trans (m_answers g)
    cases e
    refine ⟨K, _, KX, ?_, fun base => ok_answers g⟩
    exact FunD.bindsA (ps := ["calls"]) (F_answers g) fun _ _ _ _ _ _ us hl => match us, hl with | [_], _ => rfl
  · intro K H xs a asked hx
    obtain ⟨l, _⟩ := a
    cases hx with
    | cons h1 h2 =>
      cases h2
      cases h1 with
      | lst hs ha =>
        have e := L2.ints_dw l _ ha
        subst e
        obtain ⟨nss, el, hn, hl, ea, ho⟩ := asked_open (l := l) asked
        refine ⟨_, nss, rfl, by rw [← el]; exact hs, hn, hl, ho, fun H' p hp => ?_⟩
        rw [← ea] at hp
        exact .lst (L2.SqL.of hp) (L2.dw_ints _)
end Hw
set_option maxRecDepth 100000 in
set_option maxHeartbeats 8000000 in
theorem PySem.Challenge.cw_houserulesbook_s01_answers_holds : PySem.Challenge.rw_houserulesbook_s01_answers.Holds := by
  exact Hw.head Hw.call
#print axioms PySem.Challenge.cw_houserulesbook_s01_answers_holds
