import PyProof.Rows.All
import Wide.All
import OpenK.AllK
import Wide.FinOn
import KE.KStateDown
import OpenK.Lit
import Lean
import HandS.ForMost
import HandS.ForExc
import HandS.IsInst
import HandS.Zip
import HandS.Rev
import HandS.Flow
import HandS.TupAny
import HandS.TupMul
import HandS.Defaults
import HandS.Evl
import HandS.WrittenGet
import HandS.Head0
import HandS.Head1
import HandS.Head2
import HandS.HeadEnd
import HandS.HeadHook1
import HandS.HeadHook2
import HandS.HeadHook3
import HandS.ListItems
import HandS.Deep
import HandS.Steps
import KE.GoesEnum
import HandS.Walk
import KE.DatumOrd
import HandS.SortKw
import HandS.List
import PySem.Challenge.RW_stopdesk_k18_whole_out_of_calls
set_option Elab.async false
set_option linter.all false
set_option maxRecDepth 100000
set_option maxHeartbeats 0
namespace S
open PySem PySem.Spec PyProof.Rows L2
def top (i : Nat) : Stmt := PySem.Challenge.pw_stopdesk_k18_whole_out_of_calls.main.body.getD i (.Pass ⟨0, 0, 0, 0⟩)
abbrev s_is_number : Stmt := top 17
abbrev s_can_be_held : Stmt := top 18
abbrev s_kinds_behind : Stmt := top 19
abbrev s_things_within : Stmt := top 20
abbrev s_Scope_init : Stmt := inClass (top 29) 0
abbrev s_check_count : Stmt := top 30
abbrev s_check_program : Stmt := top 31
abbrev s_is_part : Stmt := top 32
abbrev s__fault_of_head : Stmt := top 33
abbrev s__is_tuple_of : Stmt := top 34
abbrev s__is_fun : Stmt := top 35
abbrev s__has_names : Stmt := top 36
abbrev s__can_be_done : Stmt := top 37
abbrev s__check_body : Stmt := top 38
abbrev s__fault_by_limits : Stmt := top 39
abbrev s__fault_of : Stmt := top 40
abbrev s__has_shape : Stmt := top 41
abbrev s__is_of_kind : Stmt := top 42
abbrev s_reckoned : Stmt := top 44
abbrev s__things_of : Stmt := top 45
abbrev s__joined : Stmt := top 46
abbrev s_Stop_init : Stmt := inClass (top 48) 0
abbrev s_Stop_is_met : Stmt := inClass (top 48) 1
abbrev s_Going_init : Stmt := inClass (top 49) 0
abbrev s_Going_do_deed : Stmt := inClass (top 49) 1
abbrev s_Going_finish : Stmt := inClass (top 49) 2
abbrev s_Going_ending : Stmt := inClass (top 49) 4
abbrev s_Going__next_deed : Stmt := inClass (top 49) 5
abbrev s_Going__stop_met : Stmt := inClass (top 49) 6
abbrev s_Going__has_stepped : Stmt := inClass (top 49) 7
abbrev s_Block_init : Stmt := inClass (top 51) 0
abbrev s_Frame_init : Stmt := inClass (top 52) 0
abbrev s_Frame_deed : Stmt := inClass (top 52) 1
abbrev s_Frame_move_on : Stmt := inClass (top 52) 2
abbrev s_Frame_enter : Stmt := inClass (top 52) 3
abbrev s_Frame_find_deed : Stmt := inClass (top 52) 4
abbrev s_Hand_init : Stmt := inClass (top 53) 0
abbrev s_Hand_settle : Stmt := inClass (top 53) 1
abbrev s_Hand_end_fun : Stmt := inClass (top 53) 2
abbrev s_Deed_init : Stmt := inClass (top 55) 0
abbrev s_Layout_init : Stmt := inClass (top 56) 0
abbrev s_Layout__laid_out : Stmt := inClass (top 56) 1
abbrev s__bodies_in : Stmt := top 57
abbrev s_Machine_init : Stmt := inClass (top 60) 0
abbrev s_Machine_all_ended : Stmt := inClass (top 60) 1
abbrev s_Machine_next_hand : Stmt := inClass (top 60) 2
abbrev s_Machine_next_frame : Stmt := inClass (top 60) 3
abbrev s_Machine_do_next : Stmt := inClass (top 60) 4
abbrev s_Machine__begun : Stmt := inClass (top 60) 5
abbrev s_Machine__call : Stmt := inClass (top 60) 6
abbrev s_Machine__choose : Stmt := inClass (top 60) 7
abbrev s_Machine__note : Stmt := inClass (top 60) 8
abbrev s_Watched_init : Stmt := inClass (top 63) 0
abbrev s_Watched_stop : Stmt := inClass (top 63) 1
abbrev s_Watched_go : Stmt := inClass (top 63) 3
abbrev s_Watched_step : Stmt := inClass (top 63) 4
abbrev s_Watched_begin_go : Stmt := inClass (top 63) 5
abbrev s_Watched_begin_step : Stmt := inClass (top 63) 6
abbrev s_Watched_stack : Stmt := inClass (top 63) 7
abbrev s_Watched_look : Stmt := inClass (top 63) 8
abbrev s_Watched_put : Stmt := inClass (top 63) 10
abbrev s_Watched_cells : Stmt := inClass (top 63) 11
abbrev s_Watched_said : Stmt := inClass (top 63) 12
abbrev s_Watched_is_over : Stmt := inClass (top 63) 13
abbrev s_Watched__check_hand : Stmt := inClass (top 63) 14
abbrev s_Watched__frame : Stmt := inClass (top 63) 15
abbrev s__check_number : Stmt := top 64
abbrev s__law_dice : Stmt := top 66
abbrev s__law_next : Stmt := top 67
abbrev s__law_deep_one : Stmt := top 68
abbrev s_law : Stmt := top 69
def d_is_number : He.DefD := ⟨("is_number", none), "is_number", "is_number", defArgs s_is_number, defBody s_is_number, defScope s_is_number, [], []⟩
def d_can_be_held : He.DefD := ⟨("can_be_held", none), "can_be_held", "can_be_held", defArgs s_can_be_held, defBody s_can_be_held, defScope s_can_be_held, [], []⟩
def d_kinds_behind : He.DefD := ⟨("kinds_behind", none), "kinds_behind", "kinds_behind", defArgs s_kinds_behind, defBody s_kinds_behind, defScope s_kinds_behind, [], []⟩
def d_things_within : He.DefD := ⟨("things_within", none), "things_within", "things_within", defArgs s_things_within, defBody s_things_within, defScope s_things_within, [], []⟩
def d_Scope_init : He.DefD := ⟨("Scope", some "__init__"), "__init__", "Scope.__init__", defArgs s_Scope_init, defBody s_Scope_init, defScope s_Scope_init, [], []⟩
def d_check_count : He.DefD := ⟨("check_count", none), "check_count", "check_count", defArgs s_check_count, defBody s_check_count, defScope s_check_count, [], []⟩
def d_check_program : He.DefD := ⟨("check_program", none), "check_program", "check_program", defArgs s_check_program, defBody s_check_program, defScope s_check_program, [], []⟩
def d_is_part : He.DefD := ⟨("is_part", none), "is_part", "is_part", defArgs s_is_part, defBody s_is_part, defScope s_is_part, [], []⟩
def d__fault_of_head : He.DefD := ⟨("_fault_of_head", none), "_fault_of_head", "_fault_of_head", defArgs s__fault_of_head, defBody s__fault_of_head, defScope s__fault_of_head, [], []⟩
def d__is_tuple_of : He.DefD := ⟨("_is_tuple_of", none), "_is_tuple_of", "_is_tuple_of", defArgs s__is_tuple_of, defBody s__is_tuple_of, defScope s__is_tuple_of, [], []⟩
def d__is_fun : He.DefD := ⟨("_is_fun", none), "_is_fun", "_is_fun", defArgs s__is_fun, defBody s__is_fun, defScope s__is_fun, [], []⟩
def d__has_names : He.DefD := ⟨("_has_names", none), "_has_names", "_has_names", defArgs s__has_names, defBody s__has_names, defScope s__has_names, [], []⟩
def d__can_be_done : He.DefD := ⟨("_can_be_done", none), "_can_be_done", "_can_be_done", defArgs s__can_be_done, defBody s__can_be_done, defScope s__can_be_done, [], []⟩
def d__check_body : He.DefD := ⟨("_check_body", none), "_check_body", "_check_body", defArgs s__check_body, defBody s__check_body, defScope s__check_body, [], []⟩
def d__fault_by_limits : He.DefD := ⟨("_fault_by_limits", none), "_fault_by_limits", "_fault_by_limits", defArgs s__fault_by_limits, defBody s__fault_by_limits, defScope s__fault_by_limits, [], []⟩
def d__fault_of : He.DefD := ⟨("_fault_of", none), "_fault_of", "_fault_of", defArgs s__fault_of, defBody s__fault_of, defScope s__fault_of, [], []⟩
def d__has_shape : He.DefD := ⟨("_has_shape", none), "_has_shape", "_has_shape", defArgs s__has_shape, defBody s__has_shape, defScope s__has_shape, [], []⟩
def d__is_of_kind : He.DefD := ⟨("_is_of_kind", none), "_is_of_kind", "_is_of_kind", defArgs s__is_of_kind, defBody s__is_of_kind, defScope s__is_of_kind, [], []⟩
def d_reckoned : He.DefD := ⟨("reckoned", none), "reckoned", "reckoned", defArgs s_reckoned, defBody s_reckoned, defScope s_reckoned, [], []⟩
def d__things_of : He.DefD := ⟨("_things_of", none), "_things_of", "_things_of", defArgs s__things_of, defBody s__things_of, defScope s__things_of, [], []⟩
def d__joined : He.DefD := ⟨("_joined", none), "_joined", "_joined", defArgs s__joined, defBody s__joined, defScope s__joined, [], []⟩
def d_Stop_init : He.DefD := ⟨("Stop", some "__init__"), "__init__", "Stop.__init__", defArgs s_Stop_init, defBody s_Stop_init, defScope s_Stop_init, [], []⟩
def d_Stop_is_met : He.DefD := ⟨("Stop", some "is_met"), "is_met", "Stop.is_met", defArgs s_Stop_is_met, defBody s_Stop_is_met, defScope s_Stop_is_met, [], []⟩
def d_Going_init : He.DefD := ⟨("Going", some "__init__"), "__init__", "Going.__init__", defArgs s_Going_init, defBody s_Going_init, defScope s_Going_init, [], []⟩
def d_Going_do_deed : He.DefD := ⟨("Going", some "do_deed"), "do_deed", "Going.do_deed", defArgs s_Going_do_deed, defBody s_Going_do_deed, defScope s_Going_do_deed, [], []⟩
def d_Going_finish : He.DefD := ⟨("Going", some "finish"), "finish", "Going.finish", defArgs s_Going_finish, defBody s_Going_finish, defScope s_Going_finish, [], []⟩
def d_Going_ending : He.DefD := ⟨("Going", some "ending"), "ending", "Going.ending", defArgs s_Going_ending, defBody s_Going_ending, defScope s_Going_ending, [], []⟩
def d_Going__next_deed : He.DefD := ⟨("Going", some "_next_deed"), "_next_deed", "Going._next_deed", defArgs s_Going__next_deed, defBody s_Going__next_deed, defScope s_Going__next_deed, [], []⟩
def d_Going__stop_met : He.DefD := ⟨("Going", some "_stop_met"), "_stop_met", "Going._stop_met", defArgs s_Going__stop_met, defBody s_Going__stop_met, defScope s_Going__stop_met, [], []⟩
def d_Going__has_stepped : He.DefD := ⟨("Going", some "_has_stepped"), "_has_stepped", "Going._has_stepped", defArgs s_Going__has_stepped, defBody s_Going__has_stepped, defScope s_Going__has_stepped, [], []⟩
def d_Block_init : He.DefD := ⟨("Block", some "__init__"), "__init__", "Block.__init__", defArgs s_Block_init, defBody s_Block_init, defScope s_Block_init, [], []⟩
def d_Frame_init : He.DefD := ⟨("Frame", some "__init__"), "__init__", "Frame.__init__", defArgs s_Frame_init, defBody s_Frame_init, defScope s_Frame_init, [], []⟩
def d_Frame_deed : He.DefD := ⟨("Frame", some "deed"), "deed", "Frame.deed", defArgs s_Frame_deed, defBody s_Frame_deed, defScope s_Frame_deed, [], []⟩
def d_Frame_move_on : He.DefD := ⟨("Frame", some "move_on"), "move_on", "Frame.move_on", defArgs s_Frame_move_on, defBody s_Frame_move_on, defScope s_Frame_move_on, [], []⟩
def d_Frame_enter : He.DefD := ⟨("Frame", some "enter"), "enter", "Frame.enter", defArgs s_Frame_enter, defBody s_Frame_enter, defScope s_Frame_enter, [], []⟩
def d_Frame_find_deed : He.DefD := ⟨("Frame", some "find_deed"), "find_deed", "Frame.find_deed", defArgs s_Frame_find_deed, defBody s_Frame_find_deed, defScope s_Frame_find_deed, [], []⟩
def d_Hand_init : He.DefD := ⟨("Hand", some "__init__"), "__init__", "Hand.__init__", defArgs s_Hand_init, defBody s_Hand_init, defScope s_Hand_init, [], []⟩
def d_Hand_settle : He.DefD := ⟨("Hand", some "settle"), "settle", "Hand.settle", defArgs s_Hand_settle, defBody s_Hand_settle, defScope s_Hand_settle, [], []⟩
def d_Hand_end_fun : He.DefD := ⟨("Hand", some "end_fun"), "end_fun", "Hand.end_fun", defArgs s_Hand_end_fun, defBody s_Hand_end_fun, defScope s_Hand_end_fun, [], []⟩
def d_Deed_init : He.DefD := ⟨("Deed", some "__init__"), "__init__", "Deed.__init__", defArgs s_Deed_init, defBody s_Deed_init, defScope s_Deed_init, [], []⟩
def d_Layout_init : He.DefD := ⟨("Layout", some "__init__"), "__init__", "Layout.__init__", defArgs s_Layout_init, defBody s_Layout_init, defScope s_Layout_init, [], []⟩
def d_Layout__laid_out : He.DefD := ⟨("Layout", some "_laid_out"), "_laid_out", "Layout._laid_out", defArgs s_Layout__laid_out, defBody s_Layout__laid_out, defScope s_Layout__laid_out, [], []⟩
def d__bodies_in : He.DefD := ⟨("_bodies_in", none), "_bodies_in", "_bodies_in", defArgs s__bodies_in, defBody s__bodies_in, defScope s__bodies_in, [], []⟩
def d_Machine_init : He.DefD := ⟨("Machine", some "__init__"), "__init__", "Machine.__init__", defArgs s_Machine_init, defBody s_Machine_init, defScope s_Machine_init, [], []⟩
def d_Machine_all_ended : He.DefD := ⟨("Machine", some "all_ended"), "all_ended", "Machine.all_ended", defArgs s_Machine_all_ended, defBody s_Machine_all_ended, defScope s_Machine_all_ended, [], []⟩
def d_Machine_next_hand : He.DefD := ⟨("Machine", some "next_hand"), "next_hand", "Machine.next_hand", defArgs s_Machine_next_hand, defBody s_Machine_next_hand, defScope s_Machine_next_hand, [], []⟩
def d_Machine_next_frame : He.DefD := ⟨("Machine", some "next_frame"), "next_frame", "Machine.next_frame", defArgs s_Machine_next_frame, defBody s_Machine_next_frame, defScope s_Machine_next_frame, [], []⟩
def d_Machine_do_next : He.DefD := ⟨("Machine", some "do_next"), "do_next", "Machine.do_next", defArgs s_Machine_do_next, defBody s_Machine_do_next, defScope s_Machine_do_next, [], []⟩
def d_Machine__begun : He.DefD := ⟨("Machine", some "_begun"), "_begun", "Machine._begun", defArgs s_Machine__begun, defBody s_Machine__begun, defScope s_Machine__begun, [], []⟩
def d_Machine__call : He.DefD := ⟨("Machine", some "_call"), "_call", "Machine._call", defArgs s_Machine__call, defBody s_Machine__call, defScope s_Machine__call, [], []⟩
def d_Machine__choose : He.DefD := ⟨("Machine", some "_choose"), "_choose", "Machine._choose", defArgs s_Machine__choose, defBody s_Machine__choose, defScope s_Machine__choose, [], []⟩
def d_Machine__note : He.DefD := ⟨("Machine", some "_note"), "_note", "Machine._note", defArgs s_Machine__note, defBody s_Machine__note, defScope s_Machine__note, [], []⟩
def d_Watched_init : He.DefD := ⟨("Watched", some "__init__"), "__init__", "Watched.__init__", defArgs s_Watched_init, defBody s_Watched_init, defScope s_Watched_init, [], []⟩
def d_Watched_stop : He.DefD := ⟨("Watched", some "stop"), "stop", "Watched.stop", defArgs s_Watched_stop, defBody s_Watched_stop, defScope s_Watched_stop, [], []⟩
def d_Watched_go : He.DefD := ⟨("Watched", some "go"), "go", "Watched.go", defArgs s_Watched_go, defBody s_Watched_go, defScope s_Watched_go, [], []⟩
def d_Watched_step : He.DefD := ⟨("Watched", some "step"), "step", "Watched.step", defArgs s_Watched_step, defBody s_Watched_step, defScope s_Watched_step, [], []⟩
def d_Watched_begin_go : He.DefD := ⟨("Watched", some "begin_go"), "begin_go", "Watched.begin_go", defArgs s_Watched_begin_go, defBody s_Watched_begin_go, defScope s_Watched_begin_go, [], []⟩
def d_Watched_begin_step : He.DefD := ⟨("Watched", some "begin_step"), "begin_step", "Watched.begin_step", defArgs s_Watched_begin_step, defBody s_Watched_begin_step, defScope s_Watched_begin_step, [], []⟩
def d_Watched_stack : He.DefD := ⟨("Watched", some "stack"), "stack", "Watched.stack", defArgs s_Watched_stack, defBody s_Watched_stack, defScope s_Watched_stack, [], []⟩
def d_Watched_look : He.DefD := ⟨("Watched", some "look"), "look", "Watched.look", defArgs s_Watched_look, defBody s_Watched_look, defScope s_Watched_look, [], []⟩
def d_Watched_put : He.DefD := ⟨("Watched", some "put"), "put", "Watched.put", defArgs s_Watched_put, defBody s_Watched_put, defScope s_Watched_put, [], []⟩
def d_Watched_cells : He.DefD := ⟨("Watched", some "cells"), "cells", "Watched.cells", defArgs s_Watched_cells, defBody s_Watched_cells, defScope s_Watched_cells, [], []⟩
def d_Watched_said : He.DefD := ⟨("Watched", some "said"), "said", "Watched.said", defArgs s_Watched_said, defBody s_Watched_said, defScope s_Watched_said, [], []⟩
def d_Watched_is_over : He.DefD := ⟨("Watched", some "is_over"), "is_over", "Watched.is_over", defArgs s_Watched_is_over, defBody s_Watched_is_over, defScope s_Watched_is_over, [], []⟩
def d_Watched__check_hand : He.DefD := ⟨("Watched", some "_check_hand"), "_check_hand", "Watched._check_hand", defArgs s_Watched__check_hand, defBody s_Watched__check_hand, defScope s_Watched__check_hand, [], []⟩
def d_Watched__frame : He.DefD := ⟨("Watched", some "_frame"), "_frame", "Watched._frame", defArgs s_Watched__frame, defBody s_Watched__frame, defScope s_Watched__frame, [], []⟩
def d__check_number : He.DefD := ⟨("_check_number", none), "_check_number", "_check_number", defArgs s__check_number, defBody s__check_number, defScope s__check_number, [], []⟩
def d__law_dice : He.DefD := ⟨("_law_dice", none), "_law_dice", "_law_dice", defArgs s__law_dice, defBody s__law_dice, defScope s__law_dice, [], []⟩
def d__law_next : He.DefD := ⟨("_law_next", none), "_law_next", "_law_next", defArgs s__law_next, defBody s__law_next, defScope s__law_next, [], []⟩
def d__law_deep_one : He.DefD := ⟨("_law_deep_one", none), "_law_deep_one", "_law_deep_one", defArgs s__law_deep_one, defBody s__law_deep_one, defScope s__law_deep_one, [], []⟩
def d_law : He.DefD := ⟨("law", none), "law", "law", defArgs s_law, defBody s_law, defScope s_law, [], []⟩
def fn : List He.DefD := [d_is_number, d_can_be_held, d_kinds_behind, d_things_within, d_Scope_init, d_check_count, d_check_program, d_is_part, d__fault_of_head, d__is_tuple_of, d__is_fun, d__has_names, d__can_be_done, d__check_body, d__fault_by_limits, d__fault_of, d__has_shape, d__is_of_kind, d_reckoned, d__things_of, d__joined, d_Stop_init, d_Stop_is_met, d_Going_init, d_Going_do_deed, d_Going_finish, d_Going_ending, d_Going__next_deed, d_Going__stop_met, d_Going__has_stepped, d_Block_init, d_Frame_init, d_Frame_deed, d_Frame_move_on, d_Frame_enter, d_Frame_find_deed, d_Hand_init, d_Hand_settle, d_Hand_end_fun, d_Deed_init, d_Layout_init, d_Layout__laid_out, d__bodies_in, d_Machine_init, d_Machine_all_ended, d_Machine_next_hand, d_Machine_next_frame, d_Machine_do_next, d_Machine__begun, d_Machine__call, d_Machine__choose, d_Machine__note, d_Watched_init, d_Watched_stop, d_Watched_go, d_Watched_step, d_Watched_begin_go, d_Watched_begin_step, d_Watched_stack, d_Watched_look, d_Watched_put, d_Watched_cells, d_Watched_said, d_Watched_is_over, d_Watched__check_hand, d_Watched__frame, d__check_number, d__law_dice, d__law_next, d__law_deep_one, d_law]
def fa0 : List He.Fa := [.glo "is_number", .glo "can_be_held", .glo "kinds_behind", .glo "things_within", .meth "Scope" "__init__", .glo "check_count", .glo "check_program", .glo "is_part", .glo "_fault_of_head", .glo "_is_tuple_of", .glo "_is_fun", .glo "_has_names", .glo "_can_be_done", .glo "_check_body", .glo "_fault_by_limits", .glo "_fault_of", .glo "_has_shape", .glo "_is_of_kind", .glo "reckoned", .glo "_things_of", .glo "_joined", .meth "Stop" "__init__", .meth "Stop" "is_met", .meth "Going" "__init__", .meth "Going" "do_deed", .meth "Going" "finish", .meth "Going" "ending", .meth "Going" "_next_deed", .meth "Going" "_stop_met", .meth "Going" "_has_stepped", .meth "Block" "__init__", .meth "Frame" "__init__", .meth "Frame" "deed", .meth "Frame" "move_on", .meth "Frame" "enter", .meth "Frame" "find_deed", .meth "Hand" "__init__", .meth "Hand" "settle", .meth "Hand" "end_fun", .meth "Deed" "__init__"]
def fa1 : List He.Fa := [.meth "Layout" "__init__", .meth "Layout" "_laid_out", .glo "_bodies_in", .meth "Machine" "__init__", .meth "Machine" "all_ended", .meth "Machine" "next_hand", .meth "Machine" "next_frame", .meth "Machine" "do_next", .meth "Machine" "_begun", .meth "Machine" "_call", .meth "Machine" "_choose", .meth "Machine" "_note", .meth "Watched" "__init__", .meth "Watched" "stop", .meth "Watched" "go", .meth "Watched" "step", .meth "Watched" "begin_go", .meth "Watched" "begin_step", .meth "Watched" "stack", .meth "Watched" "look", .meth "Watched" "put", .meth "Watched" "cells", .meth "Watched" "said", .meth "Watched" "is_over", .meth "Watched" "_check_hand", .meth "Watched" "_frame", .glo "_check_number", .glo "_law_dice", .glo "_law_next", .glo "_law_deep_one", .glo "law", .glo "Scope", .cls "Scope", .noat "Scope" "many_cells", .noat "Scope" "many_names", .noat "Scope" "params", .mkr "Scope", .glo "Stop", .cls "Stop", .noat "Stop" "place"]
def fa2 : List He.Fa := [.noat "Stop" "hand", .noat "Stop" "wish", .mkr "Stop", .glo "Going", .cls "Going", .noat "Going" "machine", .noat "Going" "stops", .noat "Going" "hand", .noat "Going" "way", .noat "Going" "many", .noat "Going" "done", .noat "Going" "done_by_hand", .noat "Going" "depth", .mkr "Going", .glo "Block", .cls "Block", .noat "Block" "deeds", .noat "Block" "rounds", .noat "Block" "at", .mkr "Block", .glo "Frame", .cls "Frame", .noat "Frame" "fun", .noat "Frame" "names", .noat "Frame" "blocks", .mkr "Frame", .glo "Hand", .cls "Hand", .noat "Hand" "frames", .mkr "Hand", .glo "Deed", .cls "Deed", .noat "Deed" "place", .noat "Deed" "fun", .noat "Deed" "told", .noat "Deed" "bodies", .mkr "Deed", .glo "Layout", .cls "Layout", .noat "Layout" "deeds"]
def fa3 : List He.Fa := [.noat "Layout" "bodies", .mkr "Layout", .glo "Machine", .cls "Machine", .noat "Machine" "names_of", .noat "Machine" "layout", .noat "Machine" "held", .noat "Machine" "spoken", .noat "Machine" "hands", .noat "Machine" "up", .mkr "Machine", .glo "Watched", .cls "Watched", .noat "Watched" "machine", .noat "Watched" "program", .noat "Watched" "stops", .noat "Watched" "next_stop", .mkr "Watched", .int "MODULUS" 10007, .int "MOST_CELLS" 8, .int "MOST_FUNS" 4, .int "MOST_NAMES" 4, .int "MOST_HANDS" 3, .int "MOST_THINGS" 100, .int "MOST_ABOVE" 7, .int "MOST_DEEDS" 2000, .int "MOST_FRAMES" 20, .int "MOST_STOPS" 20, .glo "PARTS", .glo "DEEDS", .free "isinstance", .free "int", .free "bool", .free "zip", .free "len", .free "enumerate", .free "all", .free "tuple", .free "reversed", .free "str"]
def fa4 : List He.Fa := [.free "min", .free "list", .free "range"]
def fa : List He.Fa := fa0 ++ fa1 ++ fa2 ++ fa3 ++ fa4
def ts : List He.Tab := [((fun K => He.ga K "PARTS"), ["num", "name", "cell", "add", "take", "times", "less", "same"]), ((fun K => He.ga K "DEEDS"), ["set", "put", "say", "if", "again", "call", "return"])]
def tvs : List (Str × Str × List Str) := [("PARTS", "num", ["number"]), ("PARTS", "name", ["name"]), ("PARTS", "cell", ["cell"]), ("PARTS", "add", ["part", "part"]), ("PARTS", "take", ["part", "part"]), ("PARTS", "times", ["part", "part"]), ("PARTS", "less", ["part", "part"]), ("PARTS", "same", ["part", "part"]), ("DEEDS", "set", ["name", "part"]), ("DEEDS", "put", ["cell", "part"]), ("DEEDS", "say", ["part"]), ("DEEDS", "if", ["part", "body", "body"]), ("DEEDS", "again", ["part", "body"]), ("DEEDS", "call", ["fun", "parts", "name"]), ("DEEDS", "return", ["part"])]
def tvB (K : PySem.W.Frag) (q : Str × Str × List Str) : Bool := match PySem.W.nsIn K (He.ga K q.1) q.2.1 with
  | some (some (.ref t)) => (match K.lookup t with
    | some ⟨.type c, _, .seq its _, _⟩ => decide (c = "tuple") && (decide (its.size ≤ sizeLine) && He.relAll (q.2.2.map V.str) its.toList)
    | _ => false)
  | _ => false
def noneB (K : PySem.W.Frag) (q : Str × Str) : Bool := He.eqO (PySem.W.nsIn K (He.ga K q.1) q.2) (some none)
theorem tvB_ok {K : PySem.W.Frag} {q : Str × Str × List Str} (h : tvB K q = true) : ∃ t, PySem.W.nsIn K (He.ga K q.1) q.2.1 = some (some (.ref t)) ∧ ∀ H : Hp, SqT K H t (q.2.2.map V.str) := by
  unfold tvB at h
  split at h
  · rename_i t e
    split at h
    · rename_i c od its n sl e2
      obtain ⟨h1, h2⟩ := He.ba h
      obtain ⟨h3, h4⟩ := He.ba h2
      exact ⟨t, e, fun H => .inr ⟨_, its, n, e2, congrArg Value.type (of_decide_eq_true h1), rfl, of_decide_eq_true h3, He.relAll_ok h4⟩⟩
    · cases h
  · cases h
abbrev AlE : Type := He.AlT × Bool
def obsE (as : List Addr) (g : Addr → Option Obj) : AlE := (He.obsT fa fn ts (He.frG g as), tvs.all (tvB (He.frG g as)))
structure SaysE (w : World) (K : PySem.W.Frag) : Prop where
  t : He.SaysT fa fn ts w K
  v : tvs.all (tvB K) = true
def hookE (as : List Addr) : PySem.W.Hook where
  α := AlE
  obs := fun s => obsE as s.heap.get?
  val := fun w => (He.valT fn ts w, true)
  says := fun w h => ∃ K : PySem.W.Frag, K.In h ∧ SaysE w K
  of := fun _ _ e => ⟨_, He.frG_in, congrArg (fun z : AlE => z.1) e, congrArg (fun z : AlE => z.2) e⟩
  keeps := fun _ _ _ ⟨K, hK, c⟩ k => ⟨K, PySem.W.Frag.In.keeps hK k, c⟩
theorem obsE_eq {as : List Addr} {g : Addr → Option Obj} {s : Shared} (h : ∀ a, g a = s.heap.get? a) : obsE as g = (hookE as).obs s := by
  have e : g = s.heap.get? := funext h
  rw [e] <;> rfl
abbrev R : PySem.W.OpenRow := PySem.W.OpenLaw.row PySem.Challenge.rw_stopdesk_k18_whole_out_of_calls
def as0 : List Addr := [3, 164, 173, 187, 194, 201, 206, 221, 232, 239, 244, 249, 256, 263, 270, 277, 282, 289, 296, 301, 308, 315, 320, 327, 351, 419, 440, 489, 524, 545, 569, 580, 649, 773, 784, 791, 798, 805, 810, 165]
def as1 : List Addr := [166, 167, 168, 169, 170, 171, 172, 174, 175, 176, 177, 178, 179, 180, 186, 193, 200, 205, 220, 231, 238, 243, 248, 255, 262, 269, 276, 281, 288, 295, 300, 307, 314, 319, 326, 350, 418, 439, 488, 523]
def as2 : List Addr := [544, 568, 579, 648, 772, 783, 790, 797, 804, 809, 218, 341, 348, 369, 376, 383, 397, 404, 409, 416, 437, 458, 465, 472, 479, 486, 507, 514, 521, 542, 561, 566, 592, 599, 606, 613, 620, 627, 632, 639]
def as3 : List Addr := [646, 667, 674, 688, 695, 702, 709, 714, 721, 735, 742, 749, 756, 763, 770, 217, 340, 347, 368, 375, 382, 396, 403, 408, 415, 436, 457, 464, 471, 478, 485, 506, 513, 520, 541, 560, 565, 591, 598, 605]
def as4 : List Addr := [612, 619, 626, 631, 638, 645, 666, 673, 687, 694, 701, 708, 713, 720, 734, 741, 748, 755, 762, 769]
def as : List Addr := as0 ++ as1 ++ as2 ++ as3 ++ as4
abbrev hk : PySem.W.Hook := hookE as
def ob (s : PySem.W.SharedT) : AlE := obsE as (HandSHeadRun.getT s)
theorem ob_eq (s : PySem.W.SharedT) : ob s = hk.obs s.abs := obsE_eq (HandSHeadRun.getT_eq s)
def names0 : List Str := ["_wall", "DeskError", "BadProgram", "BadCount", "BadPlace", "NoHand", "BadWish", "BadWay", "Full", "NoFrame", "BadNumber", "Ended", "MODULUS", "PARTS", "DEEDS", "is_number", "can_be_held", "kinds_behind", "things_within", "MOST_CELLS"]
def names1 : List Str := ["MOST_FUNS", "MOST_NAMES", "MOST_HANDS", "MOST_THINGS", "MOST_ABOVE", "MOST_DEEDS", "Scope", "check_count", "check_program", "is_part", "_fault_of_head", "_is_tuple_of", "_is_fun", "_has_names", "_can_be_done", "_check_body", "_fault_by_limits", "_fault_of", "_has_shape", "_is_of_kind"]
def names2 : List Str := ["reckoned", "_things_of", "_joined", "Stop", "Going", "Block", "Frame", "Hand", "Deed", "Layout", "_bodies_in", "MOST_FRAMES", "Machine", "MOST_STOPS", "Watched", "_check_number", "_law_dice", "_law_next", "_law_deep_one"]
def names : List Str := names0 ++ names1 ++ names2
abbrev qv : Program := PySem.W.view R.prog [69]
theorem run0 (w : World) : HandSHeadRun.RunEq R qv hk ob 9000 names (w.withFollow "special-get-raises" false) := by
  intro os
  kernel_rfl
theorem run1 (w : World) : HandSHeadRun.RunEq R qv hk ob 9000 names (w.withFollow "special-get-raises" true) := by
  intro os
  kernel_rfl
theorem run (w : World) : HandSHeadRun.RunEq R qv hk ob 9000 names w := PySem.W.byRow2 "special-get-raises" (P := fun w => HandSHeadRun.RunEq R qv hk ob 9000 names w) run0 run1 w
end S
set_option Elab.async false
set_option linter.all false
set_option maxRecDepth 100000
set_option maxHeartbeats 4000000
namespace S
open PySem PySem.Spec PyProof.Rows L2
structure Tx (w : World) (K : PySem.W.Frag) (mg : Str → Option Value) : Prop where
  h : ∃ h : Heap, K.In h ∧ h.Ns mainGlobals mg
  c : SaysE w K
section
variable {w : World} {K : PySem.W.Frag} {mg : Str → Option Value}
theorem Tx.glo_is_number (T : Tx w K mg) : mg "is_number" = some (.ref (He.ga K "is_number")) := let ⟨_, X, G⟩ := T.h; He.glo_ok X G (T.c.t.d.fact 0 (f := .glo "is_number") rfl)
theorem Tx.glo_can_be_held (T : Tx w K mg) : mg "can_be_held" = some (.ref (He.ga K "can_be_held")) := let ⟨_, X, G⟩ := T.h; He.glo_ok X G (T.c.t.d.fact 1 (f := .glo "can_be_held") rfl)
theorem Tx.glo_kinds_behind (T : Tx w K mg) : mg "kinds_behind" = some (.ref (He.ga K "kinds_behind")) := let ⟨_, X, G⟩ := T.h; He.glo_ok X G (T.c.t.d.fact 2 (f := .glo "kinds_behind") rfl)
theorem Tx.glo_things_within (T : Tx w K mg) : mg "things_within" = some (.ref (He.ga K "things_within")) := let ⟨_, X, G⟩ := T.h; He.glo_ok X G (T.c.t.d.fact 3 (f := .glo "things_within") rfl)
theorem Tx.meth_Scope___init__ (T : Tx w K mg) : Meth K (He.ga K "Scope") "__init__" (He.ma K (He.ga K "Scope") "__init__") := He.meth_ok (T.c.t.d.fact 4 (f := .meth "Scope" "__init__") rfl)
theorem Tx.glo_check_count (T : Tx w K mg) : mg "check_count" = some (.ref (He.ga K "check_count")) := let ⟨_, X, G⟩ := T.h; He.glo_ok X G (T.c.t.d.fact 5 (f := .glo "check_count") rfl)
theorem Tx.glo_check_program (T : Tx w K mg) : mg "check_program" = some (.ref (He.ga K "check_program")) := let ⟨_, X, G⟩ := T.h; He.glo_ok X G (T.c.t.d.fact 6 (f := .glo "check_program") rfl)
theorem Tx.glo_is_part (T : Tx w K mg) : mg "is_part" = some (.ref (He.ga K "is_part")) := let ⟨_, X, G⟩ := T.h; He.glo_ok X G (T.c.t.d.fact 7 (f := .glo "is_part") rfl)
theorem Tx.glo__fault_of_head (T : Tx w K mg) : mg "_fault_of_head" = some (.ref (He.ga K "_fault_of_head")) := let ⟨_, X, G⟩ := T.h; He.glo_ok X G (T.c.t.d.fact 8 (f := .glo "_fault_of_head") rfl)
theorem Tx.glo__is_tuple_of (T : Tx w K mg) : mg "_is_tuple_of" = some (.ref (He.ga K "_is_tuple_of")) := let ⟨_, X, G⟩ := T.h; He.glo_ok X G (T.c.t.d.fact 9 (f := .glo "_is_tuple_of") rfl)
theorem Tx.glo__is_fun (T : Tx w K mg) : mg "_is_fun" = some (.ref (He.ga K "_is_fun")) := let ⟨_, X, G⟩ := T.h; He.glo_ok X G (T.c.t.d.fact 10 (f := .glo "_is_fun") rfl)
theorem Tx.glo__has_names (T : Tx w K mg) : mg "_has_names" = some (.ref (He.ga K "_has_names")) := let ⟨_, X, G⟩ := T.h; He.glo_ok X G (T.c.t.d.fact 11 (f := .glo "_has_names") rfl)
theorem Tx.glo__can_be_done (T : Tx w K mg) : mg "_can_be_done" = some (.ref (He.ga K "_can_be_done")) := let ⟨_, X, G⟩ := T.h; He.glo_ok X G (T.c.t.d.fact 12 (f := .glo "_can_be_done") rfl)
theorem Tx.glo__check_body (T : Tx w K mg) : mg "_check_body" = some (.ref (He.ga K "_check_body")) := let ⟨_, X, G⟩ := T.h; He.glo_ok X G (T.c.t.d.fact 13 (f := .glo "_check_body") rfl)
theorem Tx.glo__fault_by_limits (T : Tx w K mg) : mg "_fault_by_limits" = some (.ref (He.ga K "_fault_by_limits")) := let ⟨_, X, G⟩ := T.h; He.glo_ok X G (T.c.t.d.fact 14 (f := .glo "_fault_by_limits") rfl)
theorem Tx.glo__fault_of (T : Tx w K mg) : mg "_fault_of" = some (.ref (He.ga K "_fault_of")) := let ⟨_, X, G⟩ := T.h; He.glo_ok X G (T.c.t.d.fact 15 (f := .glo "_fault_of") rfl)
theorem Tx.glo__has_shape (T : Tx w K mg) : mg "_has_shape" = some (.ref (He.ga K "_has_shape")) := let ⟨_, X, G⟩ := T.h; He.glo_ok X G (T.c.t.d.fact 16 (f := .glo "_has_shape") rfl)
theorem Tx.glo__is_of_kind (T : Tx w K mg) : mg "_is_of_kind" = some (.ref (He.ga K "_is_of_kind")) := let ⟨_, X, G⟩ := T.h; He.glo_ok X G (T.c.t.d.fact 17 (f := .glo "_is_of_kind") rfl)
theorem Tx.glo_reckoned (T : Tx w K mg) : mg "reckoned" = some (.ref (He.ga K "reckoned")) := let ⟨_, X, G⟩ := T.h; He.glo_ok X G (T.c.t.d.fact 18 (f := .glo "reckoned") rfl)
theorem Tx.glo__things_of (T : Tx w K mg) : mg "_things_of" = some (.ref (He.ga K "_things_of")) := let ⟨_, X, G⟩ := T.h; He.glo_ok X G (T.c.t.d.fact 19 (f := .glo "_things_of") rfl)
theorem Tx.glo__joined (T : Tx w K mg) : mg "_joined" = some (.ref (He.ga K "_joined")) := let ⟨_, X, G⟩ := T.h; He.glo_ok X G (T.c.t.d.fact 20 (f := .glo "_joined") rfl)
theorem Tx.meth_Stop___init__ (T : Tx w K mg) : Meth K (He.ga K "Stop") "__init__" (He.ma K (He.ga K "Stop") "__init__") := He.meth_ok (T.c.t.d.fact 21 (f := .meth "Stop" "__init__") rfl)
theorem Tx.meth_Stop_is_met (T : Tx w K mg) : Meth K (He.ga K "Stop") "is_met" (He.ma K (He.ga K "Stop") "is_met") := He.meth_ok (T.c.t.d.fact 22 (f := .meth "Stop" "is_met") rfl)
theorem Tx.meth_Going___init__ (T : Tx w K mg) : Meth K (He.ga K "Going") "__init__" (He.ma K (He.ga K "Going") "__init__") := He.meth_ok (T.c.t.d.fact 23 (f := .meth "Going" "__init__") rfl)
theorem Tx.meth_Going_do_deed (T : Tx w K mg) : Meth K (He.ga K "Going") "do_deed" (He.ma K (He.ga K "Going") "do_deed") := He.meth_ok (T.c.t.d.fact 24 (f := .meth "Going" "do_deed") rfl)
theorem Tx.meth_Going_finish (T : Tx w K mg) : Meth K (He.ga K "Going") "finish" (He.ma K (He.ga K "Going") "finish") := He.meth_ok (T.c.t.d.fact 25 (f := .meth "Going" "finish") rfl)
theorem Tx.meth_Going_ending (T : Tx w K mg) : Meth K (He.ga K "Going") "ending" (He.ma K (He.ga K "Going") "ending") := He.meth_ok (T.c.t.d.fact 26 (f := .meth "Going" "ending") rfl)
theorem Tx.meth_Going__next_deed (T : Tx w K mg) : Meth K (He.ga K "Going") "_next_deed" (He.ma K (He.ga K "Going") "_next_deed") := He.meth_ok (T.c.t.d.fact 27 (f := .meth "Going" "_next_deed") rfl)
theorem Tx.meth_Going__stop_met (T : Tx w K mg) : Meth K (He.ga K "Going") "_stop_met" (He.ma K (He.ga K "Going") "_stop_met") := He.meth_ok (T.c.t.d.fact 28 (f := .meth "Going" "_stop_met") rfl)
theorem Tx.meth_Going__has_stepped (T : Tx w K mg) : Meth K (He.ga K "Going") "_has_stepped" (He.ma K (He.ga K "Going") "_has_stepped") := He.meth_ok (T.c.t.d.fact 29 (f := .meth "Going" "_has_stepped") rfl)
theorem Tx.meth_Block___init__ (T : Tx w K mg) : Meth K (He.ga K "Block") "__init__" (He.ma K (He.ga K "Block") "__init__") := He.meth_ok (T.c.t.d.fact 30 (f := .meth "Block" "__init__") rfl)
theorem Tx.meth_Frame___init__ (T : Tx w K mg) : Meth K (He.ga K "Frame") "__init__" (He.ma K (He.ga K "Frame") "__init__") := He.meth_ok (T.c.t.d.fact 31 (f := .meth "Frame" "__init__") rfl)
theorem Tx.meth_Frame_deed (T : Tx w K mg) : Meth K (He.ga K "Frame") "deed" (He.ma K (He.ga K "Frame") "deed") := He.meth_ok (T.c.t.d.fact 32 (f := .meth "Frame" "deed") rfl)
theorem Tx.meth_Frame_move_on (T : Tx w K mg) : Meth K (He.ga K "Frame") "move_on" (He.ma K (He.ga K "Frame") "move_on") := He.meth_ok (T.c.t.d.fact 33 (f := .meth "Frame" "move_on") rfl)
theorem Tx.meth_Frame_enter (T : Tx w K mg) : Meth K (He.ga K "Frame") "enter" (He.ma K (He.ga K "Frame") "enter") := He.meth_ok (T.c.t.d.fact 34 (f := .meth "Frame" "enter") rfl)
theorem Tx.meth_Frame_find_deed (T : Tx w K mg) : Meth K (He.ga K "Frame") "find_deed" (He.ma K (He.ga K "Frame") "find_deed") := He.meth_ok (T.c.t.d.fact 35 (f := .meth "Frame" "find_deed") rfl)
theorem Tx.meth_Hand___init__ (T : Tx w K mg) : Meth K (He.ga K "Hand") "__init__" (He.ma K (He.ga K "Hand") "__init__") := He.meth_ok (T.c.t.d.fact 36 (f := .meth "Hand" "__init__") rfl)
theorem Tx.meth_Hand_settle (T : Tx w K mg) : Meth K (He.ga K "Hand") "settle" (He.ma K (He.ga K "Hand") "settle") := He.meth_ok (T.c.t.d.fact 37 (f := .meth "Hand" "settle") rfl)
theorem Tx.meth_Hand_end_fun (T : Tx w K mg) : Meth K (He.ga K "Hand") "end_fun" (He.ma K (He.ga K "Hand") "end_fun") := He.meth_ok (T.c.t.d.fact 38 (f := .meth "Hand" "end_fun") rfl)
theorem Tx.meth_Deed___init__ (T : Tx w K mg) : Meth K (He.ga K "Deed") "__init__" (He.ma K (He.ga K "Deed") "__init__") := He.meth_ok (T.c.t.d.fact 39 (f := .meth "Deed" "__init__") rfl)
theorem Tx.meth_Layout___init__ (T : Tx w K mg) : Meth K (He.ga K "Layout") "__init__" (He.ma K (He.ga K "Layout") "__init__") := He.meth_ok (T.c.t.d.fact 40 (f := .meth "Layout" "__init__") rfl)
theorem Tx.meth_Layout__laid_out (T : Tx w K mg) : Meth K (He.ga K "Layout") "_laid_out" (He.ma K (He.ga K "Layout") "_laid_out") := He.meth_ok (T.c.t.d.fact 41 (f := .meth "Layout" "_laid_out") rfl)
theorem Tx.glo__bodies_in (T : Tx w K mg) : mg "_bodies_in" = some (.ref (He.ga K "_bodies_in")) := let ⟨_, X, G⟩ := T.h; He.glo_ok X G (T.c.t.d.fact 42 (f := .glo "_bodies_in") rfl)
theorem Tx.meth_Machine___init__ (T : Tx w K mg) : Meth K (He.ga K "Machine") "__init__" (He.ma K (He.ga K "Machine") "__init__") := He.meth_ok (T.c.t.d.fact 43 (f := .meth "Machine" "__init__") rfl)
theorem Tx.meth_Machine_all_ended (T : Tx w K mg) : Meth K (He.ga K "Machine") "all_ended" (He.ma K (He.ga K "Machine") "all_ended") := He.meth_ok (T.c.t.d.fact 44 (f := .meth "Machine" "all_ended") rfl)
theorem Tx.meth_Machine_next_hand (T : Tx w K mg) : Meth K (He.ga K "Machine") "next_hand" (He.ma K (He.ga K "Machine") "next_hand") := He.meth_ok (T.c.t.d.fact 45 (f := .meth "Machine" "next_hand") rfl)
theorem Tx.meth_Machine_next_frame (T : Tx w K mg) : Meth K (He.ga K "Machine") "next_frame" (He.ma K (He.ga K "Machine") "next_frame") := He.meth_ok (T.c.t.d.fact 46 (f := .meth "Machine" "next_frame") rfl)
theorem Tx.meth_Machine_do_next (T : Tx w K mg) : Meth K (He.ga K "Machine") "do_next" (He.ma K (He.ga K "Machine") "do_next") := He.meth_ok (T.c.t.d.fact 47 (f := .meth "Machine" "do_next") rfl)
theorem Tx.meth_Machine__begun (T : Tx w K mg) : Meth K (He.ga K "Machine") "_begun" (He.ma K (He.ga K "Machine") "_begun") := He.meth_ok (T.c.t.d.fact 48 (f := .meth "Machine" "_begun") rfl)
theorem Tx.meth_Machine__call (T : Tx w K mg) : Meth K (He.ga K "Machine") "_call" (He.ma K (He.ga K "Machine") "_call") := He.meth_ok (T.c.t.d.fact 49 (f := .meth "Machine" "_call") rfl)
theorem Tx.meth_Machine__choose (T : Tx w K mg) : Meth K (He.ga K "Machine") "_choose" (He.ma K (He.ga K "Machine") "_choose") := He.meth_ok (T.c.t.d.fact 50 (f := .meth "Machine" "_choose") rfl)
theorem Tx.meth_Machine__note (T : Tx w K mg) : Meth K (He.ga K "Machine") "_note" (He.ma K (He.ga K "Machine") "_note") := He.meth_ok (T.c.t.d.fact 51 (f := .meth "Machine" "_note") rfl)
theorem Tx.meth_Watched___init__ (T : Tx w K mg) : Meth K (He.ga K "Watched") "__init__" (He.ma K (He.ga K "Watched") "__init__") := He.meth_ok (T.c.t.d.fact 52 (f := .meth "Watched" "__init__") rfl)
theorem Tx.meth_Watched_stop (T : Tx w K mg) : Meth K (He.ga K "Watched") "stop" (He.ma K (He.ga K "Watched") "stop") := He.meth_ok (T.c.t.d.fact 53 (f := .meth "Watched" "stop") rfl)
theorem Tx.meth_Watched_go (T : Tx w K mg) : Meth K (He.ga K "Watched") "go" (He.ma K (He.ga K "Watched") "go") := He.meth_ok (T.c.t.d.fact 54 (f := .meth "Watched" "go") rfl)
theorem Tx.meth_Watched_step (T : Tx w K mg) : Meth K (He.ga K "Watched") "step" (He.ma K (He.ga K "Watched") "step") := He.meth_ok (T.c.t.d.fact 55 (f := .meth "Watched" "step") rfl)
theorem Tx.meth_Watched_begin_go (T : Tx w K mg) : Meth K (He.ga K "Watched") "begin_go" (He.ma K (He.ga K "Watched") "begin_go") := He.meth_ok (T.c.t.d.fact 56 (f := .meth "Watched" "begin_go") rfl)
theorem Tx.meth_Watched_begin_step (T : Tx w K mg) : Meth K (He.ga K "Watched") "begin_step" (He.ma K (He.ga K "Watched") "begin_step") := He.meth_ok (T.c.t.d.fact 57 (f := .meth "Watched" "begin_step") rfl)
theorem Tx.meth_Watched_stack (T : Tx w K mg) : Meth K (He.ga K "Watched") "stack" (He.ma K (He.ga K "Watched") "stack") := He.meth_ok (T.c.t.d.fact 58 (f := .meth "Watched" "stack") rfl)
theorem Tx.meth_Watched_look (T : Tx w K mg) : Meth K (He.ga K "Watched") "look" (He.ma K (He.ga K "Watched") "look") := He.meth_ok (T.c.t.d.fact 59 (f := .meth "Watched" "look") rfl)
theorem Tx.meth_Watched_put (T : Tx w K mg) : Meth K (He.ga K "Watched") "put" (He.ma K (He.ga K "Watched") "put") := He.meth_ok (T.c.t.d.fact 60 (f := .meth "Watched" "put") rfl)
theorem Tx.meth_Watched_cells (T : Tx w K mg) : Meth K (He.ga K "Watched") "cells" (He.ma K (He.ga K "Watched") "cells") := He.meth_ok (T.c.t.d.fact 61 (f := .meth "Watched" "cells") rfl)
theorem Tx.meth_Watched_said (T : Tx w K mg) : Meth K (He.ga K "Watched") "said" (He.ma K (He.ga K "Watched") "said") := He.meth_ok (T.c.t.d.fact 62 (f := .meth "Watched" "said") rfl)
theorem Tx.meth_Watched_is_over (T : Tx w K mg) : Meth K (He.ga K "Watched") "is_over" (He.ma K (He.ga K "Watched") "is_over") := He.meth_ok (T.c.t.d.fact 63 (f := .meth "Watched" "is_over") rfl)
theorem Tx.meth_Watched__check_hand (T : Tx w K mg) : Meth K (He.ga K "Watched") "_check_hand" (He.ma K (He.ga K "Watched") "_check_hand") := He.meth_ok (T.c.t.d.fact 64 (f := .meth "Watched" "_check_hand") rfl)
theorem Tx.meth_Watched__frame (T : Tx w K mg) : Meth K (He.ga K "Watched") "_frame" (He.ma K (He.ga K "Watched") "_frame") := He.meth_ok (T.c.t.d.fact 65 (f := .meth "Watched" "_frame") rfl)
theorem Tx.glo__check_number (T : Tx w K mg) : mg "_check_number" = some (.ref (He.ga K "_check_number")) := let ⟨_, X, G⟩ := T.h; He.glo_ok X G (T.c.t.d.fact 66 (f := .glo "_check_number") rfl)
theorem Tx.glo__law_dice (T : Tx w K mg) : mg "_law_dice" = some (.ref (He.ga K "_law_dice")) := let ⟨_, X, G⟩ := T.h; He.glo_ok X G (T.c.t.d.fact 67 (f := .glo "_law_dice") rfl)
theorem Tx.glo__law_next (T : Tx w K mg) : mg "_law_next" = some (.ref (He.ga K "_law_next")) := let ⟨_, X, G⟩ := T.h; He.glo_ok X G (T.c.t.d.fact 68 (f := .glo "_law_next") rfl)
theorem Tx.glo__law_deep_one (T : Tx w K mg) : mg "_law_deep_one" = some (.ref (He.ga K "_law_deep_one")) := let ⟨_, X, G⟩ := T.h; He.glo_ok X G (T.c.t.d.fact 69 (f := .glo "_law_deep_one") rfl)
theorem Tx.glo_law (T : Tx w K mg) : mg "law" = some (.ref (He.ga K "law")) := let ⟨_, X, G⟩ := T.h; He.glo_ok X G (T.c.t.d.fact 70 (f := .glo "law") rfl)
theorem Tx.glo_Scope (T : Tx w K mg) : mg "Scope" = some (.ref (He.ga K "Scope")) := let ⟨_, X, G⟩ := T.h; He.glo_ok X G (T.c.t.d.fact 71 (f := .glo "Scope") rfl)
theorem Tx.cls_Scope (T : Tx w K mg) : Cls K (He.ga K "Scope") := He.cls_ok (T.c.t.d.fact 72 (f := .cls "Scope") rfl)
theorem Tx.noat_Scope_many_cells (T : Tx w K mg) : NoAttr K (He.ga K "Scope") "many_cells" := He.noat_ok (T.c.t.d.fact 73 (f := .noat "Scope" "many_cells") rfl)
theorem Tx.noat_Scope_many_names (T : Tx w K mg) : NoAttr K (He.ga K "Scope") "many_names" := He.noat_ok (T.c.t.d.fact 74 (f := .noat "Scope" "many_names") rfl)
theorem Tx.noat_Scope_params (T : Tx w K mg) : NoAttr K (He.ga K "Scope") "params" := He.noat_ok (T.c.t.d.fact 75 (f := .noat "Scope" "params") rfl)
theorem Tx.mkr_Scope (T : Tx w K mg) : Mk K (He.ga K "Scope") (He.ma K (He.ga K "Scope") "__init__") := He.mkr_ok (T.c.t.d.fact 76 (f := .mkr "Scope") rfl)
theorem Tx.glo_Stop (T : Tx w K mg) : mg "Stop" = some (.ref (He.ga K "Stop")) := let ⟨_, X, G⟩ := T.h; He.glo_ok X G (T.c.t.d.fact 77 (f := .glo "Stop") rfl)
theorem Tx.cls_Stop (T : Tx w K mg) : Cls K (He.ga K "Stop") := He.cls_ok (T.c.t.d.fact 78 (f := .cls "Stop") rfl)
theorem Tx.noat_Stop_place (T : Tx w K mg) : NoAttr K (He.ga K "Stop") "place" := He.noat_ok (T.c.t.d.fact 79 (f := .noat "Stop" "place") rfl)
theorem Tx.noat_Stop_hand (T : Tx w K mg) : NoAttr K (He.ga K "Stop") "hand" := He.noat_ok (T.c.t.d.fact 80 (f := .noat "Stop" "hand") rfl)
theorem Tx.noat_Stop_wish (T : Tx w K mg) : NoAttr K (He.ga K "Stop") "wish" := He.noat_ok (T.c.t.d.fact 81 (f := .noat "Stop" "wish") rfl)
theorem Tx.mkr_Stop (T : Tx w K mg) : Mk K (He.ga K "Stop") (He.ma K (He.ga K "Stop") "__init__") := He.mkr_ok (T.c.t.d.fact 82 (f := .mkr "Stop") rfl)
theorem Tx.glo_Going (T : Tx w K mg) : mg "Going" = some (.ref (He.ga K "Going")) := let ⟨_, X, G⟩ := T.h; He.glo_ok X G (T.c.t.d.fact 83 (f := .glo "Going") rfl)
theorem Tx.cls_Going (T : Tx w K mg) : Cls K (He.ga K "Going") := He.cls_ok (T.c.t.d.fact 84 (f := .cls "Going") rfl)
theorem Tx.noat_Going_machine (T : Tx w K mg) : NoAttr K (He.ga K "Going") "machine" := He.noat_ok (T.c.t.d.fact 85 (f := .noat "Going" "machine") rfl)
theorem Tx.noat_Going_stops (T : Tx w K mg) : NoAttr K (He.ga K "Going") "stops" := He.noat_ok (T.c.t.d.fact 86 (f := .noat "Going" "stops") rfl)
theorem Tx.noat_Going_hand (T : Tx w K mg) : NoAttr K (He.ga K "Going") "hand" := He.noat_ok (T.c.t.d.fact 87 (f := .noat "Going" "hand") rfl)
theorem Tx.noat_Going_way (T : Tx w K mg) : NoAttr K (He.ga K "Going") "way" := He.noat_ok (T.c.t.d.fact 88 (f := .noat "Going" "way") rfl)
theorem Tx.noat_Going_many (T : Tx w K mg) : NoAttr K (He.ga K "Going") "many" := He.noat_ok (T.c.t.d.fact 89 (f := .noat "Going" "many") rfl)
theorem Tx.noat_Going_done (T : Tx w K mg) : NoAttr K (He.ga K "Going") "done" := He.noat_ok (T.c.t.d.fact 90 (f := .noat "Going" "done") rfl)
theorem Tx.noat_Going_done_by_hand (T : Tx w K mg) : NoAttr K (He.ga K "Going") "done_by_hand" := He.noat_ok (T.c.t.d.fact 91 (f := .noat "Going" "done_by_hand") rfl)
theorem Tx.noat_Going_depth (T : Tx w K mg) : NoAttr K (He.ga K "Going") "depth" := He.noat_ok (T.c.t.d.fact 92 (f := .noat "Going" "depth") rfl)
theorem Tx.mkr_Going (T : Tx w K mg) : Mk K (He.ga K "Going") (He.ma K (He.ga K "Going") "__init__") := He.mkr_ok (T.c.t.d.fact 93 (f := .mkr "Going") rfl)
theorem Tx.glo_Block (T : Tx w K mg) : mg "Block" = some (.ref (He.ga K "Block")) := let ⟨_, X, G⟩ := T.h; He.glo_ok X G (T.c.t.d.fact 94 (f := .glo "Block") rfl)
theorem Tx.cls_Block (T : Tx w K mg) : Cls K (He.ga K "Block") := He.cls_ok (T.c.t.d.fact 95 (f := .cls "Block") rfl)
theorem Tx.noat_Block_deeds (T : Tx w K mg) : NoAttr K (He.ga K "Block") "deeds" := He.noat_ok (T.c.t.d.fact 96 (f := .noat "Block" "deeds") rfl)
theorem Tx.noat_Block_rounds (T : Tx w K mg) : NoAttr K (He.ga K "Block") "rounds" := He.noat_ok (T.c.t.d.fact 97 (f := .noat "Block" "rounds") rfl)
theorem Tx.noat_Block_at (T : Tx w K mg) : NoAttr K (He.ga K "Block") "at" := He.noat_ok (T.c.t.d.fact 98 (f := .noat "Block" "at") rfl)
theorem Tx.mkr_Block (T : Tx w K mg) : Mk K (He.ga K "Block") (He.ma K (He.ga K "Block") "__init__") := He.mkr_ok (T.c.t.d.fact 99 (f := .mkr "Block") rfl)
theorem Tx.glo_Frame (T : Tx w K mg) : mg "Frame" = some (.ref (He.ga K "Frame")) := let ⟨_, X, G⟩ := T.h; He.glo_ok X G (T.c.t.d.fact 100 (f := .glo "Frame") rfl)
theorem Tx.cls_Frame (T : Tx w K mg) : Cls K (He.ga K "Frame") := He.cls_ok (T.c.t.d.fact 101 (f := .cls "Frame") rfl)
theorem Tx.noat_Frame_fun (T : Tx w K mg) : NoAttr K (He.ga K "Frame") "fun" := He.noat_ok (T.c.t.d.fact 102 (f := .noat "Frame" "fun") rfl)
theorem Tx.noat_Frame_names (T : Tx w K mg) : NoAttr K (He.ga K "Frame") "names" := He.noat_ok (T.c.t.d.fact 103 (f := .noat "Frame" "names") rfl)
theorem Tx.noat_Frame_blocks (T : Tx w K mg) : NoAttr K (He.ga K "Frame") "blocks" := He.noat_ok (T.c.t.d.fact 104 (f := .noat "Frame" "blocks") rfl)
theorem Tx.mkr_Frame (T : Tx w K mg) : Mk K (He.ga K "Frame") (He.ma K (He.ga K "Frame") "__init__") := He.mkr_ok (T.c.t.d.fact 105 (f := .mkr "Frame") rfl)
theorem Tx.glo_Hand (T : Tx w K mg) : mg "Hand" = some (.ref (He.ga K "Hand")) := let ⟨_, X, G⟩ := T.h; He.glo_ok X G (T.c.t.d.fact 106 (f := .glo "Hand") rfl)
theorem Tx.cls_Hand (T : Tx w K mg) : Cls K (He.ga K "Hand") := He.cls_ok (T.c.t.d.fact 107 (f := .cls "Hand") rfl)
theorem Tx.noat_Hand_frames (T : Tx w K mg) : NoAttr K (He.ga K "Hand") "frames" := He.noat_ok (T.c.t.d.fact 108 (f := .noat "Hand" "frames") rfl)
theorem Tx.mkr_Hand (T : Tx w K mg) : Mk K (He.ga K "Hand") (He.ma K (He.ga K "Hand") "__init__") := He.mkr_ok (T.c.t.d.fact 109 (f := .mkr "Hand") rfl)
theorem Tx.glo_Deed (T : Tx w K mg) : mg "Deed" = some (.ref (He.ga K "Deed")) := let ⟨_, X, G⟩ := T.h; He.glo_ok X G (T.c.t.d.fact 110 (f := .glo "Deed") rfl)
theorem Tx.cls_Deed (T : Tx w K mg) : Cls K (He.ga K "Deed") := He.cls_ok (T.c.t.d.fact 111 (f := .cls "Deed") rfl)
theorem Tx.noat_Deed_place (T : Tx w K mg) : NoAttr K (He.ga K "Deed") "place" := He.noat_ok (T.c.t.d.fact 112 (f := .noat "Deed" "place") rfl)
theorem Tx.noat_Deed_fun (T : Tx w K mg) : NoAttr K (He.ga K "Deed") "fun" := He.noat_ok (T.c.t.d.fact 113 (f := .noat "Deed" "fun") rfl)
theorem Tx.noat_Deed_told (T : Tx w K mg) : NoAttr K (He.ga K "Deed") "told" := He.noat_ok (T.c.t.d.fact 114 (f := .noat "Deed" "told") rfl)
theorem Tx.noat_Deed_bodies (T : Tx w K mg) : NoAttr K (He.ga K "Deed") "bodies" := He.noat_ok (T.c.t.d.fact 115 (f := .noat "Deed" "bodies") rfl)
theorem Tx.mkr_Deed (T : Tx w K mg) : Mk K (He.ga K "Deed") (He.ma K (He.ga K "Deed") "__init__") := He.mkr_ok (T.c.t.d.fact 116 (f := .mkr "Deed") rfl)
theorem Tx.glo_Layout (T : Tx w K mg) : mg "Layout" = some (.ref (He.ga K "Layout")) := let ⟨_, X, G⟩ := T.h; He.glo_ok X G (T.c.t.d.fact 117 (f := .glo "Layout") rfl)
theorem Tx.cls_Layout (T : Tx w K mg) : Cls K (He.ga K "Layout") := He.cls_ok (T.c.t.d.fact 118 (f := .cls "Layout") rfl)
theorem Tx.noat_Layout_deeds (T : Tx w K mg) : NoAttr K (He.ga K "Layout") "deeds" := He.noat_ok (T.c.t.d.fact 119 (f := .noat "Layout" "deeds") rfl)
theorem Tx.noat_Layout_bodies (T : Tx w K mg) : NoAttr K (He.ga K "Layout") "bodies" := He.noat_ok (T.c.t.d.fact 120 (f := .noat "Layout" "bodies") rfl)
theorem Tx.mkr_Layout (T : Tx w K mg) : Mk K (He.ga K "Layout") (He.ma K (He.ga K "Layout") "__init__") := He.mkr_ok (T.c.t.d.fact 121 (f := .mkr "Layout") rfl)
theorem Tx.glo_Machine (T : Tx w K mg) : mg "Machine" = some (.ref (He.ga K "Machine")) := let ⟨_, X, G⟩ := T.h; He.glo_ok X G (T.c.t.d.fact 122 (f := .glo "Machine") rfl)
theorem Tx.cls_Machine (T : Tx w K mg) : Cls K (He.ga K "Machine") := He.cls_ok (T.c.t.d.fact 123 (f := .cls "Machine") rfl)
theorem Tx.noat_Machine_names_of (T : Tx w K mg) : NoAttr K (He.ga K "Machine") "names_of" := He.noat_ok (T.c.t.d.fact 124 (f := .noat "Machine" "names_of") rfl)
theorem Tx.noat_Machine_layout (T : Tx w K mg) : NoAttr K (He.ga K "Machine") "layout" := He.noat_ok (T.c.t.d.fact 125 (f := .noat "Machine" "layout") rfl)
theorem Tx.noat_Machine_held (T : Tx w K mg) : NoAttr K (He.ga K "Machine") "held" := He.noat_ok (T.c.t.d.fact 126 (f := .noat "Machine" "held") rfl)
theorem Tx.noat_Machine_spoken (T : Tx w K mg) : NoAttr K (He.ga K "Machine") "spoken" := He.noat_ok (T.c.t.d.fact 127 (f := .noat "Machine" "spoken") rfl)
theorem Tx.noat_Machine_hands (T : Tx w K mg) : NoAttr K (He.ga K "Machine") "hands" := He.noat_ok (T.c.t.d.fact 128 (f := .noat "Machine" "hands") rfl)
theorem Tx.noat_Machine_up (T : Tx w K mg) : NoAttr K (He.ga K "Machine") "up" := He.noat_ok (T.c.t.d.fact 129 (f := .noat "Machine" "up") rfl)
theorem Tx.mkr_Machine (T : Tx w K mg) : Mk K (He.ga K "Machine") (He.ma K (He.ga K "Machine") "__init__") := He.mkr_ok (T.c.t.d.fact 130 (f := .mkr "Machine") rfl)
theorem Tx.glo_Watched (T : Tx w K mg) : mg "Watched" = some (.ref (He.ga K "Watched")) := let ⟨_, X, G⟩ := T.h; He.glo_ok X G (T.c.t.d.fact 131 (f := .glo "Watched") rfl)
theorem Tx.cls_Watched (T : Tx w K mg) : Cls K (He.ga K "Watched") := He.cls_ok (T.c.t.d.fact 132 (f := .cls "Watched") rfl)
theorem Tx.noat_Watched_machine (T : Tx w K mg) : NoAttr K (He.ga K "Watched") "machine" := He.noat_ok (T.c.t.d.fact 133 (f := .noat "Watched" "machine") rfl)
theorem Tx.noat_Watched_program (T : Tx w K mg) : NoAttr K (He.ga K "Watched") "program" := He.noat_ok (T.c.t.d.fact 134 (f := .noat "Watched" "program") rfl)
theorem Tx.noat_Watched_stops (T : Tx w K mg) : NoAttr K (He.ga K "Watched") "stops" := He.noat_ok (T.c.t.d.fact 135 (f := .noat "Watched" "stops") rfl)
theorem Tx.noat_Watched_next_stop (T : Tx w K mg) : NoAttr K (He.ga K "Watched") "next_stop" := He.noat_ok (T.c.t.d.fact 136 (f := .noat "Watched" "next_stop") rfl)
theorem Tx.mkr_Watched (T : Tx w K mg) : Mk K (He.ga K "Watched") (He.ma K (He.ga K "Watched") "__init__") := He.mkr_ok (T.c.t.d.fact 137 (f := .mkr "Watched") rfl)
theorem Tx.int_MODULUS (T : Tx w K mg) : ∃ t, mg "MODULUS" = some (.int 10007 t) := let ⟨_, X, G⟩ := T.h; He.int_ok X G (T.c.t.d.fact 138 (f := .int "MODULUS" 10007) rfl)
theorem Tx.int_MOST_CELLS (T : Tx w K mg) : ∃ t, mg "MOST_CELLS" = some (.int 8 t) := let ⟨_, X, G⟩ := T.h; He.int_ok X G (T.c.t.d.fact 139 (f := .int "MOST_CELLS" 8) rfl)
theorem Tx.int_MOST_FUNS (T : Tx w K mg) : ∃ t, mg "MOST_FUNS" = some (.int 4 t) := let ⟨_, X, G⟩ := T.h; He.int_ok X G (T.c.t.d.fact 140 (f := .int "MOST_FUNS" 4) rfl)
theorem Tx.int_MOST_NAMES (T : Tx w K mg) : ∃ t, mg "MOST_NAMES" = some (.int 4 t) := let ⟨_, X, G⟩ := T.h; He.int_ok X G (T.c.t.d.fact 141 (f := .int "MOST_NAMES" 4) rfl)
theorem Tx.int_MOST_HANDS (T : Tx w K mg) : ∃ t, mg "MOST_HANDS" = some (.int 3 t) := let ⟨_, X, G⟩ := T.h; He.int_ok X G (T.c.t.d.fact 142 (f := .int "MOST_HANDS" 3) rfl)
theorem Tx.int_MOST_THINGS (T : Tx w K mg) : ∃ t, mg "MOST_THINGS" = some (.int 100 t) := let ⟨_, X, G⟩ := T.h; He.int_ok X G (T.c.t.d.fact 143 (f := .int "MOST_THINGS" 100) rfl)
theorem Tx.int_MOST_ABOVE (T : Tx w K mg) : ∃ t, mg "MOST_ABOVE" = some (.int 7 t) := let ⟨_, X, G⟩ := T.h; He.int_ok X G (T.c.t.d.fact 144 (f := .int "MOST_ABOVE" 7) rfl)
theorem Tx.int_MOST_DEEDS (T : Tx w K mg) : ∃ t, mg "MOST_DEEDS" = some (.int 2000 t) := let ⟨_, X, G⟩ := T.h; He.int_ok X G (T.c.t.d.fact 145 (f := .int "MOST_DEEDS" 2000) rfl)
theorem Tx.int_MOST_FRAMES (T : Tx w K mg) : ∃ t, mg "MOST_FRAMES" = some (.int 20 t) := let ⟨_, X, G⟩ := T.h; He.int_ok X G (T.c.t.d.fact 146 (f := .int "MOST_FRAMES" 20) rfl)
theorem Tx.int_MOST_STOPS (T : Tx w K mg) : ∃ t, mg "MOST_STOPS" = some (.int 20 t) := let ⟨_, X, G⟩ := T.h; He.int_ok X G (T.c.t.d.fact 147 (f := .int "MOST_STOPS" 20) rfl)
theorem Tx.glo_PARTS (T : Tx w K mg) : mg "PARTS" = some (.ref (He.ga K "PARTS")) := let ⟨_, X, G⟩ := T.h; He.glo_ok X G (T.c.t.d.fact 148 (f := .glo "PARTS") rfl)
theorem Tx.glo_DEEDS (T : Tx w K mg) : mg "DEEDS" = some (.ref (He.ga K "DEEDS")) := let ⟨_, X, G⟩ := T.h; He.glo_ok X G (T.c.t.d.fact 149 (f := .glo "DEEDS") rfl)
theorem Tx.free_isinstance (T : Tx w K mg) : mg "isinstance" = none := let ⟨_, X, G⟩ := T.h; He.free_ok X G (T.c.t.d.fact 150 (f := .free "isinstance") rfl)
theorem Tx.free_int (T : Tx w K mg) : mg "int" = none := let ⟨_, X, G⟩ := T.h; He.free_ok X G (T.c.t.d.fact 151 (f := .free "int") rfl)
theorem Tx.free_bool (T : Tx w K mg) : mg "bool" = none := let ⟨_, X, G⟩ := T.h; He.free_ok X G (T.c.t.d.fact 152 (f := .free "bool") rfl)
theorem Tx.free_zip (T : Tx w K mg) : mg "zip" = none := let ⟨_, X, G⟩ := T.h; He.free_ok X G (T.c.t.d.fact 153 (f := .free "zip") rfl)
theorem Tx.free_len (T : Tx w K mg) : mg "len" = none := let ⟨_, X, G⟩ := T.h; He.free_ok X G (T.c.t.d.fact 154 (f := .free "len") rfl)
theorem Tx.free_enumerate (T : Tx w K mg) : mg "enumerate" = none := let ⟨_, X, G⟩ := T.h; He.free_ok X G (T.c.t.d.fact 155 (f := .free "enumerate") rfl)
theorem Tx.free_all (T : Tx w K mg) : mg "all" = none := let ⟨_, X, G⟩ := T.h; He.free_ok X G (T.c.t.d.fact 156 (f := .free "all") rfl)
theorem Tx.free_tuple (T : Tx w K mg) : mg "tuple" = none := let ⟨_, X, G⟩ := T.h; He.free_ok X G (T.c.t.d.fact 157 (f := .free "tuple") rfl)
theorem Tx.free_reversed (T : Tx w K mg) : mg "reversed" = none := let ⟨_, X, G⟩ := T.h; He.free_ok X G (T.c.t.d.fact 158 (f := .free "reversed") rfl)
theorem Tx.free_str (T : Tx w K mg) : mg "str" = none := let ⟨_, X, G⟩ := T.h; He.free_ok X G (T.c.t.d.fact 159 (f := .free "str") rfl)
theorem Tx.free_min (T : Tx w K mg) : mg "min" = none := let ⟨_, X, G⟩ := T.h; He.free_ok X G (T.c.t.d.fact 160 (f := .free "min") rfl)
theorem Tx.free_list (T : Tx w K mg) : mg "list" = none := let ⟨_, X, G⟩ := T.h; He.free_ok X G (T.c.t.d.fact 161 (f := .free "list") rfl)
theorem Tx.free_range (T : Tx w K mg) : mg "range" = none := let ⟨_, X, G⟩ := T.h; He.free_ok X G (T.c.t.d.fact 162 (f := .free "range") rfl)
theorem Tx.def_is_number (T : Tx w K mg) : ∃ fd, FunD K "is_number" "is_number" (defArgs s_is_number) (defBody s_is_number) (defScope s_is_number) [] [] (He.ga K "is_number") fd := T.c.t.d.def_ 0 (d := d_is_number) rfl
theorem Tx.def_can_be_held (T : Tx w K mg) : ∃ fd, FunD K "can_be_held" "can_be_held" (defArgs s_can_be_held) (defBody s_can_be_held) (defScope s_can_be_held) [] [] (He.ga K "can_be_held") fd := T.c.t.d.def_ 1 (d := d_can_be_held) rfl
theorem Tx.def_kinds_behind (T : Tx w K mg) : ∃ fd, FunD K "kinds_behind" "kinds_behind" (defArgs s_kinds_behind) (defBody s_kinds_behind) (defScope s_kinds_behind) [] [] (He.ga K "kinds_behind") fd := T.c.t.d.def_ 2 (d := d_kinds_behind) rfl
theorem Tx.def_things_within (T : Tx w K mg) : ∃ fd, FunD K "things_within" "things_within" (defArgs s_things_within) (defBody s_things_within) (defScope s_things_within) [] [] (He.ga K "things_within") fd := T.c.t.d.def_ 3 (d := d_things_within) rfl
theorem Tx.def_Scope_init (T : Tx w K mg) : ∃ fd, FunD K "__init__" "Scope.__init__" (defArgs s_Scope_init) (defBody s_Scope_init) (defScope s_Scope_init) [] [] (He.ma K (He.ga K "Scope") "__init__") fd := T.c.t.d.def_ 4 (d := d_Scope_init) rfl
theorem Tx.def_check_count (T : Tx w K mg) : ∃ fd, FunD K "check_count" "check_count" (defArgs s_check_count) (defBody s_check_count) (defScope s_check_count) [] [] (He.ga K "check_count") fd := T.c.t.d.def_ 5 (d := d_check_count) rfl
theorem Tx.def_check_program (T : Tx w K mg) : ∃ fd, FunD K "check_program" "check_program" (defArgs s_check_program) (defBody s_check_program) (defScope s_check_program) [] [] (He.ga K "check_program") fd := T.c.t.d.def_ 6 (d := d_check_program) rfl
theorem Tx.def_is_part (T : Tx w K mg) : ∃ fd, FunD K "is_part" "is_part" (defArgs s_is_part) (defBody s_is_part) (defScope s_is_part) [] [] (He.ga K "is_part") fd := T.c.t.d.def_ 7 (d := d_is_part) rfl
theorem Tx.def__fault_of_head (T : Tx w K mg) : ∃ fd, FunD K "_fault_of_head" "_fault_of_head" (defArgs s__fault_of_head) (defBody s__fault_of_head) (defScope s__fault_of_head) [] [] (He.ga K "_fault_of_head") fd := T.c.t.d.def_ 8 (d := d__fault_of_head) rfl
theorem Tx.def__is_tuple_of (T : Tx w K mg) : ∃ fd, FunD K "_is_tuple_of" "_is_tuple_of" (defArgs s__is_tuple_of) (defBody s__is_tuple_of) (defScope s__is_tuple_of) [] [] (He.ga K "_is_tuple_of") fd := T.c.t.d.def_ 9 (d := d__is_tuple_of) rfl
theorem Tx.def__is_fun (T : Tx w K mg) : ∃ fd, FunD K "_is_fun" "_is_fun" (defArgs s__is_fun) (defBody s__is_fun) (defScope s__is_fun) [] [] (He.ga K "_is_fun") fd := T.c.t.d.def_ 10 (d := d__is_fun) rfl
theorem Tx.def__has_names (T : Tx w K mg) : ∃ fd, FunD K "_has_names" "_has_names" (defArgs s__has_names) (defBody s__has_names) (defScope s__has_names) [] [] (He.ga K "_has_names") fd := T.c.t.d.def_ 11 (d := d__has_names) rfl
theorem Tx.def__can_be_done (T : Tx w K mg) : ∃ fd, FunD K "_can_be_done" "_can_be_done" (defArgs s__can_be_done) (defBody s__can_be_done) (defScope s__can_be_done) [] [] (He.ga K "_can_be_done") fd := T.c.t.d.def_ 12 (d := d__can_be_done) rfl
theorem Tx.def__check_body (T : Tx w K mg) : ∃ fd, FunD K "_check_body" "_check_body" (defArgs s__check_body) (defBody s__check_body) (defScope s__check_body) [] [] (He.ga K "_check_body") fd := T.c.t.d.def_ 13 (d := d__check_body) rfl
theorem Tx.def__fault_by_limits (T : Tx w K mg) : ∃ fd, FunD K "_fault_by_limits" "_fault_by_limits" (defArgs s__fault_by_limits) (defBody s__fault_by_limits) (defScope s__fault_by_limits) [] [] (He.ga K "_fault_by_limits") fd := T.c.t.d.def_ 14 (d := d__fault_by_limits) rfl
theorem Tx.def__fault_of (T : Tx w K mg) : ∃ fd, FunD K "_fault_of" "_fault_of" (defArgs s__fault_of) (defBody s__fault_of) (defScope s__fault_of) [] [] (He.ga K "_fault_of") fd := T.c.t.d.def_ 15 (d := d__fault_of) rfl
theorem Tx.def__has_shape (T : Tx w K mg) : ∃ fd, FunD K "_has_shape" "_has_shape" (defArgs s__has_shape) (defBody s__has_shape) (defScope s__has_shape) [] [] (He.ga K "_has_shape") fd := T.c.t.d.def_ 16 (d := d__has_shape) rfl
theorem Tx.def__is_of_kind (T : Tx w K mg) : ∃ fd, FunD K "_is_of_kind" "_is_of_kind" (defArgs s__is_of_kind) (defBody s__is_of_kind) (defScope s__is_of_kind) [] [] (He.ga K "_is_of_kind") fd := T.c.t.d.def_ 17 (d := d__is_of_kind) rfl
theorem Tx.def_reckoned (T : Tx w K mg) : ∃ fd, FunD K "reckoned" "reckoned" (defArgs s_reckoned) (defBody s_reckoned) (defScope s_reckoned) [] [] (He.ga K "reckoned") fd := T.c.t.d.def_ 18 (d := d_reckoned) rfl
theorem Tx.def__things_of (T : Tx w K mg) : ∃ fd, FunD K "_things_of" "_things_of" (defArgs s__things_of) (defBody s__things_of) (defScope s__things_of) [] [] (He.ga K "_things_of") fd := T.c.t.d.def_ 19 (d := d__things_of) rfl
theorem Tx.def__joined (T : Tx w K mg) : ∃ fd, FunD K "_joined" "_joined" (defArgs s__joined) (defBody s__joined) (defScope s__joined) [] [] (He.ga K "_joined") fd := T.c.t.d.def_ 20 (d := d__joined) rfl
theorem Tx.def_Stop_init (T : Tx w K mg) : ∃ fd, FunD K "__init__" "Stop.__init__" (defArgs s_Stop_init) (defBody s_Stop_init) (defScope s_Stop_init) [] [] (He.ma K (He.ga K "Stop") "__init__") fd := T.c.t.d.def_ 21 (d := d_Stop_init) rfl
theorem Tx.def_Stop_is_met (T : Tx w K mg) : ∃ fd, FunD K "is_met" "Stop.is_met" (defArgs s_Stop_is_met) (defBody s_Stop_is_met) (defScope s_Stop_is_met) [] [] (He.ma K (He.ga K "Stop") "is_met") fd := T.c.t.d.def_ 22 (d := d_Stop_is_met) rfl
theorem Tx.def_Going_init (T : Tx w K mg) : ∃ fd, FunD K "__init__" "Going.__init__" (defArgs s_Going_init) (defBody s_Going_init) (defScope s_Going_init) [] [] (He.ma K (He.ga K "Going") "__init__") fd := T.c.t.d.def_ 23 (d := d_Going_init) rfl
theorem Tx.def_Going_do_deed (T : Tx w K mg) : ∃ fd, FunD K "do_deed" "Going.do_deed" (defArgs s_Going_do_deed) (defBody s_Going_do_deed) (defScope s_Going_do_deed) [] [] (He.ma K (He.ga K "Going") "do_deed") fd := T.c.t.d.def_ 24 (d := d_Going_do_deed) rfl
theorem Tx.def_Going_finish (T : Tx w K mg) : ∃ fd, FunD K "finish" "Going.finish" (defArgs s_Going_finish) (defBody s_Going_finish) (defScope s_Going_finish) [] [] (He.ma K (He.ga K "Going") "finish") fd := T.c.t.d.def_ 25 (d := d_Going_finish) rfl
theorem Tx.def_Going_ending (T : Tx w K mg) : ∃ fd, FunD K "ending" "Going.ending" (defArgs s_Going_ending) (defBody s_Going_ending) (defScope s_Going_ending) [] [] (He.ma K (He.ga K "Going") "ending") fd := T.c.t.d.def_ 26 (d := d_Going_ending) rfl
theorem Tx.def_Going__next_deed (T : Tx w K mg) : ∃ fd, FunD K "_next_deed" "Going._next_deed" (defArgs s_Going__next_deed) (defBody s_Going__next_deed) (defScope s_Going__next_deed) [] [] (He.ma K (He.ga K "Going") "_next_deed") fd := T.c.t.d.def_ 27 (d := d_Going__next_deed) rfl
theorem Tx.def_Going__stop_met (T : Tx w K mg) : ∃ fd, FunD K "_stop_met" "Going._stop_met" (defArgs s_Going__stop_met) (defBody s_Going__stop_met) (defScope s_Going__stop_met) [] [] (He.ma K (He.ga K "Going") "_stop_met") fd := T.c.t.d.def_ 28 (d := d_Going__stop_met) rfl
theorem Tx.def_Going__has_stepped (T : Tx w K mg) : ∃ fd, FunD K "_has_stepped" "Going._has_stepped" (defArgs s_Going__has_stepped) (defBody s_Going__has_stepped) (defScope s_Going__has_stepped) [] [] (He.ma K (He.ga K "Going") "_has_stepped") fd := T.c.t.d.def_ 29 (d := d_Going__has_stepped) rfl
theorem Tx.def_Block_init (T : Tx w K mg) : ∃ fd, FunD K "__init__" "Block.__init__" (defArgs s_Block_init) (defBody s_Block_init) (defScope s_Block_init) [] [] (He.ma K (He.ga K "Block") "__init__") fd := T.c.t.d.def_ 30 (d := d_Block_init) rfl
theorem Tx.def_Frame_init (T : Tx w K mg) : ∃ fd, FunD K "__init__" "Frame.__init__" (defArgs s_Frame_init) (defBody s_Frame_init) (defScope s_Frame_init) [] [] (He.ma K (He.ga K "Frame") "__init__") fd := T.c.t.d.def_ 31 (d := d_Frame_init) rfl
theorem Tx.def_Frame_deed (T : Tx w K mg) : ∃ fd, FunD K "deed" "Frame.deed" (defArgs s_Frame_deed) (defBody s_Frame_deed) (defScope s_Frame_deed) [] [] (He.ma K (He.ga K "Frame") "deed") fd := T.c.t.d.def_ 32 (d := d_Frame_deed) rfl
theorem Tx.def_Frame_move_on (T : Tx w K mg) : ∃ fd, FunD K "move_on" "Frame.move_on" (defArgs s_Frame_move_on) (defBody s_Frame_move_on) (defScope s_Frame_move_on) [] [] (He.ma K (He.ga K "Frame") "move_on") fd := T.c.t.d.def_ 33 (d := d_Frame_move_on) rfl
theorem Tx.def_Frame_enter (T : Tx w K mg) : ∃ fd, FunD K "enter" "Frame.enter" (defArgs s_Frame_enter) (defBody s_Frame_enter) (defScope s_Frame_enter) [] [] (He.ma K (He.ga K "Frame") "enter") fd := T.c.t.d.def_ 34 (d := d_Frame_enter) rfl
theorem Tx.def_Frame_find_deed (T : Tx w K mg) : ∃ fd, FunD K "find_deed" "Frame.find_deed" (defArgs s_Frame_find_deed) (defBody s_Frame_find_deed) (defScope s_Frame_find_deed) [] [] (He.ma K (He.ga K "Frame") "find_deed") fd := T.c.t.d.def_ 35 (d := d_Frame_find_deed) rfl
theorem Tx.def_Hand_init (T : Tx w K mg) : ∃ fd, FunD K "__init__" "Hand.__init__" (defArgs s_Hand_init) (defBody s_Hand_init) (defScope s_Hand_init) [] [] (He.ma K (He.ga K "Hand") "__init__") fd := T.c.t.d.def_ 36 (d := d_Hand_init) rfl
theorem Tx.def_Hand_settle (T : Tx w K mg) : ∃ fd, FunD K "settle" "Hand.settle" (defArgs s_Hand_settle) (defBody s_Hand_settle) (defScope s_Hand_settle) [] [] (He.ma K (He.ga K "Hand") "settle") fd := T.c.t.d.def_ 37 (d := d_Hand_settle) rfl
theorem Tx.def_Hand_end_fun (T : Tx w K mg) : ∃ fd, FunD K "end_fun" "Hand.end_fun" (defArgs s_Hand_end_fun) (defBody s_Hand_end_fun) (defScope s_Hand_end_fun) [] [] (He.ma K (He.ga K "Hand") "end_fun") fd := T.c.t.d.def_ 38 (d := d_Hand_end_fun) rfl
theorem Tx.def_Deed_init (T : Tx w K mg) : ∃ fd, FunD K "__init__" "Deed.__init__" (defArgs s_Deed_init) (defBody s_Deed_init) (defScope s_Deed_init) [] [] (He.ma K (He.ga K "Deed") "__init__") fd := T.c.t.d.def_ 39 (d := d_Deed_init) rfl
theorem Tx.def_Layout_init (T : Tx w K mg) : ∃ fd, FunD K "__init__" "Layout.__init__" (defArgs s_Layout_init) (defBody s_Layout_init) (defScope s_Layout_init) [] [] (He.ma K (He.ga K "Layout") "__init__") fd := T.c.t.d.def_ 40 (d := d_Layout_init) rfl
theorem Tx.def_Layout__laid_out (T : Tx w K mg) : ∃ fd, FunD K "_laid_out" "Layout._laid_out" (defArgs s_Layout__laid_out) (defBody s_Layout__laid_out) (defScope s_Layout__laid_out) [] [] (He.ma K (He.ga K "Layout") "_laid_out") fd := T.c.t.d.def_ 41 (d := d_Layout__laid_out) rfl
theorem Tx.def__bodies_in (T : Tx w K mg) : ∃ fd, FunD K "_bodies_in" "_bodies_in" (defArgs s__bodies_in) (defBody s__bodies_in) (defScope s__bodies_in) [] [] (He.ga K "_bodies_in") fd := T.c.t.d.def_ 42 (d := d__bodies_in) rfl
theorem Tx.def_Machine_init (T : Tx w K mg) : ∃ fd, FunD K "__init__" "Machine.__init__" (defArgs s_Machine_init) (defBody s_Machine_init) (defScope s_Machine_init) [] [] (He.ma K (He.ga K "Machine") "__init__") fd := T.c.t.d.def_ 43 (d := d_Machine_init) rfl
theorem Tx.def_Machine_all_ended (T : Tx w K mg) : ∃ fd, FunD K "all_ended" "Machine.all_ended" (defArgs s_Machine_all_ended) (defBody s_Machine_all_ended) (defScope s_Machine_all_ended) [] [] (He.ma K (He.ga K "Machine") "all_ended") fd := T.c.t.d.def_ 44 (d := d_Machine_all_ended) rfl
theorem Tx.def_Machine_next_hand (T : Tx w K mg) : ∃ fd, FunD K "next_hand" "Machine.next_hand" (defArgs s_Machine_next_hand) (defBody s_Machine_next_hand) (defScope s_Machine_next_hand) [] [] (He.ma K (He.ga K "Machine") "next_hand") fd := T.c.t.d.def_ 45 (d := d_Machine_next_hand) rfl
theorem Tx.def_Machine_next_frame (T : Tx w K mg) : ∃ fd, FunD K "next_frame" "Machine.next_frame" (defArgs s_Machine_next_frame) (defBody s_Machine_next_frame) (defScope s_Machine_next_frame) [] [] (He.ma K (He.ga K "Machine") "next_frame") fd := T.c.t.d.def_ 46 (d := d_Machine_next_frame) rfl
theorem Tx.def_Machine_do_next (T : Tx w K mg) : ∃ fd, FunD K "do_next" "Machine.do_next" (defArgs s_Machine_do_next) (defBody s_Machine_do_next) (defScope s_Machine_do_next) [] [] (He.ma K (He.ga K "Machine") "do_next") fd := T.c.t.d.def_ 47 (d := d_Machine_do_next) rfl
theorem Tx.def_Machine__begun (T : Tx w K mg) : ∃ fd, FunD K "_begun" "Machine._begun" (defArgs s_Machine__begun) (defBody s_Machine__begun) (defScope s_Machine__begun) [] [] (He.ma K (He.ga K "Machine") "_begun") fd := T.c.t.d.def_ 48 (d := d_Machine__begun) rfl
theorem Tx.def_Machine__call (T : Tx w K mg) : ∃ fd, FunD K "_call" "Machine._call" (defArgs s_Machine__call) (defBody s_Machine__call) (defScope s_Machine__call) [] [] (He.ma K (He.ga K "Machine") "_call") fd := T.c.t.d.def_ 49 (d := d_Machine__call) rfl
theorem Tx.def_Machine__choose (T : Tx w K mg) : ∃ fd, FunD K "_choose" "Machine._choose" (defArgs s_Machine__choose) (defBody s_Machine__choose) (defScope s_Machine__choose) [] [] (He.ma K (He.ga K "Machine") "_choose") fd := T.c.t.d.def_ 50 (d := d_Machine__choose) rfl
theorem Tx.def_Machine__note (T : Tx w K mg) : ∃ fd, FunD K "_note" "Machine._note" (defArgs s_Machine__note) (defBody s_Machine__note) (defScope s_Machine__note) [] [] (He.ma K (He.ga K "Machine") "_note") fd := T.c.t.d.def_ 51 (d := d_Machine__note) rfl
theorem Tx.def_Watched_init (T : Tx w K mg) : ∃ fd, FunD K "__init__" "Watched.__init__" (defArgs s_Watched_init) (defBody s_Watched_init) (defScope s_Watched_init) [] [] (He.ma K (He.ga K "Watched") "__init__") fd := T.c.t.d.def_ 52 (d := d_Watched_init) rfl
theorem Tx.def_Watched_stop (T : Tx w K mg) : ∃ fd, FunD K "stop" "Watched.stop" (defArgs s_Watched_stop) (defBody s_Watched_stop) (defScope s_Watched_stop) [] [] (He.ma K (He.ga K "Watched") "stop") fd := T.c.t.d.def_ 53 (d := d_Watched_stop) rfl
theorem Tx.def_Watched_go (T : Tx w K mg) : ∃ fd, FunD K "go" "Watched.go" (defArgs s_Watched_go) (defBody s_Watched_go) (defScope s_Watched_go) [] [] (He.ma K (He.ga K "Watched") "go") fd := T.c.t.d.def_ 54 (d := d_Watched_go) rfl
theorem Tx.def_Watched_step (T : Tx w K mg) : ∃ fd, FunD K "step" "Watched.step" (defArgs s_Watched_step) (defBody s_Watched_step) (defScope s_Watched_step) [] [] (He.ma K (He.ga K "Watched") "step") fd := T.c.t.d.def_ 55 (d := d_Watched_step) rfl
theorem Tx.def_Watched_begin_go (T : Tx w K mg) : ∃ fd, FunD K "begin_go" "Watched.begin_go" (defArgs s_Watched_begin_go) (defBody s_Watched_begin_go) (defScope s_Watched_begin_go) [] [] (He.ma K (He.ga K "Watched") "begin_go") fd := T.c.t.d.def_ 56 (d := d_Watched_begin_go) rfl
theorem Tx.def_Watched_begin_step (T : Tx w K mg) : ∃ fd, FunD K "begin_step" "Watched.begin_step" (defArgs s_Watched_begin_step) (defBody s_Watched_begin_step) (defScope s_Watched_begin_step) [] [] (He.ma K (He.ga K "Watched") "begin_step") fd := T.c.t.d.def_ 57 (d := d_Watched_begin_step) rfl
theorem Tx.def_Watched_stack (T : Tx w K mg) : ∃ fd, FunD K "stack" "Watched.stack" (defArgs s_Watched_stack) (defBody s_Watched_stack) (defScope s_Watched_stack) [] [] (He.ma K (He.ga K "Watched") "stack") fd := T.c.t.d.def_ 58 (d := d_Watched_stack) rfl
theorem Tx.def_Watched_look (T : Tx w K mg) : ∃ fd, FunD K "look" "Watched.look" (defArgs s_Watched_look) (defBody s_Watched_look) (defScope s_Watched_look) [] [] (He.ma K (He.ga K "Watched") "look") fd := T.c.t.d.def_ 59 (d := d_Watched_look) rfl
theorem Tx.def_Watched_put (T : Tx w K mg) : ∃ fd, FunD K "put" "Watched.put" (defArgs s_Watched_put) (defBody s_Watched_put) (defScope s_Watched_put) [] [] (He.ma K (He.ga K "Watched") "put") fd := T.c.t.d.def_ 60 (d := d_Watched_put) rfl
theorem Tx.def_Watched_cells (T : Tx w K mg) : ∃ fd, FunD K "cells" "Watched.cells" (defArgs s_Watched_cells) (defBody s_Watched_cells) (defScope s_Watched_cells) [] [] (He.ma K (He.ga K "Watched") "cells") fd := T.c.t.d.def_ 61 (d := d_Watched_cells) rfl
theorem Tx.def_Watched_said (T : Tx w K mg) : ∃ fd, FunD K "said" "Watched.said" (defArgs s_Watched_said) (defBody s_Watched_said) (defScope s_Watched_said) [] [] (He.ma K (He.ga K "Watched") "said") fd := T.c.t.d.def_ 62 (d := d_Watched_said) rfl
theorem Tx.def_Watched_is_over (T : Tx w K mg) : ∃ fd, FunD K "is_over" "Watched.is_over" (defArgs s_Watched_is_over) (defBody s_Watched_is_over) (defScope s_Watched_is_over) [] [] (He.ma K (He.ga K "Watched") "is_over") fd := T.c.t.d.def_ 63 (d := d_Watched_is_over) rfl
theorem Tx.def_Watched__check_hand (T : Tx w K mg) : ∃ fd, FunD K "_check_hand" "Watched._check_hand" (defArgs s_Watched__check_hand) (defBody s_Watched__check_hand) (defScope s_Watched__check_hand) [] [] (He.ma K (He.ga K "Watched") "_check_hand") fd := T.c.t.d.def_ 64 (d := d_Watched__check_hand) rfl
theorem Tx.def_Watched__frame (T : Tx w K mg) : ∃ fd, FunD K "_frame" "Watched._frame" (defArgs s_Watched__frame) (defBody s_Watched__frame) (defScope s_Watched__frame) [] [] (He.ma K (He.ga K "Watched") "_frame") fd := T.c.t.d.def_ 65 (d := d_Watched__frame) rfl
theorem Tx.def__check_number (T : Tx w K mg) : ∃ fd, FunD K "_check_number" "_check_number" (defArgs s__check_number) (defBody s__check_number) (defScope s__check_number) [] [] (He.ga K "_check_number") fd := T.c.t.d.def_ 66 (d := d__check_number) rfl
theorem Tx.def__law_dice (T : Tx w K mg) : ∃ fd, FunD K "_law_dice" "_law_dice" (defArgs s__law_dice) (defBody s__law_dice) (defScope s__law_dice) [] [] (He.ga K "_law_dice") fd := T.c.t.d.def_ 67 (d := d__law_dice) rfl
theorem Tx.def__law_next (T : Tx w K mg) : ∃ fd, FunD K "_law_next" "_law_next" (defArgs s__law_next) (defBody s__law_next) (defScope s__law_next) [] [] (He.ga K "_law_next") fd := T.c.t.d.def_ 68 (d := d__law_next) rfl
theorem Tx.def__law_deep_one (T : Tx w K mg) : ∃ fd, FunD K "_law_deep_one" "_law_deep_one" (defArgs s__law_deep_one) (defBody s__law_deep_one) (defScope s__law_deep_one) [] [] (He.ga K "_law_deep_one") fd := T.c.t.d.def_ 69 (d := d__law_deep_one) rfl
theorem Tx.def_law (T : Tx w K mg) : ∃ fd, FunD K "law" "law" (defArgs s_law) (defBody s_law) (defScope s_law) [] [] (He.ga K "law") fd := T.c.t.d.def_ 70 (d := d_law) rfl
theorem Tx.tab_PARTS (T : Tx w K mg) : ∃ es n, KDict K w (He.ga K "PARTS") es n := T.c.t.tab 0 rfl
theorem Tx.val_PARTS_num (T : Tx w K mg) : ∃ t, PySem.W.nsIn K (He.ga K "PARTS") "num" = some (some (.ref t)) ∧ ∀ H : Hp, SqT K H t [V.str "number"] := tvB_ok (List.all_eq_true.mp T.c.v _ (List.mem_of_getElem? (i := 0) rfl))
theorem Tx.val_PARTS_name (T : Tx w K mg) : ∃ t, PySem.W.nsIn K (He.ga K "PARTS") "name" = some (some (.ref t)) ∧ ∀ H : Hp, SqT K H t [V.str "name"] := tvB_ok (List.all_eq_true.mp T.c.v _ (List.mem_of_getElem? (i := 1) rfl))
theorem Tx.val_PARTS_cell (T : Tx w K mg) : ∃ t, PySem.W.nsIn K (He.ga K "PARTS") "cell" = some (some (.ref t)) ∧ ∀ H : Hp, SqT K H t [V.str "cell"] := tvB_ok (List.all_eq_true.mp T.c.v _ (List.mem_of_getElem? (i := 2) rfl))
theorem Tx.val_PARTS_add (T : Tx w K mg) : ∃ t, PySem.W.nsIn K (He.ga K "PARTS") "add" = some (some (.ref t)) ∧ ∀ H : Hp, SqT K H t [V.str "part", V.str "part"] := tvB_ok (List.all_eq_true.mp T.c.v _ (List.mem_of_getElem? (i := 3) rfl))
theorem Tx.val_PARTS_take (T : Tx w K mg) : ∃ t, PySem.W.nsIn K (He.ga K "PARTS") "take" = some (some (.ref t)) ∧ ∀ H : Hp, SqT K H t [V.str "part", V.str "part"] := tvB_ok (List.all_eq_true.mp T.c.v _ (List.mem_of_getElem? (i := 4) rfl))
theorem Tx.val_PARTS_times (T : Tx w K mg) : ∃ t, PySem.W.nsIn K (He.ga K "PARTS") "times" = some (some (.ref t)) ∧ ∀ H : Hp, SqT K H t [V.str "part", V.str "part"] := tvB_ok (List.all_eq_true.mp T.c.v _ (List.mem_of_getElem? (i := 5) rfl))
theorem Tx.val_PARTS_less (T : Tx w K mg) : ∃ t, PySem.W.nsIn K (He.ga K "PARTS") "less" = some (some (.ref t)) ∧ ∀ H : Hp, SqT K H t [V.str "part", V.str "part"] := tvB_ok (List.all_eq_true.mp T.c.v _ (List.mem_of_getElem? (i := 6) rfl))
theorem Tx.val_PARTS_same (T : Tx w K mg) : ∃ t, PySem.W.nsIn K (He.ga K "PARTS") "same" = some (some (.ref t)) ∧ ∀ H : Hp, SqT K H t [V.str "part", V.str "part"] := tvB_ok (List.all_eq_true.mp T.c.v _ (List.mem_of_getElem? (i := 7) rfl))
theorem Tx.tab_DEEDS (T : Tx w K mg) : ∃ es n, KDict K w (He.ga K "DEEDS") es n := T.c.t.tab 1 rfl
theorem Tx.val_DEEDS_set (T : Tx w K mg) : ∃ t, PySem.W.nsIn K (He.ga K "DEEDS") "set" = some (some (.ref t)) ∧ ∀ H : Hp, SqT K H t [V.str "name", V.str "part"] := tvB_ok (List.all_eq_true.mp T.c.v _ (List.mem_of_getElem? (i := 8) rfl))
theorem Tx.val_DEEDS_put (T : Tx w K mg) : ∃ t, PySem.W.nsIn K (He.ga K "DEEDS") "put" = some (some (.ref t)) ∧ ∀ H : Hp, SqT K H t [V.str "cell", V.str "part"] := tvB_ok (List.all_eq_true.mp T.c.v _ (List.mem_of_getElem? (i := 9) rfl))
theorem Tx.val_DEEDS_say (T : Tx w K mg) : ∃ t, PySem.W.nsIn K (He.ga K "DEEDS") "say" = some (some (.ref t)) ∧ ∀ H : Hp, SqT K H t [V.str "part"] := tvB_ok (List.all_eq_true.mp T.c.v _ (List.mem_of_getElem? (i := 10) rfl))
theorem Tx.val_DEEDS_if (T : Tx w K mg) : ∃ t, PySem.W.nsIn K (He.ga K "DEEDS") "if" = some (some (.ref t)) ∧ ∀ H : Hp, SqT K H t [V.str "part", V.str "body", V.str "body"] := tvB_ok (List.all_eq_true.mp T.c.v _ (List.mem_of_getElem? (i := 11) rfl))
theorem Tx.val_DEEDS_again (T : Tx w K mg) : ∃ t, PySem.W.nsIn K (He.ga K "DEEDS") "again" = some (some (.ref t)) ∧ ∀ H : Hp, SqT K H t [V.str "part", V.str "body"] := tvB_ok (List.all_eq_true.mp T.c.v _ (List.mem_of_getElem? (i := 12) rfl))
theorem Tx.val_DEEDS_call (T : Tx w K mg) : ∃ t, PySem.W.nsIn K (He.ga K "DEEDS") "call" = some (some (.ref t)) ∧ ∀ H : Hp, SqT K H t [V.str "fun", V.str "parts", V.str "name"] := tvB_ok (List.all_eq_true.mp T.c.v _ (List.mem_of_getElem? (i := 13) rfl))
theorem Tx.val_DEEDS_return (T : Tx w K mg) : ∃ t, PySem.W.nsIn K (He.ga K "DEEDS") "return" = some (some (.ref t)) ∧ ∀ H : Hp, SqT K H t [V.str "part"] := tvB_ok (List.all_eq_true.mp T.c.v _ (List.mem_of_getElem? (i := 14) rfl))
end
end S
set_option Elab.async false
set_option linter.all false
set_option maxRecDepth 100000
set_option maxHeartbeats 4000000
namespace S
open PySem PySem.Spec PyProof.Rows L2

structure Pr (P : Program) (w : World) (K : PySem.W.Frag) (mg : Str → Option Value) (base : Heap) (k : Nat) (f : Addr) (ps : List Str) (sp : Sp) : Prop where
  ex : ∃ fd, FnOk P w K mg base CX0 k f fd ps sp ∧ Binds K fd ps []
  kp : PySem.W.keepIn K (.ref f) = true
section
variable {P : Program} {w : World} {K : PySem.W.Frag} {mg : Str → Option Value} {base : Heap}
theorem Pr.mono {j k : Nat} {f : Addr} {ps : List Str} {sp : Sp} (p : Pr P w K mg base j f ps sp) (h : j ≤ k) : Pr P w K mg base k f ps sp :=
  ⟨let ⟨fd, a, b⟩ := p.ex; ⟨fd, a.mono h, b⟩, p.kp⟩
theorem Pr.imp {k : Nat} {f : Addr} {ps : List Str} {sp sp' : Sp} (p : Pr P w K mg base k f ps sp) (h : ∀ vs H Q E, sp' vs H Q E → sp vs H Q E) : Pr P w K mg base k f ps sp' :=
  ⟨let ⟨fd, a, b⟩ := p.ex; ⟨fd, a.imp h, b⟩, p.kp⟩
theorem mkPr {x qual : Str} {params : Arguments} {body : List Stmt} {scope : Scope} {f : Addr} {N ps : List Str} {k : Nat} {sp : Sp} {t : TS} (F : ∃ fd, FunD K x qual params body scope [] [] f fd) (S : FnScope N ps scope)
    (b : ∀ (kV doc pm : Value) (an : Option Addr) (cdv ct : Value) (us : List Value), us.length = ps.length → bindArgs (PySem.W.fnOf x qual params body scope .none kV doc pm an cdv ct) ⟨us, []⟩ = pure (ps.zip us))
    (len : ∀ vs H Q E, sp vs H Q E → vs.length = ps.length)
    (d : ∀ (cdv : Value) (A : Around) (outer : List Env) (s : Shared) (H : Hp) (E : XK), Room k (A.deeper (envOfC qual scope s.heap.objs.size f cdv)) → PSs (cxOf CX0 P w K mg base N qual scope f cdv A outer s H E).nox body t)
    (q : ∀ vs H Q E, sp vs H Q E → t { nx := fun _ H' => Q .non H', rt := Q } (start N vs) H) : Pr P w K mg base (k + 1) f ps sp := by
  obtain ⟨fd, F⟩ := F
  refine ⟨⟨fd, F.ok S len fun cdv A outer s H vs Q E hr hsp => ⟨t, ?_, q vs H Q E hsp⟩, F.bindsN b⟩, F.kp⟩
  exact (d cdv A outer s H E hr).nox
end

section
variable {X : Cx}
theorem pe_gi {x : Str} {i : Int} {pos : Pos} (hg : Gl X x) (h : ∃ t, X.mg x = some (.int i t)) (hd : (x == ("__debug__" : Str)) = false := by decide) : PE X (.Name x pos) (tC (.int i)) :=
  let ⟨t, e⟩ := h
  pe_glob hg e ⟨t, rfl⟩ hd
def tKGet (K : PySem.W.Frag) (d : Addr) (ty : TE) : TE := fun σ H Q => ty σ H fun y H1 => ∃ z : Str, y = .str z ∧
  ((∃ u0 v0, PySem.W.nsIn K d z = some (some u0) ∧ RelV v0 u0 ∧ Q v0 H1) ∨ (PySem.W.nsIn K d z = some none ∧ Q .non H1))
theorem pe_kget1 {x : Str} {d : Addr} {e : Expr} {p apos cpos : Pos} {ty : TE} (D : ∃ es n, KDict X.K X.w d es n) (hg : Gl X x) (hm : X.mg x = some (.ref d)) (he : PE X e ty) (m : M1 X (.Name x p) "get" apos e cpos)
    (hd : (x == ("__debug__" : Str)) = false := by decide) : PE X (.Call (.Attribute (.Name x p) "get" apos) [e] [] cpos) (tKGet X.K d ty) := by
  refine ⟨fun pins s σ H Q I h => ?_⟩
  obtain ⟨es, n, D⟩ := D
  have nm : PE X (.Name x p) (tC (.ref d)) := pe_glob hg hm rfl hd
  refine wpAny_Call_method m.base m.few m.line PySem.F.plainAttrs_dict PySem.F.slot_dict_get PySem.F.type_dict_get (thn (nm.run pins s σ H (fun v H1 => v = .ref d ∧ H1 = H) I ⟨rfl, rfl⟩) fun u s1 ⟨v, H1, I1, rx, ev, eH⟩ => ?_)
  subst ev eH
  obtain rfl : u = Value.ref d := rx
  refine ⟨kd_type D I1, fun b q => ?_, ?_⟩
  · cases q
    exact ⟨_, I1.kIn _ _ D.at_, rfl⟩
  rw [m.trees]
  refine Calls.callWith_builtin rfl (Calls.evalArgs_plain (Calls.spliced_cons (thn (he.run pins s1 σ H1 _ I1 h) fun iv s2 ⟨y, H2, I2, ry, z, ey, q2⟩ => Calls.spliced_nil ?_)))
  subst ey
  obtain ⟨t, rfl⟩ := ry
  refine call_meetsIn PySem.F.slot_dict_get (kd_type D I2) PySem.F.entry_dict_get (PySem.F.args_dict_get_2 _ _) (meets_dict_get (strKind X.prog X.w) d (strKind_is X.prog X.w z t) D.low)
    ⟨_, PySem.W.mapOf_K (prog := X.prog) I2.kIn D.at_ D.lit, ?_⟩
  rcases q2 with ⟨u0, v0, e1, r, q⟩ | ⟨e1, q⟩
  · rw [PySem.W.find_K D.at_ e1]
    exact ⟨v0, H2, I2.tok _, r, q⟩
  · rw [PySem.W.find_K D.at_ e1]
    exact ⟨.non, H2, I2.tok _, rfl, q⟩
end
def rLenDct : List V → Hp → VK → Prop := fun xs H Q => ∃ d kvs, xs = [.ref d] ∧ H d = some (.dK kvs) ∧ Q (.int kvs.length) H

abbrev Reg := List (Addr × HO)
structure Sat (F : Hp) (r : Reg) (H : Hp) : Prop where
  fr : Same F H
  at_ : ∀ e ∈ r, H e.1 = some e.2
  off : ∀ e ∈ r, F e.1 = none
  nd : (r.map Prod.fst).Nodup
def addR (F : Hp) (r : Reg) : Hp := fun a => match r.lookup a with
  | some o => some o
  | none => F a
theorem lookup_none {r : Reg} {a : Addr} (h : a ∉ r.map Prod.fst) : r.lookup a = none := by
  induction r with
  | nil => rfl
  | cons e r ih =>
    obtain ⟨b, o⟩ := e
    have h1 : a ≠ b := fun q => h (by rw [q]; exact List.mem_cons_self)
    have h2 : a ∉ r.map Prod.fst := fun q => h (List.mem_cons_of_mem _ q)
    rw [List.lookup_cons]
    have e1 : (a == b) = false := by simpa using h1
    rw [e1]
    exact ih h2
theorem lookup_mem {r : Reg} {a : Addr} {o : HO} (nd : (r.map Prod.fst).Nodup) (h : (a, o) ∈ r) : r.lookup a = some o := by
  induction r with
  | nil => cases h
  | cons e r ih =>
    obtain ⟨b, u⟩ := e
    rw [List.map_cons, List.nodup_cons] at nd
    rcases List.mem_cons.mp h with q | q
    · cases q
      rw [List.lookup_cons]
      simp
    · have h1 : a ≠ b := fun z => nd.1 (by rw [← z]; exact List.mem_map.mpr ⟨(a, o), q, rfl⟩)
      rw [List.lookup_cons]
      have e1 : (a == b) = false := by simpa using h1
      rw [e1]
      exact ih nd.2 q
theorem of_lookup {r : Reg} {a : Addr} {o : HO} (h : r.lookup a = some o) : (a, o) ∈ r := by
  induction r with
  | nil => cases h
  | cons e r ih =>
    obtain ⟨b, u⟩ := e
    rw [List.lookup_cons] at h
    cases q : (a == b) with
    | true =>
      rw [q] at h
      have e1 : a = b := by simpa using q
      have e2 : u = o := Option.some.inj h
      rw [e1, e2]
      exact List.mem_cons_self
    | false =>
      rw [q] at h
      exact List.mem_cons_of_mem _ (ih h)
theorem addR_off {F : Hp} {r : Reg} {a : Addr} (h : addR F r a = none) : a ∉ r.map Prod.fst ∧ F a = none := by
  unfold addR at h
  cases q : r.lookup a with
  | some o =>
    rw [q] at h
    cases h
  | none =>
    rw [q] at h
    refine ⟨fun hm => ?_, h⟩
    obtain ⟨⟨b, o⟩, hm2, rfl⟩ := List.mem_map.mp hm
    have : ∀ {r : Reg}, (b, o) ∈ r → r.lookup b ≠ none := by
      intro r hr
      induction r with
      | nil => cases hr
      | cons e r ih =>
        obtain ⟨c, u⟩ := e
        rw [List.lookup_cons]
        cases z : (b == c) with
        | true => simp
        | false =>
          rcases List.mem_cons.mp hr with y | y
          · cases y
            simp at z
          · exact ih y
    exact this hm2 q
section
variable {F : Hp} {r r1 r2 r3 : Reg} {H H' : Hp} {a p : Addr} {o u : HO}
theorem Sat.nil (h : Same F H) : Sat F [] H := ⟨h, (fun _ h => nomatch h), (fun _ h => nomatch h), List.nodup_nil⟩
theorem Sat.get (s : Sat F r H) (h : (a, o) ∈ r) : H a = some o := s.at_ (a, o) h
theorem Sat.perm (s : Sat F r H) (h : r.Perm r1) : Sat F r1 H :=
  ⟨s.fr, fun e he => s.at_ e (h.mem_iff.mpr he), fun e he => s.off e (h.mem_iff.mpr he), (h.map _).nodup_iff.mp s.nd⟩
theorem Sat.put (s : Sat F ((a, o) :: r) H) : Sat F ((a, u) :: r) (upd H a u) := by
  have nd := s.nd
  rw [List.map_cons, List.nodup_cons] at nd
  have na : F a = none := s.off (a, o) List.mem_cons_self
  refine ⟨fun b v hb => ?_, fun e he => ?_, fun e he => ?_, s.nd⟩
  · rw [upd_ne (ne_of_none hb na)]
    exact s.fr b v hb
  · rcases List.mem_cons.mp he with q | q
    · rw [q]
      exact upd_same
    · have : e.1 ≠ a := fun z => nd.1 (by rw [← z]; exact List.mem_map.mpr ⟨e, q, rfl⟩)
      rw [upd_ne this]
      exact s.at_ e (List.mem_cons_of_mem _ q)
  · rcases List.mem_cons.mp he with q | q
    · rw [q]
      exact na
    · exact s.off e (List.mem_cons_of_mem _ q)
theorem Sat.new (s : Sat F r H) (hp : H p = none) : Sat F ((p, o) :: r) (upd H p o) := by
  refine ⟨fun b v hb => ?_, fun e he => ?_, fun e he => ?_, ?_⟩
  · rw [upd_ne (ne_of_none (s.fr b v hb) hp)]
    exact s.fr b v hb
  · rcases List.mem_cons.mp he with q | q
    · rw [q]
      exact upd_same
    · rw [upd_ne (ne_of_none (s.at_ e q) hp)]
      exact s.at_ e q
  · rcases List.mem_cons.mp he with q | q
    · rw [q]
      exact s.fr.free hp
    · exact s.off e q
  · rw [List.map_cons, List.nodup_cons]
    refine ⟨fun hm => ?_, s.nd⟩
    obtain ⟨e, he, q⟩ := List.mem_map.mp hm
    have := s.at_ e he
    rw [q, hp] at this
    cases this
theorem Sat.grow (s : Sat F r H) (e : Same H H') : Sat F r H' := ⟨s.fr.trans e, fun x hx => e _ _ (s.at_ x hx), s.off, s.nd⟩
theorem same_new (hp : H p = none) : Same H (upd H p o) := fun b v hb => by
  rw [upd_ne (ne_of_none hb hp)]
  exact hb
theorem Sat.temp (s : Sat F r H) (hp : H p = none) : Sat F r (upd H p o) := s.grow (same_new hp)
theorem Sat.tail (s : Sat F (r1 ++ r2) H) : Sat F r2 H := by
  have nd := s.nd
  rw [List.map_append, List.nodup_append] at nd
  exact ⟨s.fr, fun e he => s.at_ e (List.mem_append_right _ he), fun e he => s.off e (List.mem_append_right _ he), nd.2.1⟩
theorem Sat.init (s : Sat F (r1 ++ r2) H) : Sat F r1 H := (s.perm List.perm_append_comm).tail
theorem same_addR (h : ∀ e ∈ r, F e.1 = none) : Same F (addR F r) := fun b v hb => by
  unfold addR
  have : b ∉ r.map Prod.fst := fun hm => by
    obtain ⟨e, he, q⟩ := List.mem_map.mp hm
    have := h e he
    rw [q, hb] at this
    cases this
  rw [lookup_none this]
  exact hb
theorem addR_at (nd : (r.map Prod.fst).Nodup) (h : (a, o) ∈ r) : addR F r a = some o := by
  unfold addR
  rw [lookup_mem nd h]
theorem Sat.focus (s : Sat F (r1 ++ r2) H) : Sat (addR F r1) r2 H := by
  have nd := s.nd
  rw [List.map_append, List.nodup_append] at nd
  refine ⟨fun b v hb => ?_, fun e he => s.at_ e (List.mem_append_right _ he), fun e he => ?_, nd.2.1⟩
  · unfold addR at hb
    cases q : r1.lookup b with
    | some o =>
      rw [q] at hb
      cases hb
      exact s.at_ (b, v) (List.mem_append_left _ (of_lookup q))
    | none =>
      rw [q] at hb
      exact s.fr b v hb
  · have hm : e.1 ∉ r1.map Prod.fst := fun z => nd.2.2 _ z e.1 (List.mem_map.mpr ⟨e, he, rfl⟩) rfl
    unfold addR
    rw [lookup_none hm]
    exact s.off e (List.mem_append_right _ he)
theorem Sat.unfocus (s : Sat F (r1 ++ r2) H) (s' : Sat (addR F r1) r3 H') : Sat F (r1 ++ r3) H' := by
  have nd := s.nd
  rw [List.map_append, List.nodup_append] at nd
  have off1 : ∀ e ∈ r1, F e.1 = none := fun e he => s.off e (List.mem_append_left _ he)
  refine ⟨(same_addR off1).trans s'.fr, fun e he => ?_, fun e he => ?_, ?_⟩
  · rcases List.mem_append.mp he with q | q
    · exact s'.fr _ _ (addR_at nd.1 q)
    · exact s'.at_ e q
  · rcases List.mem_append.mp he with q | q
    · exact off1 e q
    · exact (addR_off (s'.off e q)).2
  · rw [List.map_append, List.nodup_append]
    refine ⟨nd.1, s'.nd, fun x hx y hy => ?_⟩
    rintro rfl
    obtain ⟨e, he, q⟩ := List.mem_map.mp hy
    exact (addR_off (s'.off e he)).1 (by rw [q]; exact hx)
theorem Sat.ne (s : Sat F ((a, o) :: r) H) (h : (p, u) ∈ r) : a ≠ p := fun q => by
  have nd := s.nd
  rw [List.map_cons, List.nodup_cons] at nd
  exact nd.1 (by rw [q]; exact List.mem_map.mpr ⟨(p, u), h, rfl⟩)
end
theorem same_seqT {K : PySem.W.Frag} {H H' : Hp} {a : Addr} {xs : List V} (e : Same H H') (h : SqT K H a xs) : SqT K H' a xs := by
  rcases h with (h | ⟨o, h⟩) | h
  · exact .inl (.inl (e _ _ h))
  · exact .inl (.inr ⟨o, e _ _ h⟩)
  · exact .inr h
end S
set_option Elab.async false
set_option linter.all false
set_option maxRecDepth 100000
set_option maxHeartbeats 4000000
namespace S
open PySem PySem.Spec PyProof.Rows L2
inductive Op where | add | take | times | less | same
  deriving DecidableEq
def Op.str : Op → Str
  | .add => "add" | .take => "take" | .times => "times" | .less => "less" | .same => "same"
def Op.ap : Op → Int → Int → Int
  | .add, x, y => (x + y) % 10007
  | .take, x, y => (x - y) % 10007
  | .times, x, y => x * y % 10007
  | .less, x, y => if x < y then 1 else 0
  | .same, x, y => if x = y then 1 else 0
inductive Part where
  | num (i : Int) | name (k : Nat) | cell (k : Nat) | bin (o : Op) (a b : Part)
  deriving DecidableEq
inductive Body where
  | nil
  | set (n : Nat) (p : Part) (r : Body) | put (c : Nat) (p : Part) (r : Body) | say (p : Part) (r : Body)
  | iff (p : Part) (a b r : Body) | again (p : Part) (b r : Body) | call (f : Nat) (ps : List Part) (n : Nat) (r : Body) | ret (p : Part) (r : Body)
def Part.size : Part → Nat
  | .bin _ a b => a.size + b.size + 1
  | _ => 1
def Part.subs : Part → List Part
  | .num i => [.num i]
  | .name k => [.name k]
  | .cell k => [.cell k]
  | .bin o a b => .bin o a b :: (a.subs ++ b.subs)
def Part.val (ns cs : List Int) : Part → Int
  | .num i => i
  | .name k => ns.getD k 0
  | .cell k => cs.getD k 0
  | .bin o a b => o.ap (a.val ns cs) (b.val ns cs)
def Part.ok (n c : Nat) : Part → Prop
  | .num i => 0 ≤ i ∧ i < 10007
  | .name k => k < n
  | .cell k => k < c
  | .bin _ a b => a.ok n c ∧ b.ok n c
def Part.kids : Part → List Part
  | .bin _ a b => [a, b]
  | _ => []
def PartAt (K : PySem.W.Frag) (F : Hp) : Addr → Part → Prop
  | a, .num i => SqT K F a [.str "num", .int i]
  | a, .name k => SqT K F a [.str "name", .int (k : Nat)]
  | a, .cell k => SqT K F a [.str "cell", .int (k : Nat)]
  | a, .bin o x y => ∃ b c, SqT K F a [.str o.str, .ref b, .ref c] ∧ PartAt K F b x ∧ PartAt K F c y
theorem PartAt.mono {K : PySem.W.Frag} {F F' : Hp} (e : Same F F') : ∀ {p : Part} {a : Addr}, PartAt K F a p → PartAt K F' a p
  | .num _, _, h => same_seqT e h
  | .name _, _, h => same_seqT e h
  | .cell _, _, h => same_seqT e h
  | .bin _ _ _, _, ⟨b, c, h, h1, h2⟩ => ⟨b, c, same_seqT e h, PartAt.mono e h1, PartAt.mono e h2⟩
inductive PartsAt (K : PySem.W.Frag) (F : Hp) : List V → List Part → Prop
  | nil : PartsAt K F [] []
  | cons {a : Addr} {vs : List V} {p : Part} {ps : List Part} : PartAt K F a p → PartsAt K F vs ps → PartsAt K F (.ref a :: vs) (p :: ps)
section
variable {K : PySem.W.Frag} {F F' : Hp}
theorem PartsAt.mono (e : Same F F') : ∀ {vs : List V} {ps : List Part}, PartsAt K F vs ps → PartsAt K F' vs ps
  | _, _, .nil => .nil
  | _, _, .cons h t => .cons (h.mono e) (t.mono e)
theorem PartsAt.length : ∀ {vs : List V} {ps : List Part}, PartsAt K F vs ps → vs.length = ps.length
  | _, _, .nil => rfl
  | _, _, .cons _ t => by rw [List.length_cons, List.length_cons, t.length]
theorem PartsAt.get : ∀ {vs : List V} {ps : List Part} {i : Nat} {v : V}, PartsAt K F vs ps → vs[i]? = some v → ∃ a p, v = .ref a ∧ ps[i]? = some p ∧ PartAt K F a p
  | _, _, _, _, .nil, h => by simp at h
  | _, _, 0, _, .cons h t, e => by
    simp at e
    exact ⟨_, _, e.symm, rfl, h⟩
  | _, _, i + 1, _, .cons h t, e => by
    rw [List.getElem?_cons_succ] at e
    obtain ⟨a, p, e1, e2, e3⟩ := t.get e
    exact ⟨a, p, e1, by rw [List.getElem?_cons_succ]; exact e2, e3⟩
theorem PartsAt.append : ∀ {vs ws : List V} {ps qs : List Part}, PartsAt K F vs ps → PartsAt K F ws qs → PartsAt K F (vs ++ ws) (ps ++ qs)
  | _, _, _, _, .nil, s => s
  | _, _, _, _, .cons h t, s => .cons h (t.append s)
end
def kindTab : Bool → List (Str × List Str)
  | false => [("num", ["number"]), ("name", ["name"]), ("cell", ["cell"]), ("add", ["part", "part"]), ("take", ["part", "part"]), ("times", ["part", "part"]), ("less", ["part", "part"]), ("same", ["part", "part"])]
  | true => [("set", ["name", "part"]), ("put", ["cell", "part"]), ("say", ["part"]), ("if", ["part", "body", "body"]), ("again", ["part", "body"]), ("call", ["fun", "parts", "name"]), ("return", ["part"])]
def TabOk (K : PySem.W.Frag) : Prop := ∀ b z ks, (z, ks) ∈ kindTab b → ∃ t, PySem.W.nsIn K (He.ga K (if b then "DEEDS" else "PARTS")) z = some (some (.ref t)) ∧ ∀ H : Hp, SqT K H t (ks.map V.str)
inductive DV (K : PySem.W.Frag) (H : Hp) : V → Prop
  | int (i : Int) : DV K H (.int i)
  | bl (b : Bool) : DV K H (.bl b)
  | str (x : Str) : DV K H (.str x)
  | non : DV K H .non
  | tup {a : Addr} {xs : List V} (h : SqT K H a xs) : DV K H (.ref a)
def isNum : V → Bool
  | .int _ => true
  | _ => false
def isHeld : V → Bool
  | .int i => decide (0 ≤ i) && decide (i < 10007)
  | _ => false
def sp_is_number (K : PySem.W.Frag) : Sp := fun vs H Q _ => ∃ x, vs = [x] ∧ DV K H x ∧ Q (.bl (isNum x)) H
def sp_can_be_held (K : PySem.W.Frag) : Sp := fun vs H Q _ => ∃ x, vs = [x] ∧ DV K H x ∧ Q (.bl (isHeld x)) H
def sp_kinds_behind (K : PySem.W.Frag) : Sp := fun vs H Q _ => ∃ (z : Str) (b : Bool) (ks : List Str), vs = [.str z, .bl b] ∧ (z, ks) ∈ kindTab b ∧ ∀ t, (∀ H' : Hp, SqT K H' t (ks.map V.str)) → Q (.ref t) H
inductive Withins (K : PySem.W.Frag) (F : Hp) : List Str → List V → List (V × Bool) → Prop
  | nil : Withins K F [] [] []
  | part {ks : List Str} {v : V} {vs : List V} {ws : List (V × Bool)} : Withins K F ks vs ws → Withins K F ("part" :: ks) (v :: vs) ((v, false) :: ws)
  | parts {ks : List Str} {a : Addr} {xs vs : List V} {ws : List (V × Bool)} : SqT K F a xs → xs.length ≤ 1000 → Withins K F ks vs ws → Withins K F ("parts" :: ks) (.ref a :: vs) (xs.map (·, false) ++ ws)
  | body {ks : List Str} {a : Addr} {xs vs : List V} {ws : List (V × Bool)} : SqT K F a xs → xs.length ≤ 1000 → Withins K F ks vs ws → Withins K F ("body" :: ks) (.ref a :: vs) (xs.map (·, true) ++ ws)
  | other {k : Str} {ks : List Str} {v : V} {vs : List V} {ws : List (V × Bool)} : k = "number" ∨ k = "name" ∨ k = "cell" ∨ k = "fun" → Withins K F ks vs ws → Withins K F (k :: ks) (v :: vs) ws
def pairsR (ws : List (V × Bool)) (ts : List Addr) : Reg := ts.zip (ws.map fun p => HO.tup [p.1, .bl p.2])
def sp_things_within (K : PySem.W.Frag) : Sp := fun vs H Q _ => ∃ (F : Hp) (a : Addr) (b : Bool) (z : Str) (ks : List Str) (xs : List V) (ws : List (V × Bool)), vs = [.ref a, .bl b] ∧ Same F H ∧ SqT K F a (.str z :: xs) ∧ (z, ks) ∈ kindTab b ∧
  ks.length = xs.length ∧ Withins K F ks xs ws ∧ ws.length ≤ 5000 ∧ ∀ (l : Addr) (ts : List Addr) (H' : Hp), ts.length = ws.length → Sat F ((l, .lst (ts.map V.ref)) :: pairsR ws ts) H' → Q (.ref l) H'
def sp__joined (K : PySem.W.Frag) : Sp := fun vs H Q _ => ∃ (o : Op) (x y : Int), vs = [.str o.str, .int x, .int y] ∧ (0 ≤ x ∧ x < 10007) ∧ (0 ≤ y ∧ y < 10007) ∧ Q (.int (o.ap x y)) H
def sp__things_of (K : PySem.W.Frag) : Sp := fun vs H Q _ => ∃ (F G : Hp) (a : Addr) (p : Part), vs = [.ref a] ∧ Same F H ∧ Same G F ∧ PartAt K G a p ∧ p.size ≤ 5000 ∧
  ∀ (l : Addr) (xs : List V) (H' : Hp), PartsAt K G xs p.subs → Sat F [(l, .lst xs)] H' → Q (.ref l) H'
def Held (ns : List Int) : Prop := ∀ i ∈ ns, 0 ≤ i ∧ i < 10007
def sp_reckoned (K : PySem.W.Frag) : Sp := fun vs H Q _ => ∃ (F : Hp) (a n c : Addr) (p : Part) (ns cs : List Int), vs = [.ref a, .ref n, .ref c] ∧ Same F H ∧ PartAt K F a p ∧ p.size ≤ 5000 ∧ p.ok ns.length cs.length ∧ Held ns ∧ Held cs ∧
  SqL K F n (ns.map V.int) ∧ SqL K F c (cs.map V.int) ∧ ∀ H', Same F H' → Q (.int (p.val ns cs)) H'
end S
set_option Elab.async false
set_option linter.all false
set_option maxRecDepth 100000
namespace S
open PySem PySem.Spec PyProof.Rows L2
def n_is_number : List Str := ["what"]
def t_is_number (K : PySem.W.Frag) : TS :=
    (tRet (tAndV (tCB (rIsi K) (tCons (tVar 0) (tCons (tC (.ty "int")) tNil))) (tNotV (tCB (rIsi K) (tCons (tVar 0) (tCons (tC (.ty "bool")) tNil))))))
def n_can_be_held : List Str := ["what"]
def t_can_be_held (K : PySem.W.Frag) : TS :=
    (tRet (tAndV (tCall (sp_is_number K) [] E0 (tCons (tVar 0) tNil)) (tChain (rI0 fun i j => .bl (decide (i ≤ j))) (rI0 fun i j => .bl (decide (i < j))) (tC (.int 0)) (tVar 0) (tC (.int 10007)))))
def n_kinds_behind : List Str := ["word", "is_deed"]
def t_kinds_behind (K : PySem.W.Frag) : TS :=
    (tRet (tIf (tTru K (tVar 1)) (tKGet K (He.ga K "DEEDS") (tVar 0)) (tKGet K (He.ga K "PARTS") (tVar 0))))
def n_things_within : List Str := ["thing", "is_deed", "found", "kind", "what", "part", "deed"]
def t_things_within (K : PySem.W.Frag) : TS :=
    (tSeq (tAsg (tLst tNil) (gName 2))
    (tSeq (tFor (RZ.iZipA K (tCons (tCall (sp_kinds_behind K) [] E0 (tCons (tOp (rIxT K) (tVar 0) (tC (.int 0))) (tCons (tVar 1) tNil))) (tCons (tSl (rSlA K) (tVar 0) (tPart (tC (.int 1))) tNoPart) tNil))) (gTup K 2 (gCons (gName 3) (gCons (gName 4) gNil)))
      (tIfS (tTest (tOp rEq (tVar 3) (tC (.str "part"))))
        (tDrop (tBM K "list" rAppend (tVar 2) (tCons (tTup (tCons (tVar 4) (tCons (tC (.bl false)) tNil))) tNil)))
        (tIfS (tTest (tOp rEq (tVar 3) (tC (.str "parts"))))
          (tDrop (tBM K "list" rExtend (tVar 2) (tCons (tLc (iTup K (tVar 4)) (gName 5) tYes (tTup (tCons (tVar 5) (tCons (tC (.bl false)) tNil))) [5]) tNil)))
          (tIfS (tTest (tOp rEq (tVar 3) (tC (.str "body"))))
            (tDrop (tBM K "list" rExtend (tVar 2) (tCons (tLc (iTup K (tVar 4)) (gName 6) tYes (tTup (tCons (tVar 6) (tCons (tC (.bl true)) tNil))) [6]) tNil)))
            tNext))))
    (tRet (tVar 2))))
def n_reckoned : List Str := ["part", "names", "cells", "numbers", "thing", "one", "other"]
def t_reckoned (K : PySem.W.Frag) : TS :=
    (tSeq (tAsg (tLst tNil) (gName 3))
    (tSeq (tFor (iRev K (tCons (tCall (sp__things_of K) [] E0 (tCons (tVar 0) tNil)) tNil)) (gName 4)
      (tIfS (tTest (tOp rEq (tOp (rIxT K) (tVar 4) (tC (.int 0))) (tC (.str "num"))))
        (tDrop (tBM K "list" rAppend (tVar 3) (tCons (tOp (rIxT K) (tVar 4) (tC (.int 1))) tNil)))
        (tIfS (tTest (tOp rEq (tOp (rIxT K) (tVar 4) (tC (.int 0))) (tC (.str "name"))))
          (tDrop (tBM K "list" rAppend (tVar 3) (tCons (tOp (rIxL K) (tVar 1) (tOp (rIxT K) (tVar 4) (tC (.int 1)))) tNil)))
          (tIfS (tTest (tOp rEq (tOp (rIxT K) (tVar 4) (tC (.int 0))) (tC (.str "cell"))))
            (tDrop (tBM K "list" rAppend (tVar 3) (tCons (tOp (rIxL K) (tVar 2) (tOp (rIxT K) (tVar 4) (tC (.int 1)))) tNil)))
            (tSeq (tAsg (tBM0 K "list" rPop (tVar 3)) (gName 5))
            (tSeq (tAsg (tBM0 K "list" rPop (tVar 3)) (gName 6))
            (tDrop (tBM K "list" rAppend (tVar 3) (tCons (tCall (sp__joined K) [] E0 (tCons (tOp (rIxT K) (tVar 4) (tC (.int 0))) (tCons (tVar 5) (tCons (tVar 6) tNil)))) tNil)))))))))
    (tRet (tOp (rIxL K) (tVar 3) (tC (.int 0))))))
def n__things_of : List Str := ["part", "found", "waiting", "thing", "within", "inner", "_"]
def t__things_of (K : PySem.W.Frag) : TS :=
    (tSeq (tAsg (tLst tNil) (gName 1))
    (tSeq (tAsg (tLst (tCons (tVar 0) tNil)) (gName 2))
    (tSeq (tWhile (tTru K (tVar 2))
      (tSeq (tAsg (tBM0 K "list" rPop (tVar 2)) (gName 3))
      (tSeq (tDrop (tBM K "list" rAppend (tVar 1) (tCons (tVar 3) tNil)))
      (tSeq (tAsg (tCall (sp_things_within K) [] E0 (tCons (tVar 3) (tCons (tC (.bl false)) tNil))) (gName 4))
      (tDrop (tBM K "list" rExtend (tVar 2) (tCons (tLc (iRev K (tCons (tVar 4) tNil)) (gTup K 2 (gCons (gName 5) (gCons (gName 6) gNil))) tYes (tVar 5) [5, 6]) tNil)))))))
    (tRet (tVar 1)))))
def n__joined : List Str := ["word", "one", "other"]
def t__joined (K : PySem.W.Frag) : TS :=
    (tSeq (tIfS (tTest (tOp rEq (tVar 0) (tC (.str "add"))))
      (tRet (tOp (rI (fun _ j => 0 < j) fun i j => .int (i % j)) (tOp (rI0 fun i j => .int (i + j)) (tVar 1) (tVar 2)) (tC (.int 10007))))
      tNext)
    (tSeq (tIfS (tTest (tOp rEq (tVar 0) (tC (.str "take"))))
      (tRet (tOp (rI (fun _ j => 0 < j) fun i j => .int (i % j)) (tOp (rI0 fun i j => .int (i - j)) (tVar 1) (tVar 2)) (tC (.int 10007))))
      tNext)
    (tSeq (tIfS (tTest (tOp rEq (tVar 0) (tC (.str "times"))))
      (tRet (tOp (rI (fun _ j => 0 < j) fun i j => .int (i % j)) (tOp (rI CMul fun i j => .int (i * j)) (tVar 1) (tVar 2)) (tC (.int 10007))))
      tNext)
    (tSeq (tIfS (tTest (tOp rEq (tVar 0) (tC (.str "less"))))
      (tRet (tIf (tTest (tOp (rI0 fun i j => .bl (decide (i < j))) (tVar 1) (tVar 2))) (tC (.int 1)) (tC (.int 0))))
      tNext)
    (tRet (tIf (tTest (tOp rEq (tVar 1) (tVar 2))) (tC (.int 1)) (tC (.int 0))))))))
end S
set_option Elab.async false
set_option linter.all false
set_option maxRecDepth 100000
set_option maxHeartbeats 4000000
namespace S
open PySem PySem.Spec PyProof.Rows L2
section
variable {K : PySem.W.Frag}
theorem tyT {H : Hp} {a : Addr} {xs : List V} (h : SqT K H a xs) : TyX K H (.ref a) (.type "tuple") := by
  rcases h with (h | ⟨o, h⟩) | h
  · exact .base (.tup h)
  · exact .fTuple h
  · obtain ⟨o, its, n, e, c, _⟩ := h
    exact .kTuple e c
theorem rd_is_number (vs : List V) (H : Hp) (Q : VK) (E : XK) (h : sp_is_number K vs H Q E) : t_is_number K { nx := fun _ H' => Q .non H', rt := Q } (start n_is_number vs) H := by
  obtain ⟨x, rfl, d, q⟩ := h
  cases d with
  | int i =>
    refine ⟨_, rfl, ?_⟩
    refine ⟨_, _, _, _, true, rfl, .ty _, .base (.int i), kit_ty (by decide +kernel), true, rfl, ?_⟩
    refine iteT ?_
    exact ⟨_, rfl, _, _, _, _, false, rfl, .ty _, .base (.int i), kit_ty (by decide +kernel), false, rfl, q⟩
  | bl b =>
    refine ⟨_, rfl, ?_⟩
    refine ⟨_, _, _, _, true, rfl, .ty _, .base (.bl b), kit_ty (by decide +kernel), true, rfl, ?_⟩
    refine iteT ?_
    exact ⟨_, rfl, _, _, _, _, true, rfl, .ty _, .base (.bl b), kit_ty (by decide +kernel), true, rfl, q⟩
  | str z =>
    refine ⟨_, rfl, ?_⟩
    exact ⟨_, _, _, _, false, rfl, .ty _, .base (.str z), kit_ty (by decide +kernel), false, rfl, q⟩
  | non =>
    refine ⟨_, rfl, ?_⟩
    exact ⟨_, _, _, _, false, rfl, .ty _, .base .non, kit_ty (by decide +kernel), false, rfl, q⟩
  | tup ht =>
    refine ⟨_, rfl, ?_⟩
    exact ⟨_, _, _, _, false, rfl, .ty _, tyT ht, kit_ty (by decide +kernel), false, rfl, q⟩
theorem rd_can_be_held (vs : List V) (H : Hp) (Q : VK) (E : XK) (h : sp_can_be_held K vs H Q E) : t_can_be_held K { nx := fun _ H' => Q .non H', rt := Q } (start n_can_be_held vs) H := by
  obtain ⟨x, rfl, d, q⟩ := h
  refine ⟨_, rfl, x, rfl, d, ?_⟩
  cases d with
  | int i =>
    refine ⟨true, rfl, ?_⟩
    refine iteT ?_
    refine ⟨_, rfl, _, _, rfl, rfl, decide (0 ≤ i), rfl, ?_⟩
    have e : isHeld (.int i) = (decide (0 ≤ i) && decide (i < 10007)) := rfl
    rw [e] at q
    by_cases h0 : 0 ≤ i
    · rw [decide_eq_true h0] at q ⊢
      exact iteT ⟨_, _, rfl, rfl, q⟩
    · rw [decide_eq_false h0] at q ⊢
      exact iteF q
  | bl b => exact ⟨false, rfl, q⟩
  | str z => exact ⟨false, rfl, q⟩
  | non => exact ⟨false, rfl, q⟩
  | tup ht => exact ⟨false, rfl, q⟩
theorem rd_kinds_behind (T : TabOk K) (vs : List V) (H : Hp) (Q : VK) (E : XK) (h : sp_kinds_behind K vs H Q E) : t_kinds_behind K { nx := fun _ H' => Q .non H', rt := Q } (start n_kinds_behind vs) H := by
  obtain ⟨z, b, ks, rfl, hm, q⟩ := h
  obtain ⟨t, e, hs⟩ := T b z ks hm
  refine ⟨_, rfl, b, rfl, ?_⟩
  cases b with
  | true => exact ⟨_, rfl, z, rfl, .inl ⟨_, .ref t, e, rfl, q t hs⟩⟩
  | false => exact ⟨_, rfl, z, rfl, .inl ⟨_, .ref t, e, rfl, q t hs⟩⟩
theorem iteB {b : Bool} {A B : Prop} (h1 : b = true → A) (h2 : b = false → B) : if b = true then A else B := by
  cases b with
  | true => exact iteT (h1 rfl)
  | false => exact iteF (h2 rfl)
theorem decStr (a b : Str) : (decide (V.str a = V.str b)) = decide (a = b) := by
  by_cases e : a = b
  · rw [e]; simp
  · have : ¬ V.str a = V.str b := fun z => e (by injection z)
    rw [decide_eq_false e, decide_eq_false this]
theorem qIf {c : Bool} {Q : Bool → Hp → Prop} {H : Hp} {b : Bool} (e : c = b) (h : Q b H) : Q c H := by
  rw [e]
  exact h
theorem tsEq {σ : L2.St} {H : Hp} {ta tb : TE} {x y : Str} {b : Bool} {Q : Bool → Hp → Prop} (ha : Val ta σ H (.str x)) (hb : Val tb σ H (.str y)) (e : decide (x = y) = b) (q : Q b H) : tTest (tOp rEq ta tb) σ H Q := by
  refine ha _ (hb _ ⟨rfl, b, ?_, q⟩)
  rw [decStr, e]
theorem rd__joined (vs : List V) (H : Hp) (Q : VK) (E : XK) (h : sp__joined K vs H Q E) : t__joined K { nx := fun _ H' => Q .non H', rt := Q } (start n__joined vs) H := by
  obtain ⟨o, x, y, rfl, ⟨x0, x1⟩, ⟨y0, y1⟩, q⟩ := h
  have v0 : Val (tVar 0) (start n__joined [.str o.str, .int x, .int y]) H (.str o.str) := val_var rfl
  cases o with
  | add =>
    refine tsEq v0 val_c (b := true) (by decide +kernel) (iteT ?_)
    exact ⟨_, rfl, _, rfl, _, _, rfl, rfl, _, _, rfl, rfl, (by show (0 : Int) < 10007; decide), q⟩
  | take =>
    refine tsEq v0 val_c (b := false) (by decide +kernel) (iteF ?_)
    refine tsEq v0 val_c (b := true) (by decide +kernel) (iteT ?_)
    exact ⟨_, rfl, _, rfl, _, _, rfl, rfl, _, _, rfl, rfl, (by show (0 : Int) < 10007; decide), q⟩
  | times =>
    refine tsEq v0 val_c (b := false) (by decide +kernel) (iteF ?_)
    refine tsEq v0 val_c (b := false) (by decide +kernel) (iteF ?_)
    refine tsEq v0 val_c (b := true) (by decide +kernel) (iteT ?_)
    exact ⟨_, rfl, _, rfl, _, _, rfl, rfl, .inl ⟨by omega, by omega⟩, _, _, rfl, rfl, (by show (0 : Int) < 10007; decide), q⟩
  | less =>
    refine tsEq v0 val_c (b := false) (by decide +kernel) (iteF ?_)
    refine tsEq v0 val_c (b := false) (by decide +kernel) (iteF ?_)
    refine tsEq v0 val_c (b := false) (by decide +kernel) (iteF ?_)
    refine tsEq v0 val_c (b := true) (by decide +kernel) (iteT ?_)
    refine ⟨_, rfl, _, rfl, _, _, rfl, rfl, decide (x < y), rfl, ?_⟩
    have e : Op.less.ap x y = if x < y then 1 else 0 := rfl
    refine iteB (fun hb => ?_) (fun hb => ?_)
    · rw [e, if_pos (of_decide_eq_true hb)] at q
      exact q
    · rw [e, if_neg (of_decide_eq_false hb)] at q
      exact q
  | same =>
    refine tsEq v0 val_c (b := false) (by decide +kernel) (iteF ?_)
    refine tsEq v0 val_c (b := false) (by decide +kernel) (iteF ?_)
    refine tsEq v0 val_c (b := false) (by decide +kernel) (iteF ?_)
    refine tsEq v0 val_c (b := false) (by decide +kernel) (iteF ?_)
    refine ⟨_, rfl, _, rfl, rfl, decide (x = y), ?_, ?_⟩
    · by_cases e : x = y
      · rw [e]; simp
      · have : ¬ V.int x = V.int y := fun z => e (by injection z)
        rw [decide_eq_false e, decide_eq_false this]
    have e : Op.same.ap x y = if x = y then 1 else 0 := rfl
    refine iteB (fun hb => ?_) (fun hb => ?_)
    · rw [e, if_pos (of_decide_eq_true hb)] at q
      exact q
    · rw [e, if_neg (of_decide_eq_false hb)] at q
      exact q

theorem zip_snoc {ts : List Addr} {ws : List (V × Bool)} {t : Addr} {w : V × Bool} (h : ts.length = ws.length) : pairsR (ws ++ [w]) (ts ++ [t]) = pairsR ws ts ++ [(t, .tup [w.1, .bl w.2])] := by
  unfold pairsR
  rw [List.map_append, List.zip_append (by rw [List.length_map]; exact h)]
  rfl
def WW (F : Hp) (l : Addr) (ws : List (V × Bool)) (H : Hp) : Prop := ∃ ts : List Addr, ts.length = ws.length ∧ Sat F ((l, .lst (ts.map V.ref)) :: pairsR ws ts) H
theorem WW.add {F H : Hp} {l p : Addr} {ws : List (V × Bool)} {w : V × Bool} (h : WW F l ws H) (hp : H p = none) : ∃ xs : List V, upd H p (.tup [w.1, .bl w.2]) l = some (.lst xs) ∧ xs.length = ws.length ∧ WW F l (ws ++ [w]) (upd (upd H p (.tup [w.1, .bl w.2])) l (.lst (xs ++ [.ref p]))) := by
  obtain ⟨ts, hl, s⟩ := h
  have s1 := s.new (o := .tup [w.1, .bl w.2]) hp
  have s2 : Sat F ((l, .lst (ts.map V.ref)) :: (p, .tup [w.1, .bl w.2]) :: pairsR ws ts) (upd H p (.tup [w.1, .bl w.2])) := s1.perm (List.Perm.swap ..)
  refine ⟨ts.map V.ref, s2.get List.mem_cons_self, by rw [List.length_map, hl], ts ++ [p], by rw [List.length_append, List.length_append, hl]; rfl, ?_⟩
  have s3 := s2.put (u := .lst (ts.map V.ref ++ [V.ref p]))
  rw [List.map_append, zip_snoc hl]
  exact s3.perm (List.Perm.cons _ (List.perm_append_comm (l₁ := [_])))
theorem Withins.mono {F F' : Hp} (e : Same F F') : ∀ {ks : List Str} {xs : List V} {ws : List (V × Bool)}, Withins K F ks xs ws → Withins K F' ks xs ws
  | _, _, _, .nil => .nil
  | _, _, _, .part t => .part (t.mono e)
  | _, _, _, .parts h n t => .parts (same_seqT e h) n (t.mono e)
  | _, _, _, .body h n t => .body (same_seqT e h) n (t.mono e)
  | _, _, _, .other h t => .other h (t.mono e)

theorem Sat.forget {F H : Hp} {r1 r : Reg} (h : Sat (addR F r1) r H) (off : ∀ e ∈ r1, F e.1 = none) : Sat F r H :=
  ⟨(same_addR off).trans h.fr, h.at_, fun e he => (addR_off (h.off e he)).2, h.nd⟩
theorem lc_pairs {σ : L2.St} {F H : Hp} {a : Addr} {ys : List V} {i j : Nat} {b : Bool} {Q : VK} (hi : σ[i]? = some (some (.ref a))) (hj : ∀ v : V, ((wipe σ [j]).set j (some v))[j]? = some (some v)) (hw : ∀ v : V, wipe ((wipe σ [j]).set j (some v)) [j] = wipe σ [j])
    (s : Same F H) (h : SqT K F a ys) (hl : ys.length ≤ 1000) (q : ∀ (D : Addr) (ts : List Addr) (H' : Hp), ts.length = ys.length → Sat F ((D, .lst (ts.map V.ref)) :: pairsR (ys.map (·, b)) ts) H' → Q (.ref D) H') :
    tLc (iTup K (tVar i)) (gName j) tYes (tTup (tCons (tVar j) (tCons (tC (.bl b)) tNil))) [j] σ H Q := by
  refine ⟨_, hi, a, rfl, ⟨ys, same_seqT s h⟩, fun D hD => ?_⟩
  refine lc_tup (K := K) (a := a) (xs := ys) (fun n H' => WW F D ((ys.take n).map (·, b)) H') ⟨[], rfl, (Sat.nil s).new hD⟩ (fun n H' _ ⟨ts, _, w⟩ => same_seqT w.fr h) (fun n x H' hx w => ?_) (fun H' w => ?_)
  · refine ⟨hw x, ?_⟩
    refine iteT (B := WW F D ((ys.take (n + 1)).map (·, b)) H') ?_
    refine ⟨_, hj x, (by show 2 ≤ sizeLine; decide), fun p hp => ?_⟩
    obtain ⟨acc, e1, e2, w2⟩ := w.add (w := (x, b)) hp
    have hn : n < ys.length := (List.getElem?_eq_some_iff.mp hx).1
    refine ⟨acc, e1, ?_, ?_⟩
    · rw [e2, List.length_map, List.length_take]
      exact small1000 (by omega)
    · have e3 : (ys.take (n + 1)).map (·, b) = (ys.take n).map (·, b) ++ [(x, b)] := by
        rw [List.take_add_one, hx, List.map_append]
        rfl
      rw [e3]
      exact w2
  · obtain ⟨ts, h1, w⟩ := w
    rw [List.take_length] at h1 w
    exact q D ts H' (by rw [h1, List.length_map]) w
theorem pairsR_append {ws us : List (V × Bool)} {ts rs : List Addr} (h : ts.length = ws.length) : pairsR (ws ++ us) (ts ++ rs) = pairsR ws ts ++ pairsR us rs := by
  unfold pairsR
  rw [List.map_append, List.zip_append (by rw [List.length_map]; exact h)]
theorem WW.length {F H : Hp} {l : Addr} {ws : List (V × Bool)} (h : WW F l ws H) : ∃ xs, H l = some (.lst xs) ∧ xs.length = ws.length := by
  obtain ⟨ts, h1, w⟩ := h
  exact ⟨_, w.get List.mem_cons_self, by rw [List.length_map, h1]⟩
theorem st_extend {σ : L2.St} {D : Ends} {F H : Hp} {a l : Addr} {ys : List V} {ws : List (V × Bool)} {i j k : Nat} {b : Bool} (hi : σ[i]? = some (some (.ref a))) (hk : σ[k]? = some (some (.ref l))) (hj : ∀ v : V, ((wipe σ [j]).set j (some v))[j]? = some (some v)) (hw : ∀ v : V, wipe ((wipe σ [j]).set j (some v)) [j] = wipe σ [j])
    (w : WW F l ws H) (h : SqT K F a ys) (hl : ys.length ≤ 1000) (hz : ws.length ≤ 5000) (q : ∀ H', WW F l (ws ++ ys.map (·, b)) H' → D.nx σ H') :
    tDrop (tBM K "list" rExtend (tVar k) (tCons (tLc (iTup K (tVar i)) (gName j) tYes (tTup (tCons (tVar j) (tCons (tC (.bl b)) tNil))) [j]) tNil)) D σ H := by
  obtain ⟨ts, h1, s⟩ := w
  refine ⟨_, hk, .inl ⟨rfl, _, SqL.of (s.get List.mem_cons_self)⟩, ?_⟩
  have s0 : Sat F (((l, .lst (ts.map V.ref)) :: pairsR ws ts) ++ []) H := by
    rw [List.append_nil]
    exact s
  have off : ∀ e ∈ ((l, HO.lst (ts.map V.ref)) :: pairsR ws ts), F e.1 = none := s.off
  refine lc_pairs (F := addR F ((l, .lst (ts.map V.ref)) :: pairsR ws ts)) hi hj hw s0.focus.fr (same_seqT (same_addR off) h) hl fun C us H' h2 s2 => ?_
  have s3 := s0.unfocus s2
  refine ⟨l, C, ts.map V.ref, us.map V.ref, rfl, rfl, s3.get (by simp), s3.get (by simp), ?_, ?_⟩
  · rw [List.length_map, List.length_map, h1, h2]
    exact Nat.le_trans (by omega) (by decide : 6000 ≤ sizeLine)
  · refine q _ ⟨ts ++ us, by rw [List.length_append, List.length_append, h1, h2, List.length_map], ?_⟩
    rw [List.map_append, pairsR_append h1]
    have s4 := s3.put (u := .lst (ts.map V.ref ++ us.map V.ref))
    refine (s4.perm (r1 := (C, .lst (us.map V.ref)) :: (l, .lst (ts.map V.ref ++ us.map V.ref)) :: (pairsR ws ts ++ pairsR (ys.map (·, b)) us)) ?_).tail (r1 := [_])
    exact (List.Perm.cons _ List.perm_middle).trans (List.Perm.swap _ _ _)
theorem sIx_tail (x : V) (xs : List V) : ¬ HT.sIx (x :: xs).length 0 (some 1) = 0 := by
  have e := HT.sIx_nat (x :: xs).length 0 1
  rw [List.length_cons] at e ⊢
  have e2 : HT.sIx (xs.length + 1) 0 (some 1) = min 1 (xs.length + 1) := e
  rw [e2]
  omega
theorem cut_tail (x : V) (xs : List V) : cutV (x :: xs) (some 1) none = xs := by
  have e : HT.sIx (x :: xs).length 0 (some 1) = 1 := by
    have e := HT.sIx_nat (x :: xs).length 0 1
    have e2 : HT.sIx (x :: xs).length 0 (some 1) = min 1 (x :: xs).length := e
    rw [e2, List.length_cons]
    omega
  unfold cutV
  rw [HT.sIx_none, e, List.drop_succ_cons, List.drop_zero, List.length_cons, Nat.add_sub_cancel, List.take_length]
theorem rd_things_within (vs : List V) (H : Hp) (Q : VK) (E : XK) (h : sp_things_within K vs H Q E) : t_things_within K { nx := fun _ H' => Q .non H', rt := Q } (start n_things_within vs) H := by
  obtain ⟨F, a, b, z, ks, xs, ws, rfl, sF, ht, hm, hlen, hW, hws, q⟩ := h
  refine ⟨Nat.zero_le _, fun l hl => ?_⟩
  have s1 : Sat F [(l, .lst [])] (upd H l (.lst [])) := (Sat.nil sF).new hl
  have ht1 : SqT K (upd H l (.lst [])) a (.str z :: xs) := same_seqT s1.fr ht
  refine ⟨_, rfl, a, _, 0, .str z, rfl, rfl, ht1, at_of (j := 0) rfl rfl, _, rfl, ?_⟩
  refine ⟨z, b, ks, rfl, hm, fun t hk => ?_⟩
  refine ⟨_, rfl, _, rfl, a, _, rfl, ht1, fun hc => ?_, fun _ p hp => ?_⟩
  · exact absurd hc.1 (sIx_tail _ _)
  · have ec : cutV (.str z :: xs) (some 1) none = xs := cut_tail _ _
    rw [ec]
    have s2 : Sat F ((p, .tup xs) :: [(l, .lst [])]) (upd (upd H l (.lst [])) p (.tup xs)) := s1.new hp
    have s3 : Sat (addR F [(p, .tup xs)]) [(l, .lst [])] (upd (upd H l (.lst [])) p (.tup xs)) := Sat.focus (r1 := [(p, .tup xs)]) s2
    have offp : ∀ e ∈ [(p, HO.tup xs)], F e.1 = none := fun e he => s2.off e (List.mem_append_left _ he)
    have hp1 : SqT K (addR F [(p, .tup xs)]) p xs := SqT.of (addR_at (by simp) (by simp))
    refine ⟨t, p, ks.map V.str, xs, rfl, .inr ⟨hk _, same_seqT s3.fr hp1, ?_⟩⟩
    refine RZ.for_zipT (K := K) (by rw [List.length_map]; exact hlen) (fun i σ H' => ∃ (ws1 ws2 : List (V × Bool)) (v3 v4 v5 v6 : Option V), σ = [some (.ref a), some (.bl b), some (.ref l), v3, v4, v5, v6] ∧ ws = ws1 ++ ws2 ∧
        Withins K F (ks.drop i) (xs.drop i) ws2 ∧ WW (addR F [(p, .tup xs)]) l ws1 H')
      ⟨[], ws, none, none, none, none, rfl, rfl, hW, [], rfl, s3⟩ (fun i σ H' ⟨_, _, _, _, _, _, _, _, _, ts, _, w⟩ => ⟨hk _, same_seqT w.fr hp1⟩) ?_ ?_
    · rintro i x y T σ H' hx hy ⟨ws1, ws2, v3, v4, v5, v6, rfl, e, hw, w⟩ hT
      obtain ⟨k, hk1, rfl⟩ : ∃ k, ks[i]? = some k ∧ x = V.str k := by
        rw [List.getElem?_map] at hx
        cases e1 : ks[i]? with
        | none =>
          rw [e1] at hx
          cases hx
        | some k =>
          rw [e1] at hx
          exact ⟨k, rfl, (Option.some.inj hx).symm⟩
      have dk : ks.drop i = k :: ks.drop (i + 1) := by
        obtain ⟨h1, h2⟩ := List.getElem?_eq_some_iff.mp hk1
        rw [List.drop_eq_getElem_cons h1, h2]
      have dx : xs.drop i = y :: xs.drop (i + 1) := by
        obtain ⟨h1, h2⟩ := List.getElem?_eq_some_iff.mp hy
        rw [List.drop_eq_getElem_cons h1, h2]
      rw [dk, dx] at hw
      have wT : WW (addR F [(p, .tup xs)]) l ws1 (upd H' T (.tup [.str k, y])) := by
        obtain ⟨ts, h1, w⟩ := w
        exact ⟨ts, h1, w.temp hT⟩
      have e1 : ws1.length ≤ 5000 := by
        rw [e, List.length_append] at hws
        omega
      refine ⟨T, _, rfl, SqT.of upd_same, rfl, _, _, rfl, _, _, rfl, rfl, ?_⟩
      have v3' : Val (tVar 3) [some (.ref a), some (.bl b), some (.ref l), some (.str k), some y, v5, v6] (upd H' T (.tup [.str k, y])) (.str k) := val_var rfl
      generalize hks : ks.drop (i + 1) = ks2 at hw
      generalize hxs : xs.drop (i + 1) = xs2 at hw
      cases hw with
      | part t =>
        refine tsEq v3' val_c (b := true) (by decide +kernel) (iteT ?_)
        refine ⟨_, rfl, .inl ⟨rfl, ?_⟩, _, rfl, (by show 2 ≤ sizeLine; decide), fun p2 hp2 => ?_⟩
        · obtain ⟨zs, z1, _⟩ := wT.length
          exact ⟨zs, SqL.of z1⟩
        · obtain ⟨acc, a1, a2, a3⟩ := wT.add (w := (y, false)) hp2
          refine ⟨l, acc, _, rfl, rfl, a1, (by rw [a2]; exact Nat.lt_of_le_of_lt e1 (by decide)), ?_⟩
          exact ⟨_, _, _, _, _, _, rfl, by rw [e, List.append_assoc]; rfl, t, a3⟩
      | parts hs hn t =>
        refine tsEq v3' val_c (b := false) (by decide +kernel) (iteF ?_)
        refine tsEq v3' val_c (b := true) (by decide +kernel) (iteT ?_)
        refine st_extend (b := false) rfl rfl (fun _ => rfl) (fun _ => rfl) wT (same_seqT (same_addR offp) hs) hn e1 fun H2 w2 => ?_
        exact ⟨_, _, _, _, _, _, rfl, by rw [e, List.append_assoc], t, w2⟩
      | body hs hn t =>
        refine tsEq v3' val_c (b := false) (by decide +kernel) (iteF ?_)
        refine tsEq v3' val_c (b := false) (by decide +kernel) (iteF ?_)
        refine tsEq v3' val_c (b := true) (by decide +kernel) (iteT ?_)
        refine st_extend (b := true) rfl rfl (fun _ => rfl) (fun _ => rfl) wT (same_seqT (same_addR offp) hs) hn e1 fun H2 w2 => ?_
        exact ⟨_, _, _, _, _, _, rfl, by rw [e, List.append_assoc], t, w2⟩
      | other ho t =>
        refine tsEq v3' val_c (b := false) (by rcases ho with rfl | rfl | rfl | rfl <;> decide +kernel) (iteF ?_)
        refine tsEq v3' val_c (b := false) (by rcases ho with rfl | rfl | rfl | rfl <;> decide +kernel) (iteF ?_)
        refine tsEq v3' val_c (b := false) (by rcases ho with rfl | rfl | rfl | rfl <;> decide +kernel) (iteF ?_)
        exact ⟨_, _, _, _, _, _, rfl, e, t, wT⟩
    · rintro σ H' ⟨ws1, ws2, v3, v4, v5, v6, rfl, e, hw, w⟩
      have e2 : ws2 = [] := by
        rw [List.length_map, hlen, List.drop_length] at hw
        have h0 : ks.drop xs.length = [] := by rw [← hlen, List.drop_length]
        rw [h0] at hw
        cases hw
        rfl
      rw [e2, List.append_nil] at e
      subst e
      obtain ⟨ts, h1, w⟩ := w
      exact ⟨_, rfl, q l ts H' h1 (w.forget offp)⟩

theorem lc_Itv {K : PySem.W.Frag} {a : Addr} {xs : List V} {g : TG} {tt : TT} {te : TE} {vs : List Nat} {σ : L2.St} {H1 : Hp} {D : Addr} {Qd : Hp → Prop} (Pv : Nat → Hp → Prop) (h0 : Pv 0 (upd H1 D (.lst []))) (hl : ∀ i H, Pv i H → SqL K H a xs)
    (hs : ∀ i x H, i < xs.length → xs[xs.length - 1 - i]? = some x → Pv i H → g x (wipe σ vs) H fun σ2 H2 => wipe σ2 vs = wipe σ vs ∧ tt σ2 H2 fun b H3 =>
      if b = true then te σ2 H3 fun y H4 => ∃ acc, H4 D = some (.lst acc) ∧ acc.length < sizeLine ∧ Pv (i + 1) (upd H4 D (.lst (acc ++ [y]))) else Pv (i + 1) H3) (hd : ∀ H, Pv xs.length H → Qd H) :
    ∃ W : Nat → Nat → Hp → Prop, (∃ m, W 0 m (upd H1 D (.lst []))) ∧ ∀ i m H, W i m H →
      ((Itv K a xs.length).stop i H ∧ Qd H) ∨ ((Itv K a xs.length).go i H ∧ ∃ Nx : Hp → Prop, (∀ H', Nx H' → ∃ m', m' < m ∧ W (i + 1) m' H') ∧ ∀ x H', (Itv K a xs.length).yld i H x H' → g x (wipe σ vs) H' fun σ2 H2 => wipe σ2 vs = wipe σ vs ∧ tt σ2 H2 fun b H3 =>
        if b = true then te σ2 H3 fun y H4 => ∃ acc, H4 D = some (.lst acc) ∧ acc.length < sizeLine ∧ Nx (upd H4 D (.lst (acc ++ [y]))) else Nx H3) := by
  refine ⟨fun i m H => m = xs.length - i ∧ i ≤ xs.length ∧ Pv i H, ⟨xs.length, by simp, Nat.zero_le _, h0⟩, ?_⟩
  rintro i m H ⟨rfl, hi, p⟩
  by_cases hlt : i < xs.length
  · have hj : xs.length - 1 - i < xs.length := by omega
    have hx : xs[xs.length - 1 - i]? = some xs[xs.length - 1 - i] := List.getElem?_eq_getElem hj
    refine .inr ⟨⟨hlt, xs, _, hl i H p, hx⟩, Pv (i + 1), fun H' p' => ⟨xs.length - (i + 1), by omega, rfl, hlt, p'⟩, fun x H' y => ?_⟩
    obtain ⟨e, hy⟩ := y
    subst e
    exact hs i x _ hlt (hy xs (hl i _ p)) p
  · have e : i = xs.length := by omega
    subst e
    exact .inl ⟨Nat.le_refl _, hd H p⟩
theorem pairsR_get : ∀ {ws : List (V × Bool)} {ts : List Addr} {i : Nat} {t : Addr}, ts.length = ws.length → ts[i]? = some t → ∃ w, ws[i]? = some w ∧ (t, HO.tup [w.1, .bl w.2]) ∈ pairsR ws ts
  | [], [], _, _, _, h => by simp at h
  | w :: ws, t :: ts, 0, _, _, h => by
    simp at h
    subst h
    exact ⟨w, rfl, List.mem_cons_self⟩
  | w :: ws, t :: ts, i + 1, u, hl, h => by
    rw [List.getElem?_cons_succ] at h
    obtain ⟨v, h1, h2⟩ := pairsR_get (ws := ws) (ts := ts) (by simpa using hl) h
    exact ⟨v, by rw [List.getElem?_cons_succ]; exact h1, List.mem_cons_of_mem _ h2⟩
theorem lc_inners {σ : L2.St} {F H : Hp} {l : Addr} {ts : List Addr} {ws : List (V × Bool)} {i j k : Nat} {Q : VK} (hi : σ[i]? = some (some (.ref l)))
    (hj : ∀ v u : V, (((wipe σ [j, k]).set j (some v)).set k (some u))[j]? = some (some v)) (hw : ∀ v u : V, wipe (((wipe σ [j, k]).set j (some v)).set k (some u)) [j, k] = wipe σ [j, k])
    (hl : ts.length = ws.length) (hz : ws.length ≤ 5000) (s : Sat F ((l, .lst (ts.map V.ref)) :: pairsR ws ts) H)
    (q : ∀ (D : Addr) (H' : Hp), Sat F ((D, .lst (ws.map (·.1)).reverse) :: (l, .lst (ts.map V.ref)) :: pairsR ws ts) H' → Q (.ref D) H') :
    tLc (iRev K (tCons (tVar i) tNil)) (gTup K 2 (gCons (gName j) (gCons (gName k) gNil))) tYes (tVar j) [j, k] σ H Q := by
  have hL : ∀ {r : Reg} {H' : Hp}, Sat F (r ++ ((l, .lst (ts.map V.ref)) :: pairsR ws ts)) H' → SqL K H' l (ts.map V.ref) := fun s => SqL.of (s.tail.get List.mem_cons_self)
  refine ⟨_, hi, l, ts.map V.ref, rfl, hL (r := []) s, fun D hD => ?_⟩
  refine lc_Itv (K := K) (a := l) (xs := ts.map V.ref) (fun n H' => Sat F ([(D, .lst ((ws.map (·.1)).reverse.take n))] ++ ((l, .lst (ts.map V.ref)) :: pairsR ws ts)) H') (s.new hD) (fun n H' w => hL w) (fun n x H' hn hx w => ?_) (fun H' w => ?_)
  · rw [List.length_map] at hn hx
    rw [List.getElem?_map] at hx
    obtain ⟨t, ht, rfl⟩ : ∃ t, ts[ts.length - 1 - n]? = some t ∧ x = V.ref t := by
      cases e : ts[ts.length - 1 - n]? with
      | none =>
        rw [e] at hx
        cases hx
      | some t =>
        rw [e] at hx
        exact ⟨t, rfl, (Option.some.inj hx).symm⟩
    obtain ⟨v, hv, hm⟩ := pairsR_get hl ht
    refine ⟨t, _, rfl, SqT.of (w.get (List.mem_append_right _ (List.mem_cons_of_mem _ hm))), rfl, _, _, rfl, _, _, rfl, rfl, hw _ _, ?_⟩
    refine iteT (B := Sat F ([(D, .lst ((ws.map (·.1)).reverse.take (n + 1)))] ++ ((l, .lst (ts.map V.ref)) :: pairsR ws ts)) H') ?_
    refine ⟨_, hj _ _, _, w.get List.mem_cons_self, ?_, ?_⟩
    · rw [List.length_take, List.length_reverse, List.length_map]
      exact Nat.lt_of_le_of_lt (Nat.min_le_right _ _) (Nat.lt_of_le_of_lt hz (by decide))
    · have e : (ws.map (·.1)).reverse.take (n + 1) = (ws.map (·.1)).reverse.take n ++ [v.1] := by
        rw [List.take_add_one]
        have e2 : (ws.map (·.1)).reverse[n]? = some v.1 := by
          rw [List.getElem?_reverse (by rw [List.length_map]; omega), List.length_map, ← hl, List.getElem?_map, hv]
          rfl
        rw [e2]
        rfl
      rw [e]
      exact Sat.put w
  · have e : (ws.map (·.1)).reverse.take (ts.map V.ref).length = (ws.map (·.1)).reverse := by
      rw [List.take_of_length_le]
      rw [List.length_reverse, List.length_map, List.length_map, hl]
      exact Nat.le_refl _
    rw [e] at w
    exact q D H' w
theorem kind_mem (o : Op) : (o.str, (["part", "part"] : List Str)) ∈ kindTab false := by
  cases o <;> decide +kernel
theorem part_shape {F : Hp} {a : Addr} {p : Part} (h : PartAt K F a p) : ∃ (z : Str) (ks : List Str) (xs : List V) (ws : List (V × Bool)), SqT K F a (.str z :: xs) ∧ (z, ks) ∈ kindTab false ∧ ks.length = xs.length ∧ Withins K F ks xs ws ∧ ws.length ≤ 2 ∧ PartsAt K F (ws.map (·.1)) p.kids := by
  cases p with
  | num i => exact ⟨_, ["number"], _, [], h, by decide +kernel, rfl, .other (.inl rfl) .nil, by decide, .nil⟩
  | name k => exact ⟨_, ["name"], _, [], h, by decide +kernel, rfl, .other (.inr (.inl rfl)) .nil, by decide, .nil⟩
  | cell k => exact ⟨_, ["cell"], _, [], h, by decide +kernel, rfl, .other (.inr (.inr (.inl rfl))) .nil, by decide, .nil⟩
  | bin o x y =>
    obtain ⟨b, c, h1, h2, h3⟩ := h
    exact ⟨_, ["part", "part"], _, [(.ref b, false), (.ref c, false)], h1, kind_mem o, rfl, .part (.part .nil), Nat.le_refl 2, .cons h2 (.cons h3 .nil)⟩
def sizes (ps : List Part) : Nat := (ps.map Part.size).sum
theorem subs_kids (p : Part) : p.subs = p :: p.kids.flatMap Part.subs := by
  cases p <;> simp [Part.subs, Part.kids]
theorem size_kids (p : Part) : p.size = sizes p.kids + 1 := by
  cases p <;> simp [Part.size, Part.kids, sizes]
theorem size_pos (p : Part) : 1 ≤ p.size := by
  rw [size_kids]; omega
theorem sizes_cons (p : Part) (ps : List Part) : sizes (p :: ps) = p.size + sizes ps := by simp [sizes]
theorem sizes_append (ps qs : List Part) : sizes (ps ++ qs) = sizes ps + sizes qs := by simp [sizes]
theorem sizes_len : ∀ ps : List Part, ps.length ≤ sizes ps
  | [] => Nat.zero_le _
  | p :: ps => by
    have := sizes_len ps
    have := size_pos p
    rw [sizes_cons, List.length_cons]
    omega
theorem subs_len (p : Part) : p.subs.length = p.size := by
  induction p with
  | bin o a b iha ihb => simp [Part.subs, Part.size, iha, ihb]
  | _ => rfl
theorem rd__things_of (vs : List V) (H : Hp) (Q : VK) (E : XK) (h : sp__things_of K vs H Q E) : t__things_of K { nx := fun _ H' => Q .non H', rt := Q } (start n__things_of vs) H := by
  obtain ⟨F, G, a, p, rfl, sF, sG, hp, hz, q⟩ := h
  refine ⟨Nat.zero_le _, fun lf hlf => ?_⟩
  refine ⟨_, rfl, (by show 1 ≤ sizeLine; decide), fun lw hlw => ?_⟩
  have s1 : Sat F [(lf, .lst [])] (upd H lf (.lst [])) := (Sat.nil sF).new hlf
  have s2 : Sat F [(lw, .lst [.ref a]), (lf, .lst [])] (upd (upd H lf (.lst [])) lw (.lst [.ref a])) := s1.new hlw
  refine ⟨fun m σ H' => ∃ (xf sv : List V) (done stack : List Part) (v3 v4 v5 v6 : Option V) (r : Reg), σ = [some (.ref a), some (.ref lf), some (.ref lw), v3, v4, v5, v6] ∧ m = sizes stack ∧ PartsAt K G xf done ∧ PartsAt K G sv stack ∧
      p.subs = done ++ stack.flatMap Part.subs ∧ done.length + sizes stack = p.size ∧ Sat F ([(lf, .lst xf), (lw, .lst sv.reverse)] ++ r) H', ⟨p.size, [], [.ref a], [], [p], none, none, none, none, [], rfl, by simp [sizes], .nil, .cons hp .nil, by simp, by simp [sizes], by rw [List.append_nil]; exact s2.perm (List.Perm.swap ..)⟩, ?_⟩
  rintro m σ H1 ⟨xf, sv, done, stack, v3, v4, v5, v6, r, rfl, rfl, hf, hsv, e1, e2, s⟩
  refine ⟨_, rfl, !sv.reverse.isEmpty, .inl ⟨_, SqL.of (s.get (by simp)), rfl⟩, ?_⟩
  cases hsv with
  | nil =>
    refine iteF ?_
    refine ⟨_, rfl, ?_⟩
    rw [List.flatMap_nil, List.append_nil] at e1
    exact q lf xf H1 (by rw [e1]; exact hf) (s.init.init (r1 := [_]))
  | @cons b sv b' stack hb hsv =>
    have eb : (!(V.ref b :: sv).reverse.isEmpty) = true := by simp
    rw [eb]
    refine iteT ⟨_, fun σ' H' h => h, ?_⟩
    have el : (V.ref b :: sv).reverse[(V.ref b :: sv).reverse.length - 1]? = some (V.ref b) := by simp
    have ed : (V.ref b :: sv).reverse.dropLast = sv.reverse := by simp
    have bz : done.length + (b'.size + sizes stack) = p.size := by rw [← e2, sizes_cons]
    refine ⟨_, rfl, .inl ⟨rfl, _, SqL.of (s.get (List.mem_cons_of_mem _ List.mem_cons_self))⟩, lw, _, _, rfl, rfl, s.get (List.mem_cons_of_mem _ List.mem_cons_self), el, ?_⟩
    rw [ed]
    have p1 : ([(lf, HO.lst xf), (lw, HO.lst (V.ref b :: sv).reverse)] ++ r).Perm ((lw, HO.lst (V.ref b :: sv).reverse) :: (lf, HO.lst xf) :: r) := List.Perm.swap ..
    have t1 : Sat F ((lf, .lst xf) :: (lw, .lst sv.reverse) :: r) (upd H1 lw (.lst sv.reverse)) := ((s.perm p1).put (u := .lst sv.reverse)).perm (List.Perm.swap ..)
    refine ⟨_, rfl, .inl ⟨rfl, _, SqL.of (t1.get List.mem_cons_self)⟩, _, rfl, lf, _, _, rfl, rfl, t1.get List.mem_cons_self, ?_, ?_⟩
    · have := hf.length
      have := hz
      have := size_pos b'
      exact Nat.lt_of_lt_of_le (by omega : xf.length < 5001) (by decide : 5001 ≤ sizeLine)
    have t2 : Sat F ((lf, .lst (xf ++ [.ref b])) :: (lw, .lst sv.reverse) :: r) (upd (upd H1 lw (.lst sv.reverse)) lf (.lst (xf ++ [.ref b]))) := t1.put
    generalize upd (upd H1 lw (.lst sv.reverse)) lf (.lst (xf ++ [.ref b])) = H2 at t2 ⊢
    have t2' : Sat F (((lf, .lst (xf ++ [.ref b])) :: (lw, .lst sv.reverse) :: r) ++ []) H2 := by
      rw [List.append_nil]
      exact t2
    have sub : Same F (addR F ((lf, HO.lst (xf ++ [.ref b])) :: (lw, HO.lst sv.reverse) :: r)) := same_addR t2.off
    obtain ⟨z, ks, xs, ws, g1, g2, g3, g4, g5, g6⟩ := part_shape hb
    refine ⟨_, rfl, _, b, false, z, ks, xs, ws, rfl, t2'.focus.fr, same_seqT (sG.trans sub) g1, g2, g3, g4.mono (sG.trans sub), Nat.le_trans g5 (by decide), fun l ts H3 hl t3 => ?_⟩
    refine ⟨_, rfl, .inl ⟨rfl, _, SqL.of (t3.fr _ _ (addR_at t2.nd (List.mem_cons_of_mem _ List.mem_cons_self)))⟩, ?_⟩
    refine lc_inners (F := addR F ((lf, HO.lst (xf ++ [.ref b])) :: (lw, HO.lst sv.reverse) :: r)) rfl (fun _ _ => rfl) (fun _ _ => rfl) hl (Nat.le_trans g5 (by decide)) t3 fun C H4 t4 => ?_
    have t5 := t2'.unfocus t4
    refine ⟨lw, C, _, _, rfl, rfl, t5.get (List.mem_append_left _ (List.mem_cons_of_mem _ List.mem_cons_self)), t5.get (List.mem_append_right _ List.mem_cons_self), ?_, ?_⟩
    · rw [List.length_reverse, List.length_reverse, List.length_map]
      have := hsv.length
      have := sizes_len stack
      exact Nat.le_trans (by omega : _ ≤ 6000) (by decide : 6000 ≤ sizeLine)
    · rw [← List.reverse_append]
      have e3 : sizes (b' :: stack) = sizes (b'.kids ++ stack) + 1 := by
        rw [sizes_cons, sizes_append, size_kids]
        omega
      have p2 : (((lf, HO.lst (xf ++ [V.ref b])) :: (lw, HO.lst sv.reverse) :: r) ++ ((C, HO.lst (ws.map (·.1)).reverse) :: (l, HO.lst (ts.map V.ref)) :: pairsR ws ts)).Perm
          ((lw, HO.lst sv.reverse) :: (lf, HO.lst (xf ++ [V.ref b])) :: (r ++ ((C, HO.lst (ws.map (·.1)).reverse) :: (l, HO.lst (ts.map V.ref)) :: pairsR ws ts))) := List.Perm.swap ..
      have t6 := ((t5.perm p2).put (u := .lst (ws.map (·.1) ++ sv).reverse)).perm (List.Perm.swap ..)
      refine ⟨sizes (b'.kids ++ stack), by rw [e3]; omega, xf ++ [.ref b], ws.map (·.1) ++ sv, done ++ [b'], b'.kids ++ stack, _, _, _, _, _, rfl, rfl, hf.append (.cons hb .nil), ?_, ?_, ?_, t6⟩
      · exact g6.append hsv
      · rw [e1, List.flatMap_cons, subs_kids, List.flatMap_append, List.append_assoc]
        simp
      · rw [List.length_append, ← e2, e3]
        simp
        omega

theorem ap_held (o : Op) (x y : Int) : 0 ≤ o.ap x y ∧ o.ap x y < 10007 := by
  cases o with
  | add => exact ⟨Int.emod_nonneg _ (by decide), Int.emod_lt_of_pos _ (by decide)⟩
  | take => exact ⟨Int.emod_nonneg _ (by decide), Int.emod_lt_of_pos _ (by decide)⟩
  | times => exact ⟨Int.emod_nonneg _ (by decide), Int.emod_lt_of_pos _ (by decide)⟩
  | less =>
    have e : Op.less.ap x y = if x < y then 1 else 0 := rfl
    rw [e]
    split <;> omega
  | same =>
    have e : Op.same.ap x y = if x = y then 1 else 0 := rfl
    rw [e]
    split <;> omega
theorem getD_held {ns : List Int} {k : Nat} (h : Held ns) (hk : k < ns.length) : 0 ≤ ns.getD k 0 ∧ ns.getD k 0 < 10007 := by
  rw [List.getD_eq_getElem?_getD, List.getElem?_eq_getElem hk]
  exact h _ (List.getElem_mem hk)
theorem val_held {ns cs : List Int} (hn : Held ns) (hc : Held cs) : ∀ {p : Part}, p.ok ns.length cs.length → 0 ≤ p.val ns cs ∧ p.val ns cs < 10007
  | .num _, h => h
  | .name _, h => getD_held hn h
  | .cell _, h => getD_held hc h
  | .bin o _ _, _ => ap_held o _ _
def stk (ns cs : List Int) : List Part → List Int
  | [] => []
  | .num i :: r => i :: stk ns cs r
  | .name k :: r => ns.getD k 0 :: stk ns cs r
  | .cell k :: r => cs.getD k 0 :: stk ns cs r
  | .bin o _ _ :: r => match stk ns cs r with
    | x :: y :: t => o.ap x y :: t
    | t => t
theorem stk_subs (ns cs : List Int) : ∀ (p : Part) (r : List Part), stk ns cs (p.subs ++ r) = p.val ns cs :: stk ns cs r
  | .num _, _ => rfl
  | .name _, _ => rfl
  | .cell _, _ => rfl
  | .bin o a b, r => by
    have e : (Part.bin o a b).subs ++ r = .bin o a b :: (a.subs ++ (b.subs ++ r)) := by simp [Part.subs]
    rw [e]
    have e2 : stk ns cs (.bin o a b :: (a.subs ++ (b.subs ++ r))) = match stk ns cs (a.subs ++ (b.subs ++ r)) with
      | x :: y :: t => o.ap x y :: t
      | t => t := rfl
    rw [e2, stk_subs ns cs a, stk_subs ns cs b]
    rfl
theorem stk_len (ns cs : List Int) : ∀ ps : List Part, (stk ns cs ps).length ≤ ps.length
  | [] => Nat.le_refl _
  | .num _ :: r => by simpa [stk] using stk_len ns cs r
  | .name _ :: r => by simpa [stk] using stk_len ns cs r
  | .cell _ :: r => by simpa [stk] using stk_len ns cs r
  | .bin o a b :: r => by
    have h := stk_len ns cs r
    have e2 : stk ns cs (.bin o a b :: r) = match stk ns cs r with
      | x :: y :: t => o.ap x y :: t
      | t => t := rfl
    rw [e2]
    split
    · rename_i x y t e
      rw [e] at h
      simp only [List.length_cons] at h ⊢
      omega
    · rw [List.length_cons]
      omega
theorem suffix_sub {n c : Nat} : ∀ (p : Part) (r : List Part) (j : Nat), p.ok n c → j < p.size → ∃ (q : Part) (r' : List Part), (p.subs ++ r).drop j = q.subs ++ r' ∧ q.ok n c
  | .num i, r, j, h, hj => ⟨.num i, r, by have : j = 0 := by simpa [Part.size] using hj
                                          rw [this]; rfl, h⟩
  | .name i, r, j, h, hj => ⟨.name i, r, by have : j = 0 := by simpa [Part.size] using hj
                                            rw [this]; rfl, h⟩
  | .cell i, r, j, h, hj => ⟨.cell i, r, by have : j = 0 := by simpa [Part.size] using hj
                                            rw [this]; rfl, h⟩
  | .bin o a b, r, j, h, hj => by
    have e : (Part.bin o a b).subs ++ r = .bin o a b :: (a.subs ++ (b.subs ++ r)) := by simp [Part.subs]
    cases j with
    | zero => exact ⟨.bin o a b, r, rfl, h⟩
    | succ j =>
      rw [e, List.drop_succ_cons]
      by_cases hja : j < a.size
      · exact suffix_sub a (b.subs ++ r) j h.1 hja
      · have e2 : (a.subs ++ (b.subs ++ r)).drop j = (b.subs ++ r).drop (j - a.size) := by
          rw [List.drop_append, subs_len, List.drop_eq_nil_of_le (by rw [subs_len]; omega), List.nil_append]
        rw [e2]
        exact suffix_sub b r (j - a.size) h.2 (by simp only [Part.size] at hj; omega)
theorem atI_map {ns : List Int} {k : Nat} (h : k < ns.length) : atI (ns.map V.int) (k : Int) = some (.int (ns.getD k 0)) := by
  refine atI_nat ?_
  rw [List.getElem?_map, List.getElem?_eq_getElem h, List.getD_eq_getElem?_getD, List.getElem?_eq_getElem h]
  rfl
theorem rd_reckoned (vs : List V) (H : Hp) (Q : VK) (E : XK) (h : sp_reckoned K vs H Q E) : t_reckoned K { nx := fun _ H' => Q .non H', rt := Q } (start n_reckoned vs) H := by
  obtain ⟨F, a, n, c, p, ns, cs, rfl, sF, hp, hz, ok, hn, hc, ln, lc, q⟩ := h
  refine ⟨Nat.zero_le _, fun lm hlm => ?_⟩
  have s1 : Sat F ([(lm, .lst [])] ++ []) (upd H lm (.lst [])) := (Sat.nil sF).new hlm
  have sub : Same F (addR F [(lm, .lst [])]) := same_addR fun e he => s1.off e (by simpa using he)
  refine ⟨_, rfl, _, F, a, p, rfl, s1.focus.fr, sub, hp, hz, fun lf xs H2 hxF s2 => ?_⟩
  have s3 := s1.unfocus s2
  have lx : xs.length = p.size := by rw [hxF.length, subs_len]
  refine ⟨lf, xs, rfl, SqL.of (s3.get (List.mem_cons_of_mem _ List.mem_cons_self)), ?_⟩
  refine RT.for_Itv (K := K) (fun i σ H' => ∃ (v4 v5 v6 : Option V), σ = [some (.ref a), some (.ref n), some (.ref c), some (.ref lm), v4, v5, v6] ∧ Sat F [(lm, .lst ((stk ns cs (p.subs.drop (xs.length - i))).reverse.map V.int)), (lf, .lst xs)] H')
    ⟨none, none, none, rfl, ?_⟩ (fun i σ H' ⟨_, _, _, _, w⟩ => SqL.of (w.get (List.mem_cons_of_mem _ List.mem_cons_self))) ?_ ?_
  · rw [Nat.sub_zero, List.drop_eq_nil_of_le (by rw [subs_len, lx]; exact Nat.le_refl _)]
    exact s3
  · rintro i x σ H3 hi hx ⟨v4, v5, v6, rfl, w⟩
    obtain ⟨b, p', rfl, hp', hb⟩ := hxF.get hx
    obtain ⟨y, r, e1, oky⟩ := suffix_sub p [] (xs.length - 1 - i) ok (by omega)
    rw [List.append_nil] at e1
    have e2 : p.subs.drop (xs.length - i) = (y.subs ++ r).drop 1 := by
      rw [← e1, List.drop_drop]
      congr 1
      omega
    have e3 : y = p' := by
      have : (p.subs.drop (xs.length - 1 - i))[0]? = some p' := by rw [List.getElem?_drop]; simpa using hp'
      rw [e1, subs_kids] at this
      simpa using this
    subst e3
    have e4 : p.subs.drop (xs.length - (i + 1)) = y.subs ++ r := by
      rw [← e1]
      congr 1
      omega
    have e5 : stk ns cs (p.subs.drop (xs.length - (i + 1))) = y.val ns cs :: stk ns cs r := by rw [e4, stk_subs]
    rw [e2] at w
    have wl : ∀ ps : List Part, (stk ns cs ps).length ≤ ps.length := stk_len ns cs
    have wl2 : (stk ns cs ((y.subs ++ r).drop 1)).length ≤ 5000 := by
      have h1 := wl ((y.subs ++ r).drop 1)
      have h2 : ((y.subs ++ r).drop 1).length ≤ p.subs.length := by
        rw [← e2, List.length_drop]
        omega
      rw [subs_len] at h2
      omega
    have wsz : ∀ zs : List Int, zs.length ≤ 5000 → (zs.reverse.map V.int).length < sizeLine := fun zs hz => by
      rw [List.length_map, List.length_reverse]
      exact Nat.lt_of_le_of_lt hz (by decide)
    cases y with
    | num z =>
      have t4 : SqT K H3 b [.str "num", .int z] := same_seqT w.fr hb
      have v4' : Val (tOp (rIxT K) (tVar 4) (tC (.int 0))) [some (.ref a), some (.ref n), some (.ref c), some (.ref lm), some (.ref b), v5, v6] H3 (.str "num") := fun Q q => ⟨_, rfl, b, _, 0, _, rfl, rfl, t4, at_of (j := 0) rfl rfl, q⟩
      refine tsEq v4' val_c (b := true) (by decide +kernel) (iteT ?_)
      refine ⟨_, rfl, .inl ⟨rfl, _, SqL.of (w.get List.mem_cons_self)⟩, _, rfl, b, _, 1, _, rfl, rfl, t4, at_of (j := 1) rfl rfl, lm, _, _, rfl, rfl, w.get List.mem_cons_self, wsz _ wl2, ?_⟩
      refine ⟨_, _, _, rfl, ?_⟩
      rw [e5]
      have w2 := w.put (u := .lst ((stk ns cs ((Part.num z).subs ++ r |>.drop 1)).reverse.map V.int ++ [V.int z]))
      have e6 : ((Part.num z).val ns cs :: stk ns cs r).reverse.map V.int = (stk ns cs ((Part.num z).subs ++ r |>.drop 1)).reverse.map V.int ++ [V.int z] := by simp [Part.subs, Part.val]
      rw [e6]
      exact w2
    | name z =>
      have t4 : SqT K H3 b [.str "name", .int z] := same_seqT w.fr hb
      have v4' : Val (tOp (rIxT K) (tVar 4) (tC (.int 0))) [some (.ref a), some (.ref n), some (.ref c), some (.ref lm), some (.ref b), v5, v6] H3 (.str "name") := fun Q q => ⟨_, rfl, b, _, 0, _, rfl, rfl, t4, at_of (j := 0) rfl rfl, q⟩
      refine tsEq v4' val_c (b := false) (by decide +kernel) (iteF ?_)
      refine tsEq v4' val_c (b := true) (by decide +kernel) (iteT ?_)
      refine ⟨_, rfl, .inl ⟨rfl, _, SqL.of (w.get List.mem_cons_self)⟩, _, rfl, _, rfl, b, _, 1, _, rfl, rfl, t4, at_of (j := 1) rfl rfl, n, _, _, _, rfl, rfl, w.fr.seq ln, atI_map oky, lm, _, _, rfl, rfl, w.get List.mem_cons_self, wsz _ wl2, ?_⟩
      refine ⟨_, _, _, rfl, ?_⟩
      rw [e5]
      have w2 := w.put (u := .lst ((stk ns cs ((Part.name z).subs ++ r |>.drop 1)).reverse.map V.int ++ [V.int (ns.getD z 0)]))
      have e6 : ((Part.name z).val ns cs :: stk ns cs r).reverse.map V.int = (stk ns cs ((Part.name z).subs ++ r |>.drop 1)).reverse.map V.int ++ [V.int (ns.getD z 0)] := by simp [Part.subs, Part.val]
      rw [e6]
      exact w2
    | cell z =>
      have t4 : SqT K H3 b [.str "cell", .int z] := same_seqT w.fr hb
      have v4' : Val (tOp (rIxT K) (tVar 4) (tC (.int 0))) [some (.ref a), some (.ref n), some (.ref c), some (.ref lm), some (.ref b), v5, v6] H3 (.str "cell") := fun Q q => ⟨_, rfl, b, _, 0, _, rfl, rfl, t4, at_of (j := 0) rfl rfl, q⟩
      refine tsEq v4' val_c (b := false) (by decide +kernel) (iteF ?_)
      refine tsEq v4' val_c (b := false) (by decide +kernel) (iteF ?_)
      refine tsEq v4' val_c (b := true) (by decide +kernel) (iteT ?_)
      refine ⟨_, rfl, .inl ⟨rfl, _, SqL.of (w.get List.mem_cons_self)⟩, _, rfl, _, rfl, b, _, 1, _, rfl, rfl, t4, at_of (j := 1) rfl rfl, c, _, _, _, rfl, rfl, w.fr.seq lc, atI_map oky, lm, _, _, rfl, rfl, w.get List.mem_cons_self, wsz _ wl2, ?_⟩
      refine ⟨_, _, _, rfl, ?_⟩
      rw [e5]
      have w2 := w.put (u := .lst ((stk ns cs ((Part.cell z).subs ++ r |>.drop 1)).reverse.map V.int ++ [V.int (cs.getD z 0)]))
      have e6 : ((Part.cell z).val ns cs :: stk ns cs r).reverse.map V.int = (stk ns cs ((Part.cell z).subs ++ r |>.drop 1)).reverse.map V.int ++ [V.int (cs.getD z 0)] := by simp [Part.subs, Part.val]
      rw [e6]
      exact w2
    | bin o y1 y2 =>
      obtain ⟨b1, b2, tF, hb1, hb2⟩ := hb
      have t4 : SqT K H3 b [.str o.str, .ref b1, .ref b2] := same_seqT w.fr tF
      have v4' : Val (tOp (rIxT K) (tVar 4) (tC (.int 0))) [some (.ref a), some (.ref n), some (.ref c), some (.ref lm), some (.ref b), v5, v6] H3 (.str o.str) := fun Q q => ⟨_, rfl, b, _, 0, _, rfl, rfl, t4, at_of (j := 0) rfl rfl, q⟩
      refine tsEq v4' val_c (b := false) (by cases o <;> decide +kernel) (iteF ?_)
      refine tsEq v4' val_c (b := false) (by cases o <;> decide +kernel) (iteF ?_)
      refine tsEq v4' val_c (b := false) (by cases o <;> decide +kernel) (iteF ?_)
      have e7 : stk ns cs ((Part.bin o y1 y2).subs ++ r |>.drop 1) = y1.val ns cs :: y2.val ns cs :: stk ns cs r := by
        have : ((Part.bin o y1 y2).subs ++ r).drop 1 = y1.subs ++ (y2.subs ++ r) := by simp [Part.subs]
        rw [this, stk_subs, stk_subs]
      rw [e7] at w wl2
      have e8 : (y1.val ns cs :: y2.val ns cs :: stk ns cs r).reverse.map V.int = (stk ns cs r).reverse.map V.int ++ [V.int (y2.val ns cs)] ++ [V.int (y1.val ns cs)] := by simp
      rw [e8] at w
      have pop : ∀ (zs : List V) (z : V), (zs ++ [z])[(zs ++ [z]).length - 1]? = some z := fun zs z => by simp
      refine ⟨_, rfl, .inl ⟨rfl, _, SqL.of (w.get List.mem_cons_self)⟩, lm, _, _, rfl, rfl, w.get List.mem_cons_self, pop _ _, ?_⟩
      rw [List.dropLast_concat]
      have w2 := w.put (u := .lst ((stk ns cs r).reverse.map V.int ++ [V.int (y2.val ns cs)]))
      refine ⟨_, rfl, .inl ⟨rfl, _, SqL.of (w2.get List.mem_cons_self)⟩, lm, _, _, rfl, rfl, w2.get List.mem_cons_self, pop _ _, ?_⟩
      rw [List.dropLast_concat]
      have w3 := w2.put (u := .lst ((stk ns cs r).reverse.map V.int))
      refine ⟨_, rfl, .inl ⟨rfl, _, SqL.of (w3.get List.mem_cons_self)⟩, _, rfl, b, _, 0, _, rfl, rfl, same_seqT w3.fr tF, at_of (j := 0) rfl rfl, _, rfl, _, rfl, o, y1.val ns cs, y2.val ns cs, rfl, val_held hn hc oky.1, val_held hn hc oky.2, ?_⟩
      refine ⟨lm, _, _, rfl, rfl, w3.get List.mem_cons_self, ?_, ?_⟩
      · rw [List.length_map, List.length_reverse]
        simp only [List.length_cons] at wl2
        exact Nat.lt_of_le_of_lt (by omega : _ ≤ 5000) (by decide)
      refine ⟨_, _, _, rfl, ?_⟩
      rw [e5]
      have w4 := w3.put (u := .lst ((stk ns cs r).reverse.map V.int ++ [V.int (o.ap (y1.val ns cs) (y2.val ns cs))]))
      have e6 : ((Part.bin o y1 y2).val ns cs :: stk ns cs r).reverse.map V.int = (stk ns cs r).reverse.map V.int ++ [V.int (o.ap (y1.val ns cs) (y2.val ns cs))] := by simp [Part.val]
      rw [e6]
      exact w4
  · rintro σ H3 ⟨v4, v5, v6, rfl, w⟩
    rw [Nat.sub_self, List.drop_zero] at w
    have e := stk_subs ns cs p []
    rw [List.append_nil] at e
    rw [e] at w
    refine ⟨_, rfl, lm, _, 0, _, rfl, rfl, SqL.of (w.get List.mem_cons_self), at_of (j := 0) rfl rfl, ?_⟩
    exact q H3 w.fr
end
end S
set_option Elab.async false
set_option linter.all false
set_option maxRecDepth 100000
set_option maxHeartbeats 4000000
namespace S
open PySem PySem.Spec PyProof.Rows L2
structure Fx (K : PySem.W.Frag) : Prop where
  cls_Scope : Cls K (He.ga K "Scope")
  na_Scope_many_cells : NoAttr K (He.ga K "Scope") "many_cells"
  na_Scope_many_names : NoAttr K (He.ga K "Scope") "many_names"
  na_Scope_params : NoAttr K (He.ga K "Scope") "params"
  cls_Block : Cls K (He.ga K "Block")
  na_Block_deeds : NoAttr K (He.ga K "Block") "deeds"
  na_Block_rounds : NoAttr K (He.ga K "Block") "rounds"
  na_Block_at : NoAttr K (He.ga K "Block") "at"
  cls_Frame : Cls K (He.ga K "Frame")
  na_Frame_fun : NoAttr K (He.ga K "Frame") "fun"
  na_Frame_names : NoAttr K (He.ga K "Frame") "names"
  na_Frame_blocks : NoAttr K (He.ga K "Frame") "blocks"
  cls_Hand : Cls K (He.ga K "Hand")
  na_Hand_frames : NoAttr K (He.ga K "Hand") "frames"
  cls_Deed : Cls K (He.ga K "Deed")
  na_Deed_place : NoAttr K (He.ga K "Deed") "place"
  na_Deed_fun : NoAttr K (He.ga K "Deed") "fun"
  na_Deed_told : NoAttr K (He.ga K "Deed") "told"
  na_Deed_bodies : NoAttr K (He.ga K "Deed") "bodies"
  cls_Layout : Cls K (He.ga K "Layout")
  na_Layout_deeds : NoAttr K (He.ga K "Layout") "deeds"
  na_Layout_bodies : NoAttr K (He.ga K "Layout") "bodies"
  cls_Machine : Cls K (He.ga K "Machine")
  na_Machine_names_of : NoAttr K (He.ga K "Machine") "names_of"
  na_Machine_layout : NoAttr K (He.ga K "Machine") "layout"
  na_Machine_held : NoAttr K (He.ga K "Machine") "held"
  na_Machine_spoken : NoAttr K (He.ga K "Machine") "spoken"
  na_Machine_hands : NoAttr K (He.ga K "Machine") "hands"
  na_Machine_up : NoAttr K (He.ga K "Machine") "up"
structure Gx (K : PySem.W.Frag) : Prop where
  cls_Stop : Cls K (He.ga K "Stop")
  na_Stop_place : NoAttr K (He.ga K "Stop") "place"
  na_Stop_hand : NoAttr K (He.ga K "Stop") "hand"
  na_Stop_wish : NoAttr K (He.ga K "Stop") "wish"
  cls_Going : Cls K (He.ga K "Going")
  na_Going_machine : NoAttr K (He.ga K "Going") "machine"
  na_Going_stops : NoAttr K (He.ga K "Going") "stops"
  na_Going_hand : NoAttr K (He.ga K "Going") "hand"
  na_Going_way : NoAttr K (He.ga K "Going") "way"
  na_Going_many : NoAttr K (He.ga K "Going") "many"
  na_Going_done : NoAttr K (He.ga K "Going") "done"
  na_Going_done_by_hand : NoAttr K (He.ga K "Going") "done_by_hand"
  na_Going_depth : NoAttr K (He.ga K "Going") "depth"
  cls_Watched : Cls K (He.ga K "Watched")
  na_Watched_machine : NoAttr K (He.ga K "Watched") "machine"
  na_Watched_program : NoAttr K (He.ga K "Watched") "program"
  na_Watched_stops : NoAttr K (He.ga K "Watched") "stops"
  na_Watched_next_stop : NoAttr K (He.ga K "Watched") "next_stop"
structure Blk where
  pl : List Nat
  at_ : Nat
  rounds : Nat
structure Frm where
  fn : Nat
  names : List Int
  bs : List Blk
structure GB where
  a : Addr
  dx : Addr
  l : Addr
  b : Blk
structure GF where
  a : Addr
  dx : Addr
  nm : Addr
  bl : Addr
  fn : Nat
  names : List Int
  bs : List GB
def GF.m (g : GF) : Frm := ⟨g.fn, g.names, g.bs.map GB.b⟩
def blkO (K : PySem.W.Frag) (g : GB) : HO := .ins (He.ga K "Block") g.dx [("deeds", .ref g.l), ("rounds", .int (g.b.rounds : Nat)), ("at", .int (g.b.at_ : Nat))]
def frmO (K : PySem.W.Frag) (g : GF) : HO := .ins (He.ga K "Frame") g.dx [("fun", .int (g.fn : Nat)), ("names", .ref g.nm), ("blocks", .ref g.bl)]
def bsR (K : PySem.W.Frag) (bs : List GB) : Reg := bs.map fun g => (g.a, blkO K g)
def bsL (bs : List GB) : HO := .lst ((bs.map GB.a).reverse.map V.ref)
def GF.reg (K : PySem.W.Frag) (g : GF) : Reg := (g.bl, bsL g.bs) :: (g.a, frmO K g) :: (g.nm, .lst (g.names.map V.int)) :: bsR K g.bs
def DL (K : PySem.W.Frag) (G : Hp) (da : Nat → Addr) (l : Addr) (pl : List Nat) : Prop := SqL K G l (pl.map fun p => V.ref (da p))
def GB.Wf (K : PySem.W.Frag) (G : Hp) (da : Nat → Addr) (b : GB) : Prop := DL K G da b.l b.b.pl ∧ 1 ≤ b.b.rounds
def GF.Wf (K : PySem.W.Frag) (G : Hp) (da : Nat → Addr) (g : GF) : Prop := ∀ b ∈ g.bs, b.Wf K G da
def settleB : List Blk → List Blk
  | [] => []
  | b :: bs => if b.at_ < b.pl.length then b :: bs else if b.pl.length = 0 ∨ b.rounds ≤ 1 then settleB bs else ⟨b.pl, 0, b.rounds - 1⟩ :: bs
def Frm.moveOn (f : Frm) : Frm := match f.bs with
  | [] => f
  | b :: bs => { f with bs := { b with at_ := b.at_ + 1 } :: bs }
def Frm.enter (f : Frm) (pl : List Nat) (r : Nat) : Frm := if r = 0 then f else { f with bs := ⟨pl, 0, r⟩ :: f.bs }
def Frm.settle (f : Frm) : Frm := { f with bs := settleB f.bs }
def sp_Block_init (K : PySem.W.Frag) : Sp := fun vs H Q _ => ∃ (x dx l : Addr) (r : Int), vs = [.ref x, .ref l, .int r] ∧ H x = some (.ins (He.ga K "Block") dx []) ∧
  Q .non (upd H x (.ins (He.ga K "Block") dx [("deeds", .ref l), ("rounds", .int r), ("at", .int 0)]))
def sp_Frame_init (K : PySem.W.Frag) : Sp := fun vs H Q _ => ∃ (F G : Hp) (da : Nat → Addr) (x dx nm l : Addr) (fn : Nat) (names : List Int) (pl : List Nat), vs = [.ref x, .int (fn : Nat), .ref nm, .ref l] ∧
  Sat F [(x, .ins (He.ga K "Frame") dx []), (nm, .lst (names.map V.int))] H ∧ DL K G da l pl ∧
  ∀ (g : GF) (H' : Hp), g.a = x → g.m = ⟨fn, names, [⟨pl, 0, 1⟩]⟩ → g.Wf K G da → Sat F (g.reg K) H' → Q .non H'
def sp_Frame_deed (K : PySem.W.Frag) : Sp := fun vs H Q _ => ∃ (da : Nat → Addr) (g : GF) (b : GB) (bs : List GB) (p : Nat), vs = [.ref g.a] ∧ H g.a = some (frmO K g) ∧ H g.bl = some (bsL g.bs) ∧ g.bs = b :: bs ∧ H b.a = some (blkO K b) ∧
  DL K H da b.l b.b.pl ∧ b.b.pl[b.b.at_]? = some p ∧ Q (.ref (da p)) H
def sp_Frame_move_on (K : PySem.W.Frag) : Sp := fun vs H Q _ => ∃ (F G : Hp) (da : Nat → Addr) (g : GF), vs = [.ref g.a] ∧ Sat F (g.reg K) H ∧ g.Wf K G da ∧ g.bs ≠ [] ∧
  ∀ (g' : GF) (H' : Hp), g'.a = g.a → g'.m = g.m.moveOn → g'.Wf K G da → Sat F (g'.reg K) H' → Q .non H'
def sp_Frame_enter (K : PySem.W.Frag) : Sp := fun vs H Q _ => ∃ (F G : Hp) (da : Nat → Addr) (g : GF) (l : Addr) (r : Nat) (pl : List Nat), vs = [.ref g.a, .ref l, .int (r : Nat)] ∧ Sat F (g.reg K) H ∧ g.Wf K G da ∧ DL K G da l pl ∧ g.bs.length < 16000000 ∧
  ∀ (g' : GF) (H' : Hp), g'.a = g.a → g'.m = g.m.enter pl r → g'.Wf K G da → Sat F (g'.reg K) H' → Q .non H'
def sp_Frame_find_deed (K : PySem.W.Frag) : Sp := fun vs H Q _ => ∃ (F G : Hp) (da : Nat → Addr) (g : GF), vs = [.ref g.a] ∧ Same G F ∧ Sat F (g.reg K) H ∧ g.Wf K G da ∧
  ∀ (g' : GF) (H' : Hp), g'.a = g.a → g'.m = g.m.settle → g'.Wf K G da → Sat F (g'.reg K) H' → Q (.bl (!(settleB g.m.bs).isEmpty)) H'
end S
set_option Elab.async false
set_option linter.all false
set_option maxRecDepth 100000
namespace S
open PySem PySem.Spec PyProof.Rows L2
def n_Block_init : List Str := ["self", "deeds", "rounds"]
def t_Block_init (K : PySem.W.Frag) : TS :=
    (tSeq (sFld K (tVar 0) (tVar 1) "deeds")
    (tSeq (sFld K (tVar 0) (tVar 2) "rounds")
    (sFld K (tVar 0) (tC (.int 0)) "at")))
def n_Frame_init : List Str := ["self", "fun", "names", "deeds"]
def t_Frame_init (K : PySem.W.Frag) : TS :=
    (tSeq (sFld K (tVar 0) (tVar 1) "fun")
    (tSeq (sFld K (tVar 0) (tVar 2) "names")
    (sFld K (tVar 0) (tLst (tCons (tMake (He.ga K "Block") (sp_Block_init K) [] E0 (tCons (tVar 3) (tCons (tC (.int 1)) tNil))) tNil)) "blocks")))
def n_Frame_deed : List Str := ["self", "block"]
def t_Frame_deed (K : PySem.W.Frag) : TS :=
    (tSeq (tAsg (tOp (rIxL K) (tFld K (tVar 0) "blocks") (tUn (rU fun i => .int (-i)) (tC (.int 1)))) (gName 1))
    (tRet (tOp (rIxL K) (tFld K (tVar 1) "deeds") (tFld K (tVar 1) "at"))))
def n_Frame_move_on : List Str := ["self", "block"]
def t_Frame_move_on (K : PySem.W.Frag) : TS :=
    (tSeq (tAsg (tOp (rIxL K) (tFld K (tVar 0) "blocks") (tUn (rU fun i => .int (-i)) (tC (.int 1)))) (gName 1))
    (sFldAug K (tVar 1) (tC (.int 1)) rAdd "at"))
def n_Frame_enter : List Str := ["self", "deeds", "rounds"]
def t_Frame_enter (K : PySem.W.Frag) : TS :=
    (tIfS (tTest (tOp (rI0 fun i j => .bl (decide (j < i))) (tVar 2) (tC (.int 0))))
      (tDrop (tBM K "list" rAppend (tFld K (tVar 0) "blocks") (tCons (tMake (He.ga K "Block") (sp_Block_init K) [] E0 (tCons (tVar 1) (tCons (tVar 2) tNil))) tNil)))
      tNext)
def n_Frame_find_deed : List Str := ["self", "block"]
def t_Frame_find_deed (K : PySem.W.Frag) : TS :=
    (tSeq (tWhile (tTru K (tFld K (tVar 0) "blocks"))
      (tSeq (tAsg (tOp (rIxL K) (tFld K (tVar 0) "blocks") (tUn (rU fun i => .int (-i)) (tC (.int 1)))) (gName 1))
      (tSeq (tIfS (tTest (tOp (rI0 fun i j => .bl (decide (i < j))) (tFld K (tVar 1) "at") (tCB (Evl.rLenS K) (tCons (tFld K (tVar 1) "deeds") tNil))))
        (tRet (tC (.bl true)))
        tNext)
      (tSeq (sFldAug K (tVar 1) (tC (.int 1)) rSub "rounds")
      (tSeq (sFld K (tVar 1) (tC (.int 0)) "at")
      (tIfS (tTest (tOp rEq (tFld K (tVar 1) "rounds") (tC (.int 0))))
        (tDrop (tBM0 K "list" rPop (tFld K (tVar 0) "blocks")))
        tNext))))))
    (tRet (tC (.bl false))))
end S
set_option Elab.async false
set_option linter.all false
set_option maxRecDepth 100000
set_option maxHeartbeats 4000000
namespace S
open PySem PySem.Spec PyProof.Rows L2
section
variable {K : PySem.W.Frag}
section
variable {D : Ends} {σ : L2.St} {H : Hp} {te : TE} {u t1 t2 : TS} {i : Nat} {v : V} {c : TT} {b : Bool}
theorem sq_set (h : Val te σ H v) (q : u D (σ.set i (some v)) H) : tSeq (tAsg te (gName i)) u D σ H := h _ q
theorem sq_asg (h : te σ H fun v H1 => u D (σ.set i (some v)) H1) : tSeq (tAsg te (gName i)) u D σ H := h
theorem sq_drop (h : te σ H fun _ H1 => u D σ H1) : tSeq (tDrop te) u D σ H := h
theorem sq_yes (h : Ans c σ H true) (q : t1 { D with nx := u D } σ H) : tSeq (tIfS c t1 t2) u D σ H := st_yes (D := { D with nx := u D }) h q
theorem sq_no (h : Ans c σ H false) (q : u D σ H) : tSeq (tIfS c t1 tNext) u D σ H := st_no (D := { D with nx := u D }) h q
theorem sq_fld {K : PySem.W.Frag} {ta tv : TE} {y : V} {a C dx : Addr} {fs : List (Str × V)} {f : Str} (hv : Val tv σ H y) (ha : Val ta σ H (.ref a)) (ho : H a = some (.ins C dx fs)) (hc : Cls K C) (hn : NoAttr K C f) (hl : fs.length < 1000) (q : u D σ (upd H a (.ins C dx (putF f y fs)))) : tSeq (sFld K ta tv f) u D σ H :=
  st_fld (D := { D with nx := u D }) hv ha ho hc hn hl q
theorem sq_aug {K : PySem.W.Frag} {ta tv : TE} {x y z : V} {rd : V → V → Hp → VK → Prop} {a C dx : Addr} {fs : List (Str × V)} {f : Str} (ha : Val ta σ H (.ref a)) (ho : H a = some (.ins C dx fs)) (hc : Cls K C) (hn : NoAttr K C f) (hk : fs.lookup f = some x) (hv : Val tv σ H y) (hr : ∀ Q : VK, Q z H → rd x y H Q)
    (hl : fs.length < 1000) (q : u D σ (upd H a (.ins C dx (putF f z fs)))) : tSeq (sFldAug K ta tv rd f) u D σ H := st_aug (D := { D with nx := u D }) ha ho hc hn hk hv hr hl q
theorem sq_noE (h : Ans c σ H false) (q : t2 { D with nx := u D } σ H) : tSeq (tIfS c t1 t2) u D σ H := st_no (D := { D with nx := u D }) h q
end
theorem st_retI {D : Ends} {σ : L2.St} {H : Hp} {te : TE} (h : te σ H D.rt) : tRet te D σ H := h
theorem st_dropI {D : Ends} {σ : L2.St} {H : Hp} {te : TE} (h : te σ H fun _ H1 => D.nx σ H1) : tDrop te D σ H := h
theorem st_asgI {D : Ends} {σ : L2.St} {H : Hp} {te : TE} {g : TG} (h : te σ H fun x H1 => g x σ H1 D.nx) : tAsg te g D σ H := h
theorem rd_Block_init (T : Fx K) (vs : List V) (H : Hp) (Q : VK) (E : XK) (h : sp_Block_init K vs H Q E) : t_Block_init K { nx := fun _ H' => Q .non H', rt := Q } (start n_Block_init vs) H := by
  obtain ⟨x, dx, l, r, rfl, hx, q⟩ := h
  refine ⟨_, rfl, _, rfl, x, _, dx, [], rfl, hx, T.cls_Block, T.na_Block_deeds, (by show 0 < 1000; decide), ?_⟩
  refine ⟨_, rfl, _, rfl, x, _, dx, _, rfl, upd_same, T.cls_Block, T.na_Block_rounds, (by show 1 < 1000; decide), ?_⟩
  refine ⟨_, rfl, x, _, dx, _, rfl, upd_same, T.cls_Block, T.na_Block_at, (by show 2 < 1000; decide), ?_⟩
  rw [upd_upd, upd_upd]
  exact q
theorem Sat.make {F H : Hp} {r : Reg} {x dx : Addr} {o u : HO} (s : Sat F r H) (hx : H x = none) (hd : H dx = none) (ne : dx ≠ x) : Sat F ((x, o) :: r) (upd (upd H dx u) x o) := by
  have h1 : upd H dx u x = none := by
    rw [upd_ne ne.symm]
    exact hx
  exact (s.temp hd).new h1
theorem rd_Frame_init (T : Fx K) (vs : List V) (H : Hp) (Q : VK) (E : XK) (h : sp_Frame_init K vs H Q E) : t_Frame_init K { nx := fun _ H' => Q .non H', rt := Q } (start n_Frame_init vs) H := by
  obtain ⟨F, G, da, x, dx, nm, l, fn, names, pl, rfl, s, hd, q⟩ := h
  refine ⟨_, rfl, _, rfl, x, _, dx, [], rfl, s.get List.mem_cons_self, T.cls_Frame, T.na_Frame_fun, (by show 0 < 1000; decide), ?_⟩
  have s1 := s.put (u := .ins (He.ga K "Frame") dx (putF "fun" (.int (fn : Nat)) []))
  refine ⟨_, rfl, _, rfl, x, _, dx, _, rfl, upd_same, T.cls_Frame, T.na_Frame_names, (by show 1 < 1000; decide), ?_⟩
  have s2 := s1.put (u := .ins (He.ga K "Frame") dx (putF "names" (.ref nm) (putF "fun" (.int (fn : Nat)) [])))
  generalize upd (upd H x _) x _ = H2 at s2 ⊢
  refine ⟨_, rfl, ?_⟩
  intro y dy hy hdy ne
  have s3 := s2.make (x := y) (dx := dy) (o := .ins (He.ga K "Block") dy []) (u := .own y) hy hdy ne
  refine ⟨y, dy, l, 1, rfl, upd_same, rfl, ?_⟩
  have s4 := s3.put (u := .ins (He.ga K "Block") dy [("deeds", .ref l), ("rounds", .int 1), ("at", .int 0)])
  generalize upd (upd (upd H2 dy _) y _) y _ = H3 at s4 ⊢
  refine ⟨(by show 1 ≤ sizeLine; decide), fun bl hbl => ?_⟩
  have s5 := s4.new (o := .lst [.ref y]) hbl
  have s6 : Sat F ((x, .ins (He.ga K "Frame") dx (putF "names" (.ref nm) (putF "fun" (.int (fn : Nat)) []))) :: (bl, .lst [.ref y]) :: (nm, .lst (names.map V.int)) :: [(y, .ins (He.ga K "Block") dy [("deeds", .ref l), ("rounds", .int 1), ("at", .int 0)])]) (upd H3 bl (.lst [.ref y])) := by
    refine s5.perm ?_
    refine (List.Perm.cons _ ?_).trans (List.Perm.swap _ _ _)
    exact (List.Perm.swap _ _ _).trans (List.Perm.cons _ (List.Perm.swap _ _ _))
  refine ⟨_, rfl, x, _, dx, _, rfl, s6.get List.mem_cons_self, T.cls_Frame, T.na_Frame_blocks, (by show 2 < 1000; decide), ?_⟩
  have s7 := s6.put (u := .ins (He.ga K "Frame") dx (putF "blocks" (.ref bl) (putF "names" (.ref nm) (putF "fun" (.int (fn : Nat)) []))))
  refine q ⟨x, dx, nm, bl, fn, names, [⟨y, dy, l, ⟨pl, 0, 1⟩⟩]⟩ _ rfl rfl ?_ (s7.perm (List.Perm.swap _ _ _))
  intro b hb
  have e : b = ⟨y, dy, l, ⟨pl, 0, 1⟩⟩ := by simpa using hb
  rw [e]
  exact ⟨hd, Nat.le_refl 1⟩
theorem val_top {σ : L2.St} {H : Hp} {ta : TE} {g : GF} {b : GB} {bs : List GB} (T : Fx K) (ha : Val ta σ H (.ref g.a)) (h1 : H g.a = some (frmO K g)) (h2 : H g.bl = some (bsL g.bs)) (e : g.bs = b :: bs) :
    Val (tOp (rIxL K) (tFld K ta "blocks") (tUn (rU fun i => .int (-i)) (tC (.int 1)))) σ H (.ref b.a) := by
  intro Q q
  refine val_fld ha h1 T.cls_Frame T.na_Frame_blocks rfl _ ?_
  refine ⟨1, rfl, g.bl, ((g.bs.map GB.a).reverse.map V.ref), -1, _, rfl, rfl, SqL.of h2, ?_, q⟩
  rw [e, List.map_cons, List.reverse_cons, List.map_append]
  exact atI_last _ _
theorem rd_Frame_deed (T : Fx K) (vs : List V) (H : Hp) (Q : VK) (E : XK) (h : sp_Frame_deed K vs H Q E) : t_Frame_deed K { nx := fun _ H' => Q .non H', rt := Q } (start n_Frame_deed vs) H := by
  obtain ⟨da, g, b, bs, p, rfl, h1, h2, e, h3, hl, hp, q⟩ := h
  refine sq_set (val_top T (val_var rfl) h1 h2 e) ?_
  have v1 : Val (tVar 1) [some (.ref g.a), some (.ref b.a)] H (.ref b.a) := val_var rfl
  refine st_retI ?_
  refine val_fld v1 h3 T.cls_Block T.na_Block_deeds rfl _ ?_
  refine val_fld v1 h3 T.cls_Block T.na_Block_at rfl _ ?_
  refine ⟨b.l, _, _, _, rfl, rfl, hl, atI_nat (j := b.b.at_) ?_, q⟩
  rw [List.getElem?_map, hp]
  rfl
theorem reg_cons {g : GF} {b : GB} {bs : List GB} (e : g.bs = b :: bs) : (g.reg K).Perm ((b.a, blkO K b) :: (g.bl, bsL g.bs) :: (g.a, frmO K g) :: (g.nm, .lst (g.names.map V.int)) :: bsR K bs) := by
  unfold GF.reg
  rw [e]
  have : bsR K (b :: bs) = (b.a, blkO K b) :: bsR K bs := rfl
  rw [this]
  refine (List.Perm.cons _ (List.Perm.cons _ (List.Perm.swap _ _ _))).trans ?_
  exact (List.Perm.cons _ (List.Perm.swap _ _ _)).trans (List.Perm.swap _ _ _)
theorem rd_Frame_move_on (T : Fx K) (vs : List V) (H : Hp) (Q : VK) (E : XK) (h : sp_Frame_move_on K vs H Q E) : t_Frame_move_on K { nx := fun _ H' => Q .non H', rt := Q } (start n_Frame_move_on vs) H := by
  obtain ⟨F, G, da, g, rfl, s, wf, ne, q⟩ := h
  cases e : g.bs with
  | nil => exact absurd e ne
  | cons b bs =>
    have s1 := s.perm (reg_cons e)
    have h3 := s1.get List.mem_cons_self
    refine st_seq (st_set (val_top T (val_var rfl) (s1.get (List.mem_cons_of_mem _ (List.mem_cons_of_mem _ List.mem_cons_self))) (s1.get (List.mem_cons_of_mem _ List.mem_cons_self)) e) ?_)
    refine ⟨_, rfl, b.a, _, b.dx, _, _, rfl, h3, T.cls_Block, T.na_Block_at, rfl, ?_⟩
    refine ⟨_, _, rfl, rfl, b.dx, _, h3, (by show 3 < 1000; decide), ?_⟩
    have s2 := s1.put (u := blkO K { b with b := { b.b with at_ := b.b.at_ + 1 } })
    have s3 : Sat F (GF.reg K { g with bs := { b with b := { b.b with at_ := b.b.at_ + 1 } } :: bs }) (upd H b.a (blkO K { b with b := { b.b with at_ := b.b.at_ + 1 } })) := by
      refine Sat.perm ?_ (reg_cons (K := K) (g := { g with bs := { b with b := { b.b with at_ := b.b.at_ + 1 } } :: bs }) rfl).symm
      rw [e] at s2
      exact s2
    refine q { g with bs := { b with b := { b.b with at_ := b.b.at_ + 1 } } :: bs } _ rfl ?_ ?_ s3
    · unfold GF.m
      rw [e]
      rfl
    · intro c hc
      rcases List.mem_cons.mp hc with z | z
      · rw [z]
        exact wf b (by rw [e]; exact List.mem_cons_self)
      · exact wf c (by rw [e]; exact List.mem_cons_of_mem _ z)
theorem rd_Frame_enter (T : Fx K) (vs : List V) (H : Hp) (Q : VK) (E : XK) (h : sp_Frame_enter K vs H Q E) : t_Frame_enter K { nx := fun _ H' => Q .non H', rt := Q } (start n_Frame_enter vs) H := by
  obtain ⟨F, G, da, g, l, r, pl, rfl, s, wf, hd, hz, q⟩ := h
  refine ⟨_, rfl, _, _, rfl, rfl, decide (0 < (r : Int)), rfl, ?_⟩
  refine iteB (fun hb => ?_) (fun hb => ?_)
  · have hr : 0 < r := by
      have := of_decide_eq_true hb
      omega
    have v0 : Val (tVar 0) [some (.ref g.a), some (.ref l), some (.int (r : Nat))] H (.ref g.a) := val_var rfl
    refine st_dropI ?_
    refine val_fld v0 (s.get (List.mem_cons_of_mem _ List.mem_cons_self)) T.cls_Frame T.na_Frame_blocks rfl _ ?_
    refine ⟨.inl ⟨rfl, _, SqL.of (s.get List.mem_cons_self)⟩, _, rfl, _, rfl, ?_⟩
    intro y dy hy hdy ne
    have s3 := s.make (x := y) (dx := dy) (o := .ins (He.ga K "Block") dy []) (u := .own y) hy hdy ne
    refine ⟨y, dy, l, r, rfl, upd_same, rfl, ?_⟩
    have s4 := s3.put (u := .ins (He.ga K "Block") dy [("deeds", .ref l), ("rounds", .int (r : Nat)), ("at", .int 0)])
    generalize upd (upd (upd H dy _) y _) y _ = H3 at s4 ⊢
    have s5 := s4.perm (List.Perm.swap _ _ _)
    refine ⟨g.bl, _, _, rfl, rfl, s5.get List.mem_cons_self, ?_, ?_⟩
    · rw [List.length_map, List.length_reverse, List.length_map]
      exact Nat.lt_trans hz (by decide)
    · have s6 := s5.put (u := .lst ((g.bs.map GB.a).reverse.map V.ref ++ [.ref y]))
      refine q { g with bs := ⟨y, dy, l, ⟨pl, 0, r⟩⟩ :: g.bs } _ rfl ?_ ?_ ?_
      · show _ = Frm.enter _ _ _
        unfold Frm.enter
        rw [if_neg (by omega)]
        rfl
      · intro c hc
        rcases List.mem_cons.mp hc with z | z
        · rw [z]
          exact ⟨hd, hr⟩
        · exact wf c z
      · refine s6.perm ?_
        unfold GF.reg bsL
        rw [List.map_cons, List.reverse_cons, List.map_append]
        refine List.Perm.cons _ ?_
        exact (List.Perm.swap _ _ _).trans (List.Perm.cons _ (List.Perm.swap _ _ _))
  · have hr : r = 0 := by
      have := of_decide_eq_false hb
      omega
    refine q g H rfl ?_ wf s
    unfold Frm.enter
    rw [if_pos hr]

theorem get_last (zs : List V) (z : V) : (zs ++ [z])[(zs ++ [z]).length - 1]? = some z := by simp
def rsum (bs : List GB) : Nat := (bs.map fun b => b.b.rounds).sum
theorem val_len {σ : L2.St} {H : Hp} {ta : TE} {l : Addr} {xs : List V} (ha : Val ta σ H (.ref l)) (h : SqL K H l xs) : Val (tCB (Evl.rLenS K) (tCons ta tNil)) σ H (.int (xs.length : Nat)) := by
  intro Q q
  refine ha _ ?_
  exact ⟨l, xs, rfl, .inl h, q⟩
theorem ans_lt {σ : L2.St} {H : Hp} {ta tb : TE} {i j : Int} {b : Bool} (ha : Val ta σ H (.int i)) (hb : Val tb σ H (.int j)) (e : decide (i < j) = b) : Ans (tTest (tOp (rI0 fun i j => .bl (decide (i < j))) ta tb)) σ H b :=
  ans_cmp ha hb fun Q q => ⟨i, j, rfl, rfl, by subst e; exact q⟩
theorem decInt (a b : Int) : (decide (V.int a = V.int b)) = decide (a = b) := by
  by_cases e : a = b
  · rw [e]; simp
  · have : ¬ V.int a = V.int b := fun z => e (by injection z)
    rw [decide_eq_false e, decide_eq_false this]
theorem ans_eqI {σ : L2.St} {H : Hp} {ta tb : TE} {i j : Int} {b : Bool} (ha : Val ta σ H (.int i)) (hb : Val tb σ H (.int j)) (e : decide (i = j) = b) : Ans (tTest (tOp rEq ta tb)) σ H b :=
  ans_eq ha hb rfl (by rw [decInt, e])
theorem ans_lst {σ : L2.St} {H : Hp} {ta : TE} {l : Addr} {xs : List V} {b : Bool} (ha : Val ta σ H (.ref l)) (h : SqL K H l xs) (e : (!xs.isEmpty) = b) : Ans (tTru K ta) σ H b := ans_tr ha (.inl ⟨xs, h, e.symm⟩)
theorem rd_Frame_find_deed (T : Fx K) (vs : List V) (H : Hp) (Q : VK) (E : XK) (h : sp_Frame_find_deed K vs H Q E) : t_Frame_find_deed K { nx := fun _ H' => Q .non H', rt := Q } (start n_Frame_find_deed vs) H := by
  obtain ⟨F, G, da, g0, rfl, sG, s0, wf0, q⟩ := h
  refine ⟨fun m σ H1 => ∃ (g : GF) (v1 : Option V), σ = [some (.ref g0.a), v1] ∧ g.a = g0.a ∧ g.m.settle = g0.m.settle ∧ g.Wf K G da ∧ Sat F (g.reg K) H1 ∧ m = rsum g.bs, ⟨_, g0, none, rfl, rfl, rfl, wf0, s0, rfl⟩, ?_⟩
  rintro m σ H1 ⟨g, v1, rfl, ea, em, wf, s, rfl⟩
  have eB : settleB g.m.bs = settleB g0.m.bs := congrArg Frm.bs em
  have hg : H1 g.a = some (frmO K g) := s.get (List.mem_cons_of_mem _ List.mem_cons_self)
  have hl : H1 g.bl = some (bsL g.bs) := s.get List.mem_cons_self
  have v0 : Val (tVar 0) [some (.ref g0.a), v1] H1 (.ref g.a) := by rw [ea]; exact val_var rfl
  have vb : Val (tFld K (tVar 0) "blocks") [some (.ref g0.a), v1] H1 (.ref g.bl) := val_fld v0 hg T.cls_Frame T.na_Frame_blocks rfl
  cases e : g.bs with
  | nil =>
    have t0 : Ans (tTru K (tFld K (tVar 0) "blocks")) [some (.ref g0.a), v1] H1 false := ans_lst vb (SqL.of hl) (by rw [e]; rfl)
    refine t0 _ (iteF ?_)
    have ez : settleB g0.m.bs = [] := by
      rw [← eB]
      unfold GF.m
      rw [e]
      rfl
    have q1 := q g H1 ea ?_ wf s
    · rw [ez] at q1
      exact q1
    · have : g.m.settle = g.m := by
        unfold Frm.settle GF.m
        rw [e]
        rfl
      rw [← em, this]
  | cons b bs =>
    have t0 : Ans (tTru K (tFld K (tVar 0) "blocks")) [some (.ref g0.a), v1] H1 true := ans_lst vb (SqL.of hl) (by rw [e]; simp)
    refine t0 _ (iteT ?_)
    have s1 := s.perm (reg_cons e)
    have h3 := s1.get List.mem_cons_self
    obtain ⟨hdl, hr⟩ := wf b (by rw [e]; exact List.mem_cons_self)
    refine ⟨_, fun σ' H' h => h, ?_⟩
    refine sq_set (val_top T v0 hg hl e) ?_
    have w0 : Val (tVar 0) [some (.ref g0.a), some (.ref b.a)] H1 (.ref g.a) := by rw [ea]; exact val_var rfl
    have w1 : ∀ H, Val (tVar 1) [some (.ref g0.a), some (.ref b.a)] H (.ref b.a) := fun H => val_var rfl
    have vat : Val (tFld K (tVar 1) "at") [some (.ref g0.a), some (.ref b.a)] H1 (.int (b.b.at_ : Nat)) := val_fld (w1 _) h3 T.cls_Block T.na_Block_at rfl
    have vdl : Val (tFld K (tVar 1) "deeds") [some (.ref g0.a), some (.ref b.a)] H1 (.ref b.l) := val_fld (w1 _) h3 T.cls_Block T.na_Block_deeds rfl
    have sGH : Same G H1 := sG.trans s.fr
    have vln := val_len vdl (sGH.seq hdl)
    rw [List.length_map] at vln
    by_cases hat : b.b.at_ < b.b.pl.length
    · refine sq_yes (ans_lt vat vln (decide_eq_true (by omega))) ?_
      refine st_ret val_c ?_
      have es : g.m.settle = g.m := by
        unfold Frm.settle GF.m
        rw [e]
        show Frm.mk _ _ (settleB (b.b :: bs.map GB.b)) = _
        unfold settleB
        rw [if_pos hat]
        rfl
      have ez : settleB g0.m.bs ≠ [] := by
        rw [← eB]
        have : settleB g.m.bs = g.m.bs := congrArg Frm.bs es
        rw [this]
        unfold GF.m
        rw [e]
        simp
      have q1 := q g H1 ea (by rw [← em, es]) wf s
      have e1 : (!(settleB g0.m.bs).isEmpty) = true := by
        cases ec : settleB g0.m.bs with
        | nil => exact absurd ec ez
        | cons _ _ => rfl
      rw [e1] at q1
      exact q1
    · refine sq_no (ans_lt vat vln (decide_eq_false (by omega))) ?_
      have ern : ((b.b.rounds : Nat) : Int) - 1 = ((b.b.rounds - 1 : Nat) : Int) := by omega
      refine sq_aug (z := .int (b.b.rounds - 1 : Nat)) (w1 _) h3 T.cls_Block T.na_Block_rounds rfl val_c (fun Q q => ⟨_, _, rfl, rfl, by rw [ern]; exact q⟩) (by show 3 < 1000; decide) ?_
      have s2 := s1.put (u := .ins (He.ga K "Block") b.dx (putF "rounds" (.int (b.b.rounds - 1 : Nat)) [("deeds", .ref b.l), ("rounds", .int (b.b.rounds : Nat)), ("at", .int (b.b.at_ : Nat))]))
      refine sq_fld (val_c (v := .int 0)) (w1 _) (s2.get List.mem_cons_self) T.cls_Block T.na_Block_at (by show 3 < 1000; decide) ?_
      let b1 : GB := ⟨b.a, b.dx, b.l, ⟨b.b.pl, 0, b.b.rounds - 1⟩⟩
      have s3 := s2.put (u := .ins (He.ga K "Block") b.dx (putF "at" (.int 0) (putF "rounds" (.int (b.b.rounds - 1 : Nat)) [("deeds", .ref b.l), ("rounds", .int (b.b.rounds : Nat)), ("at", .int (b.b.at_ : Nat))])))
      generalize upd (upd H1 b.a _) b.a _ = H3 at s3 ⊢
      rw [e] at s3
      have s4 : Sat F ((b1.a, blkO K b1) :: (g.bl, bsL (b1 :: bs)) :: (g.a, frmO K { g with bs := b1 :: bs }) :: (g.nm, .lst (g.names.map V.int)) :: bsR K bs) H3 := s3
      clear s3
      have wf1 : GF.Wf K G da { g with bs := bs } := fun c hc => wf c (by rw [e]; exact List.mem_cons_of_mem _ hc)
      have egm : g.m = ⟨g.fn, g.names, b.b :: bs.map GB.b⟩ := by
        unfold GF.m
        rw [e]
        rfl
      have esum : rsum (b :: bs) = b.b.rounds + rsum bs := by
        unfold rsum
        rw [List.map_cons, List.sum_cons]
      have vr : Val (tFld K (tVar 1) "rounds") [some (.ref g0.a), some (.ref b.a)] H3 (.int (b.b.rounds - 1 : Nat)) := val_fld (w1 _) (s4.get List.mem_cons_self) T.cls_Block T.na_Block_rounds rfl
      by_cases hz : b.b.rounds - 1 = 0
      · refine st_yes (ans_eqI vr val_c (decide_eq_true (by omega))) ?_
        refine st_dropI ?_
        have w0' : ∀ H, Val (tVar 0) [some (.ref g0.a), some (.ref b.a)] H (.ref g.a) := fun H => by rw [ea]; exact val_var rfl
        refine val_fld (w0' _) (s4.get (List.mem_cons_of_mem _ (List.mem_cons_of_mem _ List.mem_cons_self))) T.cls_Frame T.na_Frame_blocks rfl _ ?_
        have er : ((b1 :: bs).map GB.a).reverse.map V.ref = (bs.map GB.a).reverse.map V.ref ++ [V.ref b.a] := by
          rw [List.map_cons, List.reverse_cons, List.map_append]
          rfl
        have s5 : Sat F ((g.bl, .lst ((bs.map GB.a).reverse.map V.ref ++ [V.ref b.a])) :: (b1.a, blkO K b1) :: (g.a, frmO K { g with bs := b1 :: bs }) :: (g.nm, .lst (g.names.map V.int)) :: bsR K bs) H3 := by
          rw [← er]
          exact s4.perm (List.Perm.swap _ _ _)
        refine ⟨.inl ⟨rfl, _, SqL.of (s5.get List.mem_cons_self)⟩, g.bl, _, _, rfl, rfl, s5.get List.mem_cons_self, get_last _ _, ?_⟩
        rw [List.dropLast_concat]
        have s6 := (s5.put (u := bsL bs)).perm (List.Perm.swap _ _ _)
        refine ⟨rsum bs, by rw [esum]; omega, { g with bs := bs }, _, rfl, ea, ?_, wf1, s6.tail (r1 := [_]), rfl⟩
        rw [← em, egm]
        unfold Frm.settle
        show Frm.mk _ _ (settleB (bs.map GB.b)) = Frm.mk _ _ (settleB (b.b :: bs.map GB.b))
        have : settleB (b.b :: bs.map GB.b) = settleB (bs.map GB.b) := by
          show (if _ then _ else _) = _
          rw [if_neg hat, if_pos (Or.inr (by omega))]
        rw [this]
        rfl
      · refine st_no (ans_eqI vr val_c (decide_eq_false (by omega))) ?_
        refine ⟨rsum (b1 :: bs), ?_, { g with bs := b1 :: bs }, _, rfl, ea, ?_, ?_, s4.perm (reg_cons (K := K) (g := { g with bs := b1 :: bs }) rfl).symm, rfl⟩
        · rw [esum]
          show ((b1 :: bs).map fun b => b.b.rounds).sum < _
          rw [List.map_cons, List.sum_cons]
          show (b.b.rounds - 1) + rsum bs < _
          omega
        · rw [← em, egm]
          unfold Frm.settle
          show Frm.mk _ _ (settleB (b1.b :: bs.map GB.b)) = Frm.mk _ _ (settleB (b.b :: bs.map GB.b))
          by_cases hp : b.b.pl.length = 0
          · have e1 : settleB (b.b :: bs.map GB.b) = settleB (bs.map GB.b) := by
              show (if _ then _ else _) = _
              rw [if_neg hat, if_pos (Or.inl hp)]
            have e2 : settleB (b1.b :: bs.map GB.b) = settleB (bs.map GB.b) := by
              show (if 0 < b.b.pl.length then _ else if b.b.pl.length = 0 ∨ _ then _ else _) = _
              rw [if_neg (by omega), if_pos (Or.inl hp)]
            rw [e1, e2]
            rfl
          · have e1 : settleB (b.b :: bs.map GB.b) = b1.b :: bs.map GB.b := by
              show (if _ then _ else if _ then _ else _) = _
              rw [if_neg hat, if_neg (by omega)]
            have e2 : settleB (b1.b :: bs.map GB.b) = b1.b :: bs.map GB.b := by
              show (if 0 < b.b.pl.length then _ else if b.b.pl.length = 0 ∨ _ then _ else _) = _
              rw [if_pos (by omega)]
            rw [e1, e2]
            rfl
        · intro c hc
          rcases List.mem_cons.mp hc with z | z
          · rw [z]
            exact ⟨hdl, by show 1 ≤ b.b.rounds - 1; omega⟩
          · exact wf1 c z
end
end S
set_option Elab.async false
set_option linter.all false
set_option maxRecDepth 100000
set_option maxHeartbeats 4000000
namespace S
open PySem PySem.Spec PyProof.Rows L2
inductive Told where
  | set (n : Nat) (p : Part) | put (c : Nat) (p : Part) | say (p : Part) | iff (p : Part) | again (p : Part) | call (f : Nat) (ps : List Part) (n : Nat) | ret (p : Part)
structure DInfo where
  fn : Nat
  told : Told
  bodies : List (List Nat)
def ToldAt (K : PySem.W.Frag) (G : Hp) (ta : Addr) : Told → Prop
  | .set n p => ∃ pa, SqT K G ta [.str "set", .int (n : Nat), .ref pa] ∧ PartAt K G pa p
  | .put c p => ∃ pa, SqT K G ta [.str "put", .int (c : Nat), .ref pa] ∧ PartAt K G pa p
  | .say p => ∃ pa, SqT K G ta [.str "say", .ref pa] ∧ PartAt K G pa p
  | .iff p => ∃ pa x y, SqT K G ta [.str "if", .ref pa, x, y] ∧ PartAt K G pa p
  | .again p => ∃ pa x, SqT K G ta [.str "again", .ref pa, x] ∧ PartAt K G pa p
  | .call f ps n => ∃ pt xs, SqT K G ta [.str "call", .int (f : Nat), .ref pt, .int (n : Nat)] ∧ SqT K G pt xs ∧ PartsAt K G xs ps
  | .ret p => ∃ pa, SqT K G ta [.str "return", .ref pa] ∧ PartAt K G pa p
def deedO (K : PySem.W.Frag) (dx : Addr) (p fn : Nat) (ta ba : Addr) : HO := .ins (He.ga K "Deed") dx [("place", .int (p : Nat)), ("fun", .int (fn : Nat)), ("told", .ref ta), ("bodies", .ref ba)]
def DeedAt (K : PySem.W.Frag) (G : Hp) (da : Nat → Addr) (p : Nat) (i : DInfo) : Prop := ∃ dx ta ba, G (da p) = some (deedO K dx p i.fn ta ba) ∧ ToldAt K G ta i.told ∧
  ∃ ls : List Addr, SqL K G ba (ls.map V.ref) ∧ ls.length = i.bodies.length ∧ ∀ (j : Nat) (l : Addr) (pl : List Nat), ls[j]? = some l → i.bodies[j]? = some pl → DL K G da l pl
def TblAt (K : PySem.W.Frag) (G : Hp) (da : Nat → Addr) (tbl : List DInfo) : Prop := ∀ (p : Nat) (i : DInfo), tbl[p]? = some i → DeedAt K G da p i
def Blk.next (tbl : List DInfo) (b : Blk) : Option (Nat × DInfo) := match b.pl[b.at_]? with
  | none => none
  | some p => match tbl[p]? with
    | none => none
    | some i => some (p, i)
def Frm.deed (tbl : List DInfo) (f : Frm) : Option (Nat × DInfo) := match f.bs with
  | [] => none
  | b :: _ => b.next tbl
def Frm.back (tbl : List DInfo) (v : Int) (f : Frm) : Frm := match f.deed tbl with
  | some (_, ⟨_, .call _ _ n, _⟩) => { f.moveOn with names := f.names.set n v }
  | _ => f
def Frm.pends (tbl : List DInfo) (f : Frm) : Prop := ∃ p fn g ps n bo, f.deed tbl = some (p, ⟨fn, .call g ps n, bo⟩) ∧ n < f.names.length
def endFun (tbl : List DInfo) (v : Int) : List Frm → List Frm
  | _ :: c :: cs => c.back tbl v :: cs
  | _ => []
def settleC (tbl : List DInfo) : Frm → List Frm → List Frm
  | f, [] => if (settleB f.bs).isEmpty then [] else [f.settle]
  | f, c :: cs => if (settleB f.bs).isEmpty then settleC tbl (c.back tbl 0) cs else f.settle :: c :: cs
def settleH (tbl : List DInfo) : List Frm → List Frm
  | [] => []
  | f :: fs => settleC tbl f fs
structure GH where
  a : Addr
  dx : Addr
  fl : Addr
  fs : List GF
def GH.m (g : GH) : List Frm := g.fs.map GF.m
def hndO (K : PySem.W.Frag) (g : GH) : HO := .ins (He.ga K "Hand") g.dx [("frames", .ref g.fl)]
def fsL (fs : List GF) : HO := .lst ((fs.map GF.a).reverse.map V.ref)
def GH.reg (K : PySem.W.Frag) (g : GH) : Reg := (g.fl, fsL g.fs) :: (g.a, hndO K g) :: g.fs.flatMap (GF.reg K)
def GH.Wf (K : PySem.W.Frag) (G : Hp) (da : Nat → Addr) (g : GH) : Prop := ∀ f ∈ g.fs, f.Wf K G da
def Pend (tbl : List DInfo) (fs : List Frm) : Prop := ∀ f ∈ fs.tail, f.pends tbl
def sp_Hand_end_fun (K : PySem.W.Frag) : Sp := fun vs H Q _ => ∃ (F G : Hp) (da : Nat → Addr) (tbl : List DInfo) (g : GH) (v : Int), vs = [.ref g.a, .int v] ∧ Same G F ∧ TblAt K G da tbl ∧ Sat F (g.reg K) H ∧ g.Wf K G da ∧ g.fs ≠ [] ∧ Pend tbl g.m ∧
  ∀ (g' : GH) (H' : Hp), g'.a = g.a → g'.m = endFun tbl v g.m → g'.Wf K G da → Sat F (g'.reg K) H' → Q .non H'
def sp_Hand_settle (K : PySem.W.Frag) : Sp := fun vs H Q _ => ∃ (F G : Hp) (da : Nat → Addr) (tbl : List DInfo) (g : GH), vs = [.ref g.a] ∧ Same G F ∧ TblAt K G da tbl ∧ Sat F (g.reg K) H ∧ g.Wf K G da ∧ Pend tbl g.m ∧
  ∀ (g' : GH) (H' : Hp), g'.a = g.a → g'.m = settleH tbl g.m → g'.Wf K G da → Sat F (g'.reg K) H' → Q .non H'
def sp_Hand_init (K : PySem.W.Frag) : Sp := fun vs H Q _ => ∃ (F G : Hp) (da : Nat → Addr) (tbl : List DInfo) (x dx : Addr) (f : GF), vs = [.ref x, .ref f.a] ∧ Same G F ∧ TblAt K G da tbl ∧ Sat F ((x, .ins (He.ga K "Hand") dx []) :: f.reg K) H ∧ f.Wf K G da ∧
  ∀ (g' : GH) (H' : Hp), g'.a = x → g'.m = settleH tbl [f.m] → g'.Wf K G da → Sat F (g'.reg K) H' → Q .non H'
end S
set_option Elab.async false
set_option linter.all false
set_option maxRecDepth 100000
namespace S
open PySem PySem.Spec PyProof.Rows L2
def n_Hand_init : List Str := ["self", "frame"]
def t_Hand_init (K : PySem.W.Frag) : TS :=
    (tSeq (sFld K (tVar 0) (tLst (tCons (tVar 1) tNil)) "frames")
    (tDrop (tMeth (He.ga K "Hand") "settle" (sp_Hand_settle K) [] E0 (tVar 0) tNil)))
def n_Hand_settle : List Str := ["self"]
def t_Hand_settle (K : PySem.W.Frag) : TS :=
    (tWhile (tAnd (tTru K (tFld K (tVar 0) "frames")) (tNot (tB (tMeth (He.ga K "Frame") "find_deed" (sp_Frame_find_deed K) [] E0 (tOp (rIxL K) (tFld K (tVar 0) "frames") (tUn (rU fun i => .int (-i)) (tC (.int 1)))) tNil))))
      (tDrop (tMeth (He.ga K "Hand") "end_fun" (sp_Hand_end_fun K) [] E0 (tVar 0) (tCons (tC (.int 0)) tNil))))
def n_Hand_end_fun : List Str := ["self", "number", "caller", "name"]
def t_Hand_end_fun (K : PySem.W.Frag) : TS :=
    (tSeq (tDrop (tBM0 K "list" rPop (tFld K (tVar 0) "frames")))
    (tIfS (tTru K (tFld K (tVar 0) "frames"))
      (tSeq (tAsg (tOp (rIxL K) (tFld K (tVar 0) "frames") (tUn (rU fun i => .int (-i)) (tC (.int 1)))) (gName 2))
      (tSeq (tAsg (tOp (rIxT K) (tFld K (tMeth (He.ga K "Frame") "deed" (sp_Frame_deed K) [] E0 (tVar 2) tNil) "told") (tC (.int 3))) (gName 3))
      (tSeq (tAsg (tVar 1) (gSub (tFld K (tVar 2) "names") (tVar 3) rSetL))
      (tDrop (tMeth (He.ga K "Frame") "move_on" (sp_Frame_move_on K) [] E0 (tVar 2) tNil)))))
      tNext))
end S
set_option Elab.async false
set_option linter.all false
set_option maxRecDepth 100000
set_option maxHeartbeats 4000000
namespace S
open PySem PySem.Spec PyProof.Rows L2
section
variable {K : PySem.W.Frag}
theorem val_topF {σ : L2.St} {H : Hp} {ta : TE} {g : GH} {f : GF} {fs : List GF} (T : Fx K) (ha : Val ta σ H (.ref g.a)) (h1 : H g.a = some (hndO K g)) (h2 : H g.fl = some (fsL (f :: fs))) :
    Val (tOp (rIxL K) (tFld K ta "frames") (tUn (rU fun i => .int (-i)) (tC (.int 1)))) σ H (.ref f.a) := by
  intro Q q
  refine val_fld ha h1 T.cls_Hand T.na_Hand_frames rfl _ ?_
  refine ⟨1, rfl, g.fl, (((f :: fs).map GF.a).reverse.map V.ref), -1, _, rfl, rfl, SqL.of h2, ?_, q⟩
  rw [List.map_cons, List.reverse_cons, List.map_append]
  exact atI_last _ _
theorem regH_cons {g : GH} {f : GF} {fs : List GF} (e : g.fs = f :: fs) : (g.reg K).Perm (((g.fl, fsL (f :: fs)) :: (g.a, hndO K g) :: fs.flatMap (GF.reg K)) ++ f.reg K) := by
  unfold GH.reg
  rw [e, List.flatMap_cons]
  exact List.Perm.cons _ (List.Perm.cons _ List.perm_append_comm)
theorem ixN_nat {n j : Nat} (h : j < n) : ixN n (j : Int) = some j := by
  unfold ixN
  rw [if_pos (by omega), if_pos (by omega), Int.toNat_natCast]
theorem deed_at {F G H : Hp} {da : Nat → Addr} {tbl : List DInfo} {c : GF} {p : Nat} {i : DInfo} (sG : Same G H) (wf : c.Wf K G da) (hasr : ∀ e ∈ c.reg K, H e.1 = some e.2) (h : c.m.deed tbl = some (p, i)) :
    ∃ (b : GB) (bs : List GB), c.bs = b :: bs ∧ H b.a = some (blkO K b) ∧ DL K H da b.l b.b.pl ∧ b.b.pl[b.b.at_]? = some p ∧ tbl[p]? = some i := by
  unfold Frm.deed GF.m at h
  cases e : c.bs with
  | nil =>
    rw [e] at h
    cases h
  | cons b bs =>
    rw [e] at h
    have h1 : b.b.next tbl = some (p, i) := h
    unfold Blk.next at h1
    cases e1 : b.b.pl[b.b.at_]? with
    | none =>
      rw [e1] at h1
      cases h1
    | some p' =>
      rw [e1] at h1
      have h2 : (match tbl[p']? with | none => none | some i => some (p', i)) = some (p, i) := h1
      cases e2 : tbl[p']? with
      | none =>
        rw [e2] at h2
        cases h2
      | some i' =>
        rw [e2] at h2
        cases h2
        refine ⟨b, bs, rfl, hasr (b.a, blkO K b) ?_, sG.seq (wf b (by rw [e]; exact List.mem_cons_self)).1, e1, e2⟩
        unfold GF.reg bsR
        rw [e]
        simp
theorem rd_Hand_end_fun (T : Fx K) (vs : List V) (H : Hp) (Q : VK) (E : XK) (h : sp_Hand_end_fun K vs H Q E) : t_Hand_end_fun K { nx := fun _ H' => Q .non H', rt := Q } (start n_Hand_end_fun vs) H := by
  obtain ⟨F, G, da, tbl, g, v, rfl, sG, tb, s, wf, ne, pend, q⟩ := h
  cases e : g.fs with
  | nil => exact absurd e ne
  | cons f fs =>
    have s1 := s.perm (regH_cons e)
    have v0 : ∀ (H : Hp) (x y : Option V), Val (tVar 0) [some (.ref g.a), some (.int v), x, y] H (.ref g.a) := fun H x y => val_var rfl
    have ha : H g.a = some (hndO K g) := s1.get (by simp)
    have hl : H g.fl = some (fsL (f :: fs)) := s1.get (by simp)
    refine sq_drop ?_
    refine val_fld (v0 H none none) ha T.cls_Hand T.na_Hand_frames rfl _ ?_
    have er : ((f :: fs).map GF.a).reverse.map V.ref = (fs.map GF.a).reverse.map V.ref ++ [V.ref f.a] := by
      rw [List.map_cons, List.reverse_cons, List.map_append]
      rfl
    have hl2 : H g.fl = some (.lst ((fs.map GF.a).reverse.map V.ref ++ [V.ref f.a])) := by
      rw [← er]
      exact hl
    refine ⟨.inl ⟨rfl, _, SqL.of hl2⟩, g.fl, _, _, rfl, rfl, hl2, get_last _ _, ?_⟩
    rw [List.dropLast_concat]
    have s2 : Sat F (((g.fl, fsL fs) :: (g.a, hndO K g) :: fs.flatMap (GF.reg K)) ++ f.reg K) (upd H g.fl (.lst ((fs.map GF.a).reverse.map V.ref))) := Sat.put s1
    generalize upd H g.fl _ = H2 at s2 ⊢
    have s3 : Sat F ((g.fl, fsL fs) :: (g.a, hndO K g) :: fs.flatMap (GF.reg K)) H2 := s2.init
    have ha2 : H2 g.a = some (hndO K g) := s3.get (by simp)
    have hl3 : H2 g.fl = some (fsL fs) := s3.get List.mem_cons_self
    have vf := val_fld (v0 H2 none none) ha2 T.cls_Hand T.na_Hand_frames rfl
    cases fs with
    | nil =>
      refine st_no (ans_lst vf (SqL.of hl3) rfl) ?_
      refine q { g with fs := [] } H2 rfl ?_ (fun _ h => nomatch h) s3
      unfold GH.m
      rw [e]
      rfl
    | cons c cs =>
      refine st_yes (ans_lst vf (SqL.of hl3) (by simp)) ?_
      refine sq_set (val_topF T (v0 H2 none none) ha2 hl3) ?_
      have em : g.m = f.m :: c.m :: cs.map GF.m := by
        unfold GH.m
        rw [e]
        rfl
      obtain ⟨p, fn, gg, ps, n, bo, hd, hn⟩ := pend c.m (by rw [em]; exact List.mem_cons_self)
      have wc : c.Wf K G da := wf c (by rw [e]; exact List.mem_cons_of_mem _ List.mem_cons_self)
      have s4 : Sat F (((g.fl, fsL (c :: cs)) :: (g.a, hndO K g) :: cs.flatMap (GF.reg K)) ++ c.reg K) H2 := s3.perm (regH_cons (g := { g with fs := c :: cs }) rfl)
      have sGH : Same G H2 := sG.trans s4.fr
      obtain ⟨b, bs, eb, hb, hdl, hp, ht⟩ := deed_at (F := F) (da := da) (tbl := tbl) (c := c) sGH wc (fun e he => s4.tail.at_ e he) hd
      obtain ⟨dx, ta, ba, ho, hta, _⟩ := tb p _ ht
      obtain ⟨pt, xs, hta, _, _⟩ := hta
      have v2 : ∀ (H : Hp) (y : Option V), Val (tVar 2) [some (.ref g.a), some (.int v), some (.ref c.a), y] H (.ref c.a) := fun H y => val_var rfl
      have hca : H2 c.a = some (frmO K c) := s4.tail.get (List.mem_cons_of_mem _ List.mem_cons_self)
      have hcl : H2 c.bl = some (bsL c.bs) := s4.tail.get List.mem_cons_self
      have vd : Val (tMeth (He.ga K "Frame") "deed" (sp_Frame_deed K) [] E0 (tVar 2) tNil) [some (.ref g.a), some (.int v), some (.ref c.a), none] H2 (.ref (da p)) := by
        intro Q q
        refine v2 H2 none _ ?_
        exact ⟨c.a, c.dx, _, rfl, hca, rfl, da, c, b, bs, p, rfl, hca, hcl, eb, hb, hdl, hp, q⟩
      have vt := val_fld vd (sGH _ _ ho) T.cls_Deed T.na_Deed_told rfl
      have vn : Val (tOp (rIxT K) (tFld K (tMeth (He.ga K "Frame") "deed" (sp_Frame_deed K) [] E0 (tVar 2) tNil) "told") (tC (.int 3))) [some (.ref g.a), some (.int v), some (.ref c.a), none] H2 (.int (n : Nat)) := by
        intro Q q
        refine vt _ ?_
        exact ⟨ta, _, 3, _, rfl, rfl, same_seqT sGH hta, atI_nat (j := 3) rfl, q⟩
      refine sq_set vn ?_
      have hnm : H2 c.nm = some (.lst (c.names.map V.int)) := s4.tail.get (by simp [GF.reg])
      refine ⟨_, rfl, ?_⟩
      refine val_fld (v2 H2 _) hca T.cls_Frame T.na_Frame_names rfl _ ?_
      refine ⟨_, rfl, c.nm, _, n, n, rfl, rfl, hnm, ixN_nat (by rw [List.length_map]; exact hn), ?_⟩
      rw [← List.map_set]
      have hpm : (c.reg K).Perm ((c.nm, .lst (c.names.map V.int)) :: (c.bl, bsL c.bs) :: (c.a, frmO K c) :: bsR K c.bs) := by
        unfold GF.reg
        exact (List.Perm.cons _ (List.Perm.swap _ _ _)).trans (List.Perm.swap _ _ _)
      have hpm2 : (GF.reg K { c with names := c.names.set n v }).Perm ((c.nm, .lst ((c.names.set n v).map V.int)) :: (c.bl, bsL c.bs) :: (c.a, frmO K c) :: bsR K c.bs) := by
        unfold GF.reg
        exact (List.Perm.cons _ (List.Perm.swap _ _ _)).trans (List.Perm.swap _ _ _)
      have s5 := s4.focus.perm hpm
      have s6 := (s5.put (u := .lst ((c.names.set n v).map V.int))).perm hpm2.symm
      generalize upd H2 c.nm _ = H3 at s6 ⊢
      dsimp only
      refine st_dropI ?_
      refine v2 H3 _ _ ?_
      refine ⟨c.a, c.dx, _, rfl, s6.get (List.mem_cons_of_mem _ List.mem_cons_self), rfl, _, G, da, { c with names := c.names.set n v }, rfl, s6, wc, by rw [show ({ c with names := c.names.set n v } : GF).bs = c.bs from rfl, eb]; simp, fun c2 H4 ea e2 wf2 s7 => ?_⟩
      have s8 := s4.unfocus s7
      have efl : fsL (c :: cs) = fsL (c2 :: cs) := by
        unfold fsL
        rw [List.map_cons, List.map_cons, ea]
      rw [efl] at s8
      refine q { g with fs := c2 :: cs } H4 rfl ?_ ?_ (s8.perm (regH_cons (g := { g with fs := c2 :: cs }) rfl).symm)
      · rw [em]
        show c2.m :: cs.map GF.m = c.m.back tbl v :: cs.map GF.m
        have : c2.m = c.m.back tbl v := by
          rw [e2]
          unfold Frm.back
          rw [hd]
          unfold GF.m Frm.moveOn
          rw [eb]
          rfl
        rw [this]
      · intro x hx
        rcases List.mem_cons.mp hx with z | z
        · rw [z]
          exact wf2
        · exact wf x (by rw [e]; exact List.mem_cons_of_mem _ (List.mem_cons_of_mem _ z))

theorem settleC_yes {tbl : List DInfo} {f : Frm} {fs : List Frm} (h : (settleB f.bs).isEmpty = false) : settleC tbl f fs = f.settle :: fs := by
  cases fs <;> (unfold settleC; rw [h]; rfl)
theorem settleC_no {tbl : List DInfo} {f : Frm} {fs : List Frm} (h : (settleB f.bs).isEmpty = true) (f' : Frm) : settleC tbl f fs = settleH tbl (endFun tbl 0 (f' :: fs)) := by
  cases fs <;> (unfold settleC; rw [h]; rfl)
theorem endFun_tail {tbl : List DInfo} {v : Int} {f : Frm} {fs : List Frm} : ∀ x ∈ (endFun tbl v (f :: fs)).tail, x ∈ fs := by
  intro x hx
  cases fs with
  | nil => cases hx
  | cons c cs => exact List.mem_cons_of_mem _ hx
theorem endFun_len {tbl : List DInfo} {v : Int} {f : Frm} {fs : List Frm} : (endFun tbl v (f :: fs)).length = fs.length := by
  cases fs <;> rfl
theorem rd_Hand_settle (T : Fx K) (vs : List V) (H : Hp) (Q : VK) (E : XK) (h : sp_Hand_settle K vs H Q E) : t_Hand_settle K { nx := fun _ H' => Q .non H', rt := Q } (start n_Hand_settle vs) H := by
  obtain ⟨F, G, da, tbl, g0, rfl, sG, tb, s0, wf0, pend0, q⟩ := h
  refine ⟨fun m σ H1 => ∃ (g : GH), σ = [some (.ref g0.a)] ∧ g.a = g0.a ∧ settleH tbl g.m = settleH tbl g0.m ∧ Pend tbl g.m ∧ g.Wf K G da ∧ Sat F (g.reg K) H1 ∧ m = g.fs.length, ⟨_, g0, rfl, rfl, rfl, pend0, wf0, s0, rfl⟩, ?_⟩
  rintro m σ H1 ⟨g, rfl, ea, em, pend, wf, s, rfl⟩
  have v0 : ∀ H, Val (tVar 0) [some (.ref g0.a)] H (.ref g.a) := fun H => by rw [ea]; exact val_var rfl
  have ha : H1 g.a = some (hndO K g) := s.get (List.mem_cons_of_mem _ List.mem_cons_self)
  have hl : H1 g.fl = some (fsL g.fs) := s.get List.mem_cons_self
  have vf := val_fld (v0 H1) ha T.cls_Hand T.na_Hand_frames rfl
  cases e : g.fs with
  | nil =>
    have t0 : Ans (tTru K (tFld K (tVar 0) "frames")) [some (.ref g0.a)] H1 false := ans_lst vf (SqL.of hl) (by rw [e]; rfl)
    refine t0 _ (iteF (iteF ?_))
    refine q g H1 ea ?_ wf s
    rw [← em]
    unfold GH.m
    rw [e]
    rfl
  | cons f fs =>
    have t0 : Ans (tTru K (tFld K (tVar 0) "frames")) [some (.ref g0.a)] H1 true := ans_lst vf (SqL.of hl) (by rw [e]; simp)
    refine t0 _ (iteT ?_)
    have s1 := s.perm (regH_cons e)
    have gm : g.m = f.m :: fs.map GF.m := by
      unfold GH.m
      rw [e]
      rfl
    rw [e] at hl
    refine val_topF T (v0 H1) ha hl _ ?_
    have sub : Same F (addR F ((g.fl, fsL (f :: fs)) :: (g.a, hndO K g) :: fs.flatMap (GF.reg K))) := same_addR s1.init.off
    refine ⟨f.a, f.dx, _, rfl, s1.tail.get (List.mem_cons_of_mem _ List.mem_cons_self), rfl, _, G, da, f, rfl, sG.trans sub, s1.focus, wf f (by rw [e]; exact List.mem_cons_self), fun f2 H2 ea2 em2 wf2 s2 => ?_⟩
    have s3 := s1.unfocus s2
    have efl : fsL (f :: fs) = fsL (f2 :: fs) := by
      unfold fsL
      rw [List.map_cons, List.map_cons, ea2]
    rw [efl] at s3
    have s4 : Sat F (GH.reg K { g with fs := f2 :: fs }) H2 := s3.perm (regH_cons (g := { g with fs := f2 :: fs }) rfl).symm
    have wf4 : GH.Wf K G da { g with fs := f2 :: fs } := fun x hx => by
      rcases List.mem_cons.mp hx with z | z
      · rw [z]
        exact wf2
      · exact wf x (by rw [e]; exact List.mem_cons_of_mem _ z)
    have gm4 : GH.m { g with fs := f2 :: fs } = f.m.settle :: fs.map GF.m := by
      show f2.m :: fs.map GF.m = _
      rw [em2]
    refine ⟨_, rfl, ?_⟩
    cases hb : (settleB f.m.bs).isEmpty with
    | false =>
      refine iteF ?_
      refine q { g with fs := f2 :: fs } H2 ea ?_ wf4 s4
      rw [gm4, ← em, gm]
      exact (settleC_yes hb).symm
    | true =>
      refine iteT ⟨_, fun σ' H' h => h, ?_⟩
      refine st_dropI ?_
      refine v0 H2 _ ?_
      refine ⟨g.a, g.dx, _, rfl, s4.get (List.mem_cons_of_mem _ List.mem_cons_self), rfl, F, G, da, tbl, { g with fs := f2 :: fs }, 0, rfl, sG, tb, s4, wf4, by simp, ?_, fun g3 H3 ea3 em3 wf3 s5 => ?_⟩
      · rw [gm4]
        rw [gm] at pend
        exact pend
      · rw [gm4] at em3
        refine ⟨g3.fs.length, ?_, g3, rfl, ea3.trans ea, ?_, ?_, wf3, s5, rfl⟩
        · have h1 : g3.m.length = fs.length := by rw [em3, endFun_len, List.length_map]
          have h2 : g3.m.length = g3.fs.length := List.length_map ..
          rw [List.length_cons]
          omega
        · rw [em3, ← em, gm]
          exact (settleC_no hb _).symm
        · rw [em3]
          intro x hx
          refine pend x ?_
          rw [gm]
          exact endFun_tail x hx
theorem rd_Hand_init (T : Fx K) (vs : List V) (H : Hp) (Q : VK) (E : XK) (h : sp_Hand_init K vs H Q E) : t_Hand_init K { nx := fun _ H' => Q .non H', rt := Q } (start n_Hand_init vs) H := by
  obtain ⟨F, G, da, tbl, x, dx, f, rfl, sG, tb, s, wf, q⟩ := h
  refine ⟨_, rfl, (by show 1 ≤ sizeLine; decide), fun fl hfl => ?_⟩
  have s1 := (s.new (o := .lst [.ref f.a]) hfl).perm (List.Perm.swap _ _ _)
  refine ⟨_, rfl, x, _, dx, _, rfl, s1.get List.mem_cons_self, T.cls_Hand, T.na_Hand_frames, (by show 0 < 1000; decide), ?_⟩
  have s2 := (s1.put (u := .ins (He.ga K "Hand") dx (putF "frames" (.ref fl) []))).perm (List.Perm.swap _ _ _)
  generalize upd (upd H fl _) x _ = H2 at s2 ⊢
  have s3 : Sat F (GH.reg K ⟨x, dx, fl, [f]⟩) H2 := by
    unfold GH.reg
    rw [List.flatMap_cons, List.flatMap_nil, List.append_nil]
    exact s2
  dsimp only
  refine st_dropI ?_
  refine ⟨_, rfl, x, dx, _, rfl, s3.get (List.mem_cons_of_mem _ List.mem_cons_self), rfl, F, G, da, tbl, ⟨x, dx, fl, [f]⟩, rfl, sG, tb, s3, ?_, ?_, fun g H' ea em wf' s' => q g H' ea em wf' s'⟩
  · intro y hy
    have e : y = f := by simpa using hy
    rw [e]
    exact wf
  · intro y hy
    cases hy
end
end S
set_option Elab.async false
set_option linter.all false
set_option maxRecDepth 100000
set_option maxHeartbeats 4000000
namespace PySem
open Sem (wp)
theorem meets_enumerate_new1 {v : Value} {o : Obj} {H : Heap → Prop} (B : Begins v o H) :
    Meets (Builtin.«enumerate.__new__» ⟨[.type "enumerate", v], []⟩) (fun _ R s => H s.heap ∧
      R (.ok (.ret (.ref (s.heap.push o).objs.size))) { s with heap := (s.heap.push o).push { cls := .type "enumerate", data := .fields #[.none, .bool false, .ref s.heap.objs.size, rawInt 0, .none, .none] } }) :=
  .of_wp fun prog w A R s h => by
    obtain ⟨hp, g, d, tk, os⟩ := s; obtain ⟨h1, h⟩ := h
    have hsub := sub_enumerate
    have q1 : ∀ {A' : Around} {E : Value → Shared → Prop} {Q : Value → Shared → Prop}, Q (.ref hp.objs.size) ⟨hp.push o, g, d, tk, os⟩ → wpAny (model prog w) A' (pyIter v) Q E ⟨hp, g, d, tk, os⟩ :=
      fun q => B.iter prog w _ _ ⟨hp, g, d, tk, os⟩ _ h1 q
    wp_walk using q1
    refine wpAny_stack_any fun st => wpAny_pure ?_
    split
    · rename_i c _ _ _ _ _
      cases (c == Value.type "enumerate")
      · wp_walk using q1
        exact ⟨_, rfl, h⟩
      · wp_walk using q1
        exact ⟨_, rfl, h⟩
    · wp_walk using q1
      exact ⟨_, rfl, h⟩
end PySem
namespace PySem
section
variable {prog : Program} {w : World} {A : Around} {E : Value → Shared → Prop} {s : Shared}
theorem enum_begins1 {v : Value} {o : Obj} {H : Heap → Prop} {Q : Value → Shared → Prop} (B : Begins v o H) (h1 : H s.heap)
    (h : ∀ h', IsEnum h' (s.heap.objs.size + 1) s.heap.objs.size 0 .none → h'.get? s.heap.objs.size = some o → h'.objs.size = s.heap.objs.size + 2 →
      (∀ b o, s.heap.get? b = some o → h'.get? b = some o) → Q (.ref (s.heap.objs.size + 1)) { s with heap := h' }) :
    wpAny (model prog w) A (call (.type "enumerate") [v]) Q E s := by
  refine callType_new F.called_enumerate (by decide) (F.typeCall_enumerate_1 _) (F.newCall_enumerate_1 _) (fun obj => F.args_object_init_2 obj _) F.entry_enumerate_new
    (meets_enumerate_new1 B) ⟨h1, ?_⟩
  have hz : (s.heap.push o).objs.size = s.heap.objs.size + 1 := Heap.size_push ..
  show _ ∧ _
  rw [hz]
  have he : IsEnum ((s.heap.push o).push { cls := .type "enumerate", data := .fields #[.none, .bool false, .ref s.heap.objs.size, rawInt 0, .none, .none] }) (s.heap.objs.size + 1) s.heap.objs.size 0 .none := by
    have := Heap.get?_push_size (s.heap.push o) (o := { cls := .type "enumerate", data := .fields #[.none, .bool false, .ref s.heap.objs.size, rawInt 0, .none, .none] }) rfl
    rw [hz] at this; exact this
  refine ⟨⟨_, he, rfl⟩, h _ he (Heap.get?_push_of_some _ (Heap.get?_push_size _ B.free)) (by rw [Heap.size_push, hz]) fun b o x => Heap.get?_push_of_some _ (Heap.get?_push_of_some _ x)⟩
end
end PySem
namespace S
open PySem PySem.Spec PyProof.Rows L2
def IteT (K : PySem.W.Frag) (a : Addr) : It :=
  ⟨fun i H => ∃ (xs : List V) (x : V), SqT K H a xs ∧ xs[i]? = some x, fun i H v H' => ∃ T x, v = .ref T ∧ H T = none ∧ H' = upd H T (.tup [.int (i : Nat), x]) ∧ ∀ xs, SqT K H a xs → xs[i]? = some x, fun i H => ∃ xs : List V, SqT K H a xs ∧ xs.length = i⟩
theorem turn_enumT {P : Program} {w : World} {K : PySem.W.Frag} {elts : List Expr} {kk : Nat} {tpos : Pos} (a e it : Addr) :
    Turn P w K (.Tuple elts kk tpos) (IteT K a) [e, it] e (fun i h => (∃ old, IsEnum h e it ((i : Nat) : Int) old) ∧ h.IsTupleIter it a i ∧ e ≠ it ∧ a ≠ it ∧ a ≠ e) where
  mem := by simp
  obj := fun i h st b hb => by
    obtain ⟨⟨old, he⟩, ⟨o, ho, hc, hd⟩, _⟩ := st
    have e' : b = e ∨ b = it := by simpa using hb
    rcases e' with z | z
    · rw [z]; exact ⟨_, he, fun v q => nomatch q⟩
    · rw [z]; exact ⟨o, ho, fun v q => by rw [hd] at q; cases q⟩
  keep := fun i h h' st k => let ⟨⟨old, he⟩, hi, hne⟩ := st; ⟨⟨old, k e (by simp) _ he⟩, hi.at fun o q => k it (by simp) o q, hne⟩
  item := by
    intro X hP hw hK hc i pins s σ H E I hf st hg
    subst hP hw hK
    obtain ⟨⟨old, he⟩, hit, hne, hai, hae⟩ := st
    obtain ⟨xs, x, hq, hx⟩ := hg
    obtain ⟨its, rv, p, hz⟩ := I.tuple hq
    obtain ⟨u, hu, ru⟩ := rv.get hx
    have hlt : i < its.toArray.size := by
      have := (List.getElem?_eq_some_iff.mp hu).1
      simpa using this
    have hel : e < s.heap.objs.size := Heap.lt_size he
    have hil : it < s.heap.objs.size := by obtain ⟨_, q, _⟩ := hit; exact Heap.lt_size q
    refine wpAny_pyNext_enum_itemC (Draws.tuple (show X.A.in1.handled = none from I.ok.hd hc) it a hai its.toArray) he ⟨hit, p⟩ hlt hne (fun hm => ?_) fun x2 h' tk hP ho hit' hT hsz hk => ?_
    · have : e = it ∨ e = a := by simpa using hm
      rcases this with z | z
      · exact hne z
      · exact hae z.symm
    have ex : x2 = u := by
      have h1 : its.toArray[i]? = some u := by simpa using hu
      rw [h1] at hP
      exact (Option.some.inj hP).symm
    subst ex
    refine ⟨_, rfl, wpAny_letOwnedTupleGo_enum (s := { s with heap := h', toks := tk + 1 }) ho fun h'' he' sb => ?_⟩
    have hT2 : h''.get? s.heap.objs.size = some { cls := .type "tuple", data := .seq #[.int i tk, x2] } := (sb.2 _ (Nat.ne_of_gt hel)).trans hT
    have new : ObjOk X.prog X.w (upd H s.heap.objs.size (.tup [.int (i : Nat), x])) h'' s.heap.objs.size (.tup [.int (i : Nat), x]) :=
      ⟨by show 2 ≤ sizeLine; decide, [.int i tk, x2], .cons ⟨_, rfl⟩ (.cons ru .nil), ⟨_, hT2, rfl, _, rfl⟩⟩
    have I1 : Inv X pins σ (upd H s.heap.objs.size (.tup [.int (i : Nat), x])) { s with heap := h'', toks := tk + 1 } :=
      I.turnedNew (ch := [e, it]) (fun b ob hb q => (sb.2 b (fun z => hb (by simp [z]))).trans (hk b ob (fun z => hb (by simp [z])) (fun z => hb (by simp [z])) q)) hf (Nat.le_refl _) new
    refine ⟨.ref s.heap.objs.size, _, I1, rfl, ⟨_, x, rfl, I.hok.fresh (Nat.le_refl _), rfl, fun ys hy => by rw [I.tuple_inj hy hq]; exact hx⟩, ⟨⟨x2, ?_⟩, hit'.1.at fun o q => (sb.2 it (Ne.symm hne)).trans q, hne, hai, hae⟩, fun b hb => ?_⟩
    · have e1 : ((i + 1 : Nat) : Int) = (i : Int) + 1 := by omega
      rw [e1]; exact he'
    · have hb' : b < s.heap.objs.size := by
        have e' : b = e ∨ b = it := by simpa using hb
        rcases e' with z | z
        · rw [z]; exact hel
        · rw [z]; exact hil
      rw [upd_ne (Nat.ne_of_lt hb')]
      exact (hf b hb).1
  done := by
    intro X hP hw hK hc i pins s σ H E I hf st hg
    subst hP hw hK
    obtain ⟨⟨old, he⟩, hit, hne, hai, hae⟩ := st
    obtain ⟨xs, hq, hx⟩ := hg
    obtain ⟨its, rv, p, hz⟩ := I.tuple hq
    obtain ⟨f0, f1, f2, f3, f4, f5⟩ := hf it (by simp)
    have hl := rv.length
    have hi : i = its.toArray.size := by simp; omega
    subst hi
    exact wpAny_pyNext_enum_endD (Draws.tuple (A := X.A.in1) (I.ok.hd hc) it a hai its.toArray) he ⟨hit, p⟩ fun h' hk => ⟨rfl, I.turned (t' := s.toks) (fun b o hb q => hk b o hb q) f0 f1 f3 f4 f5⟩
  self := fun A i s Q E st h => let ⟨⟨_, he⟩, _⟩ := st; wpAny_pyIter_enum he h
def iEnumT (K : PySem.W.Frag) (ta : TA) : TI := fun σ H R => ta σ H fun vs H1 => ∃ a xs, vs = [.ref a] ∧ SqT K H1 a xs ∧ R (IteT K a) H1
theorem pi_enumT {X : Cx} {e : Expr} {ta : TA} {p pos tpos : Pos} {elts : List Expr} {kk : Nat} (hg : Gl X "enumerate") (hm : X.mg "enumerate" = none) (ha : PA X [e] ta) (hs : starEach [e] X.env = [(false, eval e X.env)] := by rfl) :
    PI X (.Tuple elts kk tpos) (.Call (.Name "enumerate" p) [e] [] pos) (iEnumT X.K ta) := by
  refine ⟨fun pins s σ H R I h => ?_⟩
  refine Call_ (ld_blt I hg hm boot_enumerate (PyProof.Rows.callWith_type1 (thn (ha.run pos pins s σ H _ I h) fun us s1 ⟨vs, H1, I1, r1, q1⟩ => ?_) hs rfl))
  obtain ⟨a, xs, ex, hq, q⟩ := q1
  subst ex
  cases r1 with
  | cons r rr =>
    cases rr
    cases r
    obtain ⟨its, rv, p', hz⟩ := I1.tuple hq
    refine enum_begins1 (begins_tuple a its.toArray) p' fun h' he hit hsz hk => wpAny_pyIter_enum he ?_
    have I2 : Inv X pins σ H1 { s1 with heap := h' } := I1.kept (t' := s1.toks) hk
    have hal : a < s1.heap.objs.size := by obtain ⟨_, q, _⟩ := p'; exact Heap.lt_size q
    refine ⟨s1.heap.objs.size + 1, [s1.heap.objs.size + 1, s1.heap.objs.size], _, _, H1, rfl, I2, turn_enumT a (s1.heap.objs.size + 1) s1.heap.objs.size, ⟨⟨.none, he⟩, ⟨_, hit, rfl, rfl⟩, Nat.succ_ne_self _, Nat.ne_of_lt hal, Nat.ne_of_lt (Nat.lt_succ_of_lt hal)⟩, fun b hb => ?_, q⟩
    have e' : b = s1.heap.objs.size + 1 ∨ b = s1.heap.objs.size := by simpa using hb
    have hle : s1.heap.objs.size ≤ b := by
      rcases e' with z | z
      · rw [z]; exact Nat.le_add_right _ _
      · rw [z]; exact Nat.le_refl _
    exact I1.fpOk hle (I1.hok.fresh hle)
end S
set_option Elab.async false
set_option linter.all false
set_option maxRecDepth 100000
set_option maxHeartbeats 4000000
namespace S
open PySem PySem.Spec PyProof.Rows L2
def Body.step : Body → Option (Told × List Body × Body)
  | .nil => none
  | .set n p r => some (.set n p, [], r)
  | .put c p r => some (.put c p, [], r)
  | .say p r => some (.say p, [], r)
  | .iff p a b r => some (.iff p, [a, b], r)
  | .again p b r => some (.again p, [b], r)
  | .call f ps n r => some (.call f ps n, [], r)
  | .ret p r => some (.ret p, [], r)
def Body.depth : Body → Nat
  | .nil => 0
  | .set _ _ r => r.depth
  | .put _ _ r => r.depth
  | .say _ r => r.depth
  | .iff _ a b r => max (max a.depth b.depth + 1) r.depth
  | .again _ b r => max (b.depth + 1) r.depth
  | .call _ _ _ r => r.depth
  | .ret _ r => r.depth
def Body.many : Body → Nat
  | .nil => 0
  | .set _ _ r => r.many + 1
  | .put _ _ r => r.many + 1
  | .say _ r => r.many + 1
  | .iff _ a b r => a.many + b.many + r.many + 1
  | .again _ b r => b.many + r.many + 1
  | .call _ _ _ r => r.many + 1
  | .ret _ r => r.many + 1
def lay (fn : Nat) : Body → Nat → List Nat × List DInfo
  | .nil, _ => ([], [])
  | .set k p r, n => (n :: (lay fn r (n + 1)).1, ⟨fn, .set k p, []⟩ :: (lay fn r (n + 1)).2)
  | .put k p r, n => (n :: (lay fn r (n + 1)).1, ⟨fn, .put k p, []⟩ :: (lay fn r (n + 1)).2)
  | .say p r, n => (n :: (lay fn r (n + 1)).1, ⟨fn, .say p, []⟩ :: (lay fn r (n + 1)).2)
  | .iff p a b r, n => (n :: (lay fn r (n + 1 + a.many + b.many)).1, ⟨fn, .iff p, [(lay fn a (n + 1)).1, (lay fn b (n + 1 + a.many)).1]⟩ :: ((lay fn a (n + 1)).2 ++ ((lay fn b (n + 1 + a.many)).2 ++ (lay fn r (n + 1 + a.many + b.many)).2)))
  | .again p b r, n => (n :: (lay fn r (n + 1 + b.many)).1, ⟨fn, .again p, [(lay fn b (n + 1)).1]⟩ :: ((lay fn b (n + 1)).2 ++ (lay fn r (n + 1 + b.many)).2))
  | .call f ps k r, n => (n :: (lay fn r (n + 1)).1, ⟨fn, .call f ps k, []⟩ :: (lay fn r (n + 1)).2)
  | .ret p r, n => (n :: (lay fn r (n + 1)).1, ⟨fn, .ret p, []⟩ :: (lay fn r (n + 1)).2)
theorem lay_len (fn : Nat) : ∀ (b : Body) (n : Nat), (lay fn b n).2.length = b.many
  | .nil, _ => rfl
  | .set k p r, n => by simp [lay, Body.many, lay_len fn r]
  | .put k p r, n => by simp [lay, Body.many, lay_len fn r]
  | .say p r, n => by simp [lay, Body.many, lay_len fn r]
  | .iff p a b r, n => by
    simp [lay, Body.many, lay_len fn a, lay_len fn b, lay_len fn r]
    omega
  | .again p b r, n => by simp [lay, Body.many, lay_len fn b, lay_len fn r]
  | .call f ps k r, n => by simp [lay, Body.many, lay_len fn r]
  | .ret p r, n => by simp [lay, Body.many, lay_len fn r]
def manyAll : List Body → Nat
  | [] => 0
  | b :: bs => b.many + manyAll bs
def layAll (fn : Nat) : List Body → Nat → List (List Nat) × List DInfo
  | [], _ => ([], [])
  | b :: bs, n => ((lay fn b n).1 :: (layAll fn bs (n + b.many)).1, (lay fn b n).2 ++ (layAll fn bs (n + b.many)).2)
theorem layAll_len (fn : Nat) : ∀ (bs : List Body) (n : Nat), (layAll fn bs n).2.length = manyAll bs
  | [], _ => rfl
  | b :: bs, n => by simp [layAll, manyAll, lay_len, layAll_len fn bs]
theorem layAll_len1 (fn : Nat) : ∀ (bs : List Body) (n : Nat), (layAll fn bs n).1.length = bs.length
  | [], _ => rfl
  | b :: bs, n => by simp [layAll, layAll_len1 fn bs]
theorem lay_step (fn : Nat) {b r : Body} {t : Told} {ins : List Body} (h : b.step = some (t, ins, r)) (n : Nat) :
    b.many = manyAll ins + r.many + 1 ∧ lay fn b n = (n :: (lay fn r (n + 1 + manyAll ins)).1, ⟨fn, t, (layAll fn ins (n + 1)).1⟩ :: ((layAll fn ins (n + 1)).2 ++ (lay fn r (n + 1 + manyAll ins)).2)) := by
  cases b with
  | nil => cases h
  | iff p a b r => 
    cases h
    simp [lay, layAll, manyAll, Body.many, Nat.add_assoc]
  | again p b r =>
    cases h
    simp [lay, layAll, manyAll, Body.many, Nat.add_assoc]
  | _ =>
    cases h
    simp [lay, layAll, manyAll, Body.many]
theorem depth_step {b r : Body} {t : Told} {ins : List Body} (h : b.step = some (t, ins, r)) : r.depth ≤ b.depth ∧ ∀ i ∈ ins, i.depth + 1 ≤ b.depth := by
  cases b with
  | nil => cases h
  | iff p a b r =>
    cases h
    refine ⟨Nat.le_max_right _ _, fun i hi => ?_⟩
    have e : i = a ∨ i = b := by simpa using hi
    have h1 : max a.depth b.depth + 1 ≤ (Body.iff p a b r).depth := Nat.le_max_left _ _
    have h2 := Nat.le_max_left a.depth b.depth
    have h3 := Nat.le_max_right a.depth b.depth
    rcases e with z | z <;> (rw [z]; omega)
  | again p b r =>
    cases h
    refine ⟨Nat.le_max_right _ _, fun i hi => ?_⟩
    have e : i = b := by simpa using hi
    rw [e]
    exact Nat.le_max_left _ _
  | _ =>
    cases h
    exact ⟨Nat.le_refl _, fun i hi => nomatch hi⟩
def DeedsAt (K : PySem.W.Frag) (F : Hp) : List V → Body → Prop
  | vs, .nil => vs = []
  | vs, .set n p r => ∃ ta vs', vs = .ref ta :: vs' ∧ ToldAt K F ta (.set n p) ∧ DeedsAt K F vs' r
  | vs, .put n p r => ∃ ta vs', vs = .ref ta :: vs' ∧ ToldAt K F ta (.put n p) ∧ DeedsAt K F vs' r
  | vs, .say p r => ∃ ta vs', vs = .ref ta :: vs' ∧ ToldAt K F ta (.say p) ∧ DeedsAt K F vs' r
  | vs, .iff p a b r => ∃ ta vs' pa xa xb ya yb, vs = .ref ta :: vs' ∧ SqT K F ta [.str "if", .ref pa, .ref xa, .ref xb] ∧ PartAt K F pa p ∧ SqT K F xa ya ∧ DeedsAt K F ya a ∧ SqT K F xb yb ∧ DeedsAt K F yb b ∧ DeedsAt K F vs' r
  | vs, .again p b r => ∃ ta vs' pa xb yb, vs = .ref ta :: vs' ∧ SqT K F ta [.str "again", .ref pa, .ref xb] ∧ PartAt K F pa p ∧ SqT K F xb yb ∧ DeedsAt K F yb b ∧ DeedsAt K F vs' r
  | vs, .call f ps n r => ∃ ta vs', vs = .ref ta :: vs' ∧ ToldAt K F ta (.call f ps n) ∧ DeedsAt K F vs' r
  | vs, .ret p r => ∃ ta vs', vs = .ref ta :: vs' ∧ ToldAt K F ta (.ret p) ∧ DeedsAt K F vs' r
section
variable {K : PySem.W.Frag} {F F' : Hp}
theorem ToldAt.mono (e : Same F F') {a : Addr} : ∀ {t : Told}, ToldAt K F a t → ToldAt K F' a t
  | .set _ _, ⟨pa, h, p⟩ => ⟨pa, same_seqT e h, p.mono e⟩
  | .put _ _, ⟨pa, h, p⟩ => ⟨pa, same_seqT e h, p.mono e⟩
  | .say _, ⟨pa, h, p⟩ => ⟨pa, same_seqT e h, p.mono e⟩
  | .iff _, ⟨pa, x, y, h, p⟩ => ⟨pa, x, y, same_seqT e h, p.mono e⟩
  | .again _, ⟨pa, x, h, p⟩ => ⟨pa, x, same_seqT e h, p.mono e⟩
  | .call _ _ _, ⟨pt, xs, h, g, p⟩ => ⟨pt, xs, same_seqT e h, same_seqT e g, p.mono e⟩
  | .ret _, ⟨pa, h, p⟩ => ⟨pa, same_seqT e h, p.mono e⟩
theorem DeedsAt.mono (e : Same F F') : ∀ {b : Body} {vs : List V}, DeedsAt K F vs b → DeedsAt K F' vs b
  | .nil, _, h => h
  | .set _ _ r, _, ⟨ta, vs', h, t, d⟩ => ⟨ta, vs', h, t.mono e, DeedsAt.mono e d⟩
  | .put _ _ r, _, ⟨ta, vs', h, t, d⟩ => ⟨ta, vs', h, t.mono e, DeedsAt.mono e d⟩
  | .say _ r, _, ⟨ta, vs', h, t, d⟩ => ⟨ta, vs', h, t.mono e, DeedsAt.mono e d⟩
  | .iff _ a b r, _, ⟨ta, vs', pa, xa, xb, ya, yb, h, t, p, h1, d1, h2, d2, d⟩ => ⟨ta, vs', pa, xa, xb, ya, yb, h, same_seqT e t, p.mono e, same_seqT e h1, DeedsAt.mono e d1, same_seqT e h2, DeedsAt.mono e d2, DeedsAt.mono e d⟩
  | .again _ b r, _, ⟨ta, vs', pa, xb, yb, h, t, p, h2, d2, d⟩ => ⟨ta, vs', pa, xb, yb, h, same_seqT e t, p.mono e, same_seqT e h2, DeedsAt.mono e d2, DeedsAt.mono e d⟩
  | .call _ _ _ r, _, ⟨ta, vs', h, t, d⟩ => ⟨ta, vs', h, t.mono e, DeedsAt.mono e d⟩
  | .ret _ r, _, ⟨ta, vs', h, t, d⟩ => ⟨ta, vs', h, t.mono e, DeedsAt.mono e d⟩
end
inductive BodiesAt (K : PySem.W.Frag) (F : Hp) : List V → List Body → Prop
  | nil : BodiesAt K F [] []
  | cons {a : Addr} {ys vs : List V} {b : Body} {bs : List Body} : SqT K F a ys → DeedsAt K F ys b → BodiesAt K F vs bs → BodiesAt K F (.ref a :: vs) (b :: bs)
def InnAt (K : PySem.W.Frag) (F : Hp) (ta : Addr) (ins : List Body) : Prop :=
  (∃ z hd xs, SqT K F ta (.str z :: hd :: xs) ∧ (z = "if" ∨ z = "again") ∧ BodiesAt K F xs ins) ∨ (ins = [] ∧ ∃ z xs, SqT K F ta (.str z :: xs) ∧ z ≠ "if" ∧ z ≠ "again")
section
variable {K : PySem.W.Frag} {F F' : Hp}
theorem BodiesAt.mono (e : Same F F') : ∀ {vs : List V} {bs : List Body}, BodiesAt K F vs bs → BodiesAt K F' vs bs
  | _, _, .nil => .nil
  | _, _, .cons h d t => .cons (same_seqT e h) (d.mono e) (t.mono e)
theorem BodiesAt.length : ∀ {vs : List V} {bs : List Body}, BodiesAt K F vs bs → vs.length = bs.length
  | _, _, .nil => rfl
  | _, _, .cons _ _ t => by rw [List.length_cons, List.length_cons, t.length]
theorem BodiesAt.get : ∀ {vs : List V} {bs : List Body} {i : Nat} {v : V}, BodiesAt K F vs bs → vs[i]? = some v → ∃ a ys b, v = .ref a ∧ bs[i]? = some b ∧ SqT K F a ys ∧ DeedsAt K F ys b
  | _, _, _, _, .nil, h => by simp at h
  | _, _, 0, _, .cons h d t, e => by
    simp at e
    exact ⟨_, _, _, e.symm, rfl, h, d⟩
  | _, _, i + 1, _, .cons h d t, e => by
    rw [List.getElem?_cons_succ] at e
    obtain ⟨a, ys, b, e1, e2, e3⟩ := t.get e
    exact ⟨a, ys, b, e1, by rw [List.getElem?_cons_succ]; exact e2, e3⟩
theorem deeds_step {v : V} {vs : List V} : ∀ {b : Body}, DeedsAt K F (v :: vs) b → ∃ ta t ins r, v = .ref ta ∧ b.step = some (t, ins, r) ∧ ToldAt K F ta t ∧ InnAt K F ta ins ∧ DeedsAt K F vs r
  | .nil, h => by cases h
  | .set _ _ r, ⟨ta, vs', h, t, d⟩ => by
    cases h
    exact ⟨ta, _, _, _, rfl, rfl, t, .inr ⟨rfl, _, _, t.choose_spec.1, by decide +kernel, by decide +kernel⟩, d⟩
  | .put _ _ r, ⟨ta, vs', h, t, d⟩ => by
    cases h
    exact ⟨ta, _, _, _, rfl, rfl, t, .inr ⟨rfl, _, _, t.choose_spec.1, by decide +kernel, by decide +kernel⟩, d⟩
  | .say _ r, ⟨ta, vs', h, t, d⟩ => by
    cases h
    exact ⟨ta, _, _, _, rfl, rfl, t, .inr ⟨rfl, _, _, t.choose_spec.1, by decide +kernel, by decide +kernel⟩, d⟩
  | .iff _ a b r, ⟨ta, vs', pa, xa, xb, ya, yb, h, t, p, h1, d1, h2, d2, d⟩ => by
    cases h
    exact ⟨ta, _, _, _, rfl, rfl, ⟨pa, _, _, t, p⟩, .inl ⟨_, _, _, t, .inl rfl, .cons h1 d1 (.cons h2 d2 .nil)⟩, d⟩
  | .again _ b r, ⟨ta, vs', pa, xb, yb, h, t, p, h2, d2, d⟩ => by
    cases h
    exact ⟨ta, _, _, _, rfl, rfl, ⟨pa, _, t, p⟩, .inl ⟨_, _, _, t, .inr rfl, .cons h2 d2 .nil⟩, d⟩
  | .call _ _ _ r, ⟨ta, vs', h, t, d⟩ => by
    cases h
    exact ⟨ta, _, _, _, rfl, rfl, t, .inr ⟨rfl, _, _, t.choose_spec.choose_spec.1, by decide +kernel, by decide +kernel⟩, d⟩
  | .ret _ r, ⟨ta, vs', h, t, d⟩ => by
    cases h
    exact ⟨ta, _, _, _, rfl, rfl, t, .inr ⟨rfl, _, _, t.choose_spec.1, by decide +kernel, by decide +kernel⟩, d⟩
theorem deeds_nil : ∀ {b : Body}, DeedsAt K F [] b → b = .nil
  | .nil, _ => rfl
  | .set _ _ r, ⟨ta, vs', h, _⟩ => by cases h
  | .put _ _ r, ⟨ta, vs', h, _⟩ => by cases h
  | .say _ r, ⟨ta, vs', h, _⟩ => by cases h
  | .iff _ a b r, ⟨ta, vs', pa, xa, xb, ya, yb, h, _⟩ => by cases h
  | .again _ b r, ⟨ta, vs', pa, xb, yb, h, _⟩ => by cases h
  | .call _ _ _ r, ⟨ta, vs', h, _⟩ => by cases h
  | .ret _ r, ⟨ta, vs', h, _⟩ => by cases h
end
structure Cpt (R : Reg) (n : Nat) (nd : List Addr) (G G' : Hp) (da : Nat → Addr) : Prop where
  g : Same G G'
  r : ∀ e ∈ R, G' e.1 = some e.2
  d : ∀ (j : Nat) (a : Addr), nd[j]? = some a → da (n + j) = a
theorem Cpt.left {R1 R2 : Reg} {n : Nat} {d1 d2 : List Addr} {G G' : Hp} {da : Nat → Addr} (h : Cpt (R1 ++ R2) n (d1 ++ d2) G G' da) : Cpt R1 n d1 G G' da :=
  ⟨h.g, fun e he => h.r e (List.mem_append_left _ he), fun j a e => h.d j a (by rw [List.getElem?_append_left (List.getElem?_eq_some_iff.mp e).1]; exact e)⟩
theorem Cpt.right {R1 R2 : Reg} {n : Nat} {d1 d2 : List Addr} {G G' : Hp} {da : Nat → Addr} (h : Cpt (R1 ++ R2) n (d1 ++ d2) G G' da) : Cpt R2 (n + d1.length) d2 G G' da :=
  ⟨h.g, fun e he => h.r e (List.mem_append_right _ he), fun j a e => by
    have := h.d (d1.length + j) a (by rw [List.getElem?_append_right (Nat.le_add_right _ _), Nat.add_sub_cancel_left]; exact e)
    rw [← this, Nat.add_assoc]⟩
structure Laid (K : PySem.W.Frag) (G : Hp) (R : Reg) (n : Nat) (nd : List Addr) (tbl : List DInfo) : Prop where
  len : nd.length = tbl.length
  ok : ∀ (G' : Hp) (da : Nat → Addr), Cpt R n nd G G' da → ∀ (j : Nat) (i : DInfo), tbl[j]? = some i → DeedAt K G' da (n + j) i
theorem Laid.nil {K : PySem.W.Frag} {G : Hp} {n : Nat} : Laid K G [] n [] [] := ⟨rfl, fun _ _ _ j i h => by simp at h⟩
theorem Laid.append {K : PySem.W.Frag} {G : Hp} {R1 R2 : Reg} {n : Nat} {d1 d2 : List Addr} {t1 t2 : List DInfo} (h1 : Laid K G R1 n d1 t1) (h2 : Laid K G R2 (n + d1.length) d2 t2) : Laid K G (R1 ++ R2) n (d1 ++ d2) (t1 ++ t2) := by
  refine ⟨by rw [List.length_append, List.length_append, h1.len, h2.len], fun G' da c j i h => ?_⟩
  by_cases hj : j < t1.length
  · rw [List.getElem?_append_left hj] at h
    exact h1.ok G' da c.left j i h
  · rw [List.getElem?_append_right (by omega)] at h
    have := h2.ok G' da c.right (j - t1.length) i h
    have e : n + d1.length + (j - t1.length) = n + j := by
      rw [h1.len]
      omega
    rw [e] at this
    exact this
def ListAt (K : PySem.W.Frag) (G : Hp) (R : Reg) (n : Nat) (nd : List Addr) (l : Addr) (pl : List Nat) : Prop := ∀ (G' : Hp) (da : Nat → Addr), Cpt R n nd G G' da → DL K G' da l pl
def Lists (K : PySem.W.Frag) (G : Hp) (R : Reg) (n : Nat) (nd : List Addr) (ls : List Addr) (pls : List (List Nat)) : Prop := ls.length = pls.length ∧ ∀ (G' : Hp) (da : Nat → Addr), Cpt R n nd G G' da →
  ∀ (j : Nat) (l : Addr) (pl : List Nat), ls[j]? = some l → pls[j]? = some pl → DL K G' da l pl
theorem Lists.nil {K : PySem.W.Frag} {G : Hp} {n : Nat} : Lists K G [] n [] [] [] := ⟨rfl, fun _ _ _ j l pl h => by simp at h⟩
theorem Lists.append {K : PySem.W.Frag} {G : Hp} {R1 R2 : Reg} {n : Nat} {d1 d2 ls : List Addr} {pls : List (List Nat)} {l : Addr} {pl : List Nat} (h1 : Lists K G R1 n d1 ls pls) (h2 : ListAt K G R2 (n + d1.length) d2 l pl) : Lists K G (R1 ++ R2) n (d1 ++ d2) (ls ++ [l]) (pls ++ [pl]) := by
  refine ⟨by simp [h1.1], fun G' da c j l' pl' e1 e2 => ?_⟩
  by_cases hj : j < ls.length
  · rw [List.getElem?_append_left hj] at e1
    rw [List.getElem?_append_left (by rw [← h1.1]; exact hj)] at e2
    exact h1.2 G' da c.left j l' pl' e1 e2
  · rw [List.getElem?_append_right (by omega)] at e1
    rw [List.getElem?_append_right (by rw [← h1.1]; omega)] at e2
    have lt := (List.getElem?_eq_some_iff.mp e1).1
    have z : j - ls.length = 0 := by
      rw [List.length_singleton] at lt
      omega
    rw [← h1.1] at e2
    rw [z] at e1 e2
    have z1 : l = l' := by simpa using e1
    have z2 : pl = pl' := by simpa using e2
    rw [← z1, ← z2]
    exact h2 G' da c.right
def layFuns : Nat → List Body → Nat → List (List Nat) × List DInfo
  | _, [], _ => ([], [])
  | k, b :: bs, n => ((lay k b n).1 :: (layFuns (k + 1) bs (n + b.many)).1, (lay k b n).2 ++ (layFuns (k + 1) bs (n + b.many)).2)
def sp_Deed_init (K : PySem.W.Frag) : Sp := fun vs H Q _ => ∃ (F : Hp) (x dx ta : Addr) (p fn : Nat), vs = [.ref x, .int (p : Nat), .int (fn : Nat), .ref ta] ∧ Sat F [(x, .ins (He.ga K "Deed") dx [])] H ∧
  ∀ (b : Addr) (H' : Hp), Sat F [(b, .lst []), (x, deedO K dx p fn ta b)] H' → Q .non H'
def sp__bodies_in (K : PySem.W.Frag) : Sp := fun vs H Q _ => ∃ (F : Hp) (ta : Addr) (ins : List Body), vs = [.ref ta] ∧ Same F H ∧ InnAt K F ta ins ∧ ∀ (t : Addr) (xs : List V) (H' : Hp), Same H H' → H t = none → H' t = some (.tup xs) → BodiesAt K F xs ins → Q (.ref t) H'
def sp_laid (K : PySem.W.Frag) (d : Nat) : Sp := fun vs H Q _ => ∃ (F G : Hp) (x lx dl ba : Addr) (fn : Nat) (b : Body) (ys : List V) (ds : List Addr), vs = [.ref x, .ref ba, .int (fn : Nat)] ∧ Same G F ∧
  F x = some (.ins (He.ga K "Layout") lx [("deeds", .ref dl)]) ∧ Sat F [(dl, .lst (ds.map V.ref))] H ∧ SqT K G ba ys ∧ DeedsAt K G ys b ∧ b.depth ≤ d ∧ ds.length + b.many ≤ 10000 ∧
  ∀ (R : Reg) (nd : List Addr) (l : Addr) (H' : Hp), Laid K G R ds.length nd (lay fn b ds.length).2 → ListAt K G R ds.length nd l (lay fn b ds.length).1 → Sat F ((dl, .lst ((ds ++ nd).map V.ref)) :: R) H' → Q (.ref l) H'
def sp_Layout__laid_out (K : PySem.W.Frag) : Sp := sp_laid K 8
def sp_Layout_init (K : PySem.W.Frag) : Sp := fun vs H Q _ => ∃ (F G : Hp) (x lx fa : Addr) (fs : List V) (bs : List Body), vs = [.ref x, .ref fa] ∧ Same G F ∧ Sat F [(x, .ins (He.ga K "Layout") lx [])] H ∧ SqT K G fa fs ∧ fs.length = bs.length ∧
  (∀ (i : Nat) (v : V) (b : Body), fs[i]? = some v → bs[i]? = some b → ∃ a ba ys n m, v = .ref a ∧ SqT K G a [n, m, .ref ba] ∧ SqT K G ba ys ∧ DeedsAt K G ys b ∧ b.depth ≤ 8) ∧ manyAll bs ≤ 10000 ∧ bs.length ≤ 100 ∧
  ∀ (R : Reg) (nd : List Addr) (dl bl : Addr) (ls : List Addr) (H' : Hp), Laid K G R 0 nd (layFuns 0 bs 0).2 → Lists K G R 0 nd ls (layFuns 0 bs 0).1 → Sat F ((x, .ins (He.ga K "Layout") lx [("deeds", .ref dl), ("bodies", .ref bl)]) :: (dl, .lst (nd.map V.ref)) :: (bl, .lst (ls.map V.ref)) :: R) H' → Q .non H'
end S
set_option Elab.async false
set_option linter.all false
set_option maxRecDepth 100000
namespace S
open PySem PySem.Spec PyProof.Rows L2
def n_Deed_init : List Str := ["self", "place", "fun", "told"]
def t_Deed_init (K : PySem.W.Frag) : TS :=
    (tSeq (sFld K (tVar 0) (tVar 1) "place")
    (tSeq (sFld K (tVar 0) (tVar 2) "fun")
    (tSeq (sFld K (tVar 0) (tVar 3) "told")
    (sFld K (tVar 0) (tLst tNil) "bodies"))))
def n__bodies_in : List Str := ["told"]
def t__bodies_in (K : PySem.W.Frag) : TS :=
    (tRet (tIf (tTest (tOp (rIn K false) (tOp (rIxT K) (tVar 0) (tC (.int 0))) (tTup (tCons (tC (.str "if")) (tCons (tC (.str "again")) tNil))))) (tSl (rSlA K) (tVar 0) (tPart (tC (.int 2))) tNoPart) (tTup tNil)))
def n_Layout__laid_out : List Str := ["self", "body", "fun", "deeds", "told", "deed", "inner"]
def t_Layout__laid_out (K : PySem.W.Frag) (rec : Sp) : TS :=
    (tSeq (tAsg (tLst tNil) (gName 3))
    (tSeq (tFor (iTup K (tVar 1)) (gName 4)
      (tSeq (tAsg (tMake (He.ga K "Deed") (sp_Deed_init K) [] E0 (tCons (tCB (Evl.rLenS K) (tCons (tFld K (tVar 0) "deeds") tNil)) (tCons (tVar 2) (tCons (tVar 4) tNil)))) (gName 5))
      (tSeq (tDrop (tBM K "list" rAppend (tFld K (tVar 0) "deeds") (tCons (tVar 5) tNil)))
      (tSeq (sFld K (tVar 5) (tLc (iTup K (tCall (sp__bodies_in K) [] E0 (tCons (tVar 4) tNil))) (gName 6) tYes (tMeth (He.ga K "Layout") "_laid_out" rec [] E0 (tVar 0) (tCons (tVar 6) (tCons (tVar 2) tNil))) [6]) "bodies")
      (tDrop (tBM K "list" rAppend (tVar 3) (tCons (tVar 5) tNil)))))))
    (tRet (tVar 3))))
def n_Layout_init : List Str := ["self", "funs", "number", "fun"]
def t_Layout_init (K : PySem.W.Frag) : TS :=
    (tSeq (sFld K (tVar 0) (tLst tNil) "deeds")
    (sFld K (tVar 0) (tLc (iEnumT K (tCons (tVar 1) tNil)) (gTup K 2 (gCons (gName 2) (gCons (gName 3) gNil))) tYes (tMeth (He.ga K "Layout") "_laid_out" (sp_Layout__laid_out K) [] E0 (tVar 0) (tCons (tOp (rIxT K) (tVar 3) (tC (.int 2))) (tCons (tVar 2) tNil))) [2, 3]) "bodies"))
end S
set_option Elab.async false
set_option linter.all false
set_option maxRecDepth 100000
set_option maxHeartbeats 4000000
namespace S
open PySem PySem.Spec PyProof.Rows L2
section
variable {K : PySem.W.Frag}
theorem rd_Deed_init (T : Fx K) (vs : List V) (H : Hp) (Q : VK) (E : XK) (h : sp_Deed_init K vs H Q E) : t_Deed_init K { nx := fun _ H' => Q .non H', rt := Q } (start n_Deed_init vs) H := by
  obtain ⟨F, x, dx, ta, p, fn, rfl, s, q⟩ := h
  refine ⟨_, rfl, _, rfl, x, _, dx, [], rfl, s.get List.mem_cons_self, T.cls_Deed, T.na_Deed_place, (by show 0 < 1000; decide), ?_⟩
  have s1 := s.put (u := .ins (He.ga K "Deed") dx (putF "place" (.int (p : Nat)) []))
  refine ⟨_, rfl, _, rfl, x, _, dx, _, rfl, upd_same, T.cls_Deed, T.na_Deed_fun, (by show 1 < 1000; decide), ?_⟩
  have s2 := s1.put (u := .ins (He.ga K "Deed") dx (putF "fun" (.int (fn : Nat)) (putF "place" (.int (p : Nat)) [])))
  refine ⟨_, rfl, _, rfl, x, _, dx, _, rfl, upd_same, T.cls_Deed, T.na_Deed_told, (by show 2 < 1000; decide), ?_⟩
  have s3 := s2.put (u := .ins (He.ga K "Deed") dx (putF "told" (.ref ta) (putF "fun" (.int (fn : Nat)) (putF "place" (.int (p : Nat)) []))))
  generalize upd (upd (upd H x _) x _) x _ = H2 at s3 ⊢
  refine ⟨Nat.zero_le _, fun b hb => ?_⟩
  have s4 := (s3.new (o := .lst []) hb).perm (List.Perm.swap _ _ _)
  refine ⟨_, rfl, x, _, dx, _, rfl, s4.get List.mem_cons_self, T.cls_Deed, T.na_Deed_bodies, (by show 3 < 1000; decide), ?_⟩
  exact q b _ ((s4.put (u := deedO K dx p fn ta b)).perm (List.Perm.swap _ _ _))
theorem sIx_two (x y : V) (xs : List V) : ¬ HT.sIx (x :: y :: xs).length 0 (some 2) = 0 := by
  have e := HT.sIx_nat (x :: y :: xs).length 0 2
  have e2 : HT.sIx (x :: y :: xs).length 0 (some 2) = min 2 (xs.length + 1 + 1) := e
  omega
theorem cut_two (x y : V) (xs : List V) : cutV (x :: y :: xs) (some 2) none = xs := by
  have e : HT.sIx (x :: y :: xs).length 0 (some 2) = 2 := by
    have e := HT.sIx_nat (x :: y :: xs).length 0 2
    have e2 : HT.sIx (x :: y :: xs).length 0 (some 2) = min 2 (xs.length + 1 + 1) := e
    omega
  unfold cutV
  rw [HT.sIx_none, e, List.drop_succ_cons, List.drop_succ_cons, List.drop_zero, List.length_cons, List.length_cons]
  exact List.take_of_length_le (by omega)
theorem inV2 {z a b : Str} : inV (.str z) [.str a, .str b] = (decide (z = a) || decide (z = b)) := by
  have e1 : ∀ x y : Str, eqV (.str x) (.str y) = decide (y = x) := fun x y => by
    show (x == y) = decide (y = x)
    by_cases e : y = x
    · rw [e]; simp
    · rw [decide_eq_false e]
      simpa using fun q : x = y => e q.symm
  unfold inV
  rw [List.any_cons, List.any_cons, List.any_nil, e1, e1, Bool.or_false]
theorem rd__bodies_in (vs : List V) (H : Hp) (Q : VK) (E : XK) (h : sp__bodies_in K vs H Q E) : t__bodies_in K { nx := fun _ H' => Q .non H', rt := Q } (start n__bodies_in vs) H := by
  obtain ⟨F, ta, ins, rfl, sF, hi, q⟩ := h
  rcases hi with ⟨z, hd, xs, ht, hz, hb⟩ | ⟨rfl, z, xs, ht, n1, n2⟩
  · have t0 : Val (tOp (rIxT K) (tVar 0) (tC (.int 0))) [some (.ref ta)] H (.str z) := fun Q q => ⟨_, rfl, ta, _, 0, _, rfl, rfl, same_seqT sF ht, at_of (j := 0) rfl rfl, q⟩
    refine t0 _ ⟨(by show 2 ≤ sizeLine; decide), fun p hp => ⟨p, _, rfl, .inr (.inl (.inl upd_same)), rfl, rfl, true, ?_, iteT ?_⟩⟩
    · show V.bl (inV _ _) = _
      rw [inV2]
      rcases hz with z1 | z1 <;> (rw [z1]; decide +kernel)
    · have e : Same H (upd H p (.tup [.str "if", .str "again"])) := same_new hp
      refine ⟨_, rfl, 2, rfl, ta, _, rfl, same_seqT (sF.trans e) ht, fun hc => absurd hc.1 (sIx_two _ _ _), fun _ t ht' => ?_⟩
      rw [cut_two]
      exact q t xs _ (e.trans (same_new ht')) (e.free ht') upd_same hb
  · have t0 : Val (tOp (rIxT K) (tVar 0) (tC (.int 0))) [some (.ref ta)] H (.str z) := fun Q q => ⟨_, rfl, ta, _, 0, _, rfl, rfl, same_seqT sF ht, at_of (j := 0) rfl rfl, q⟩
    refine t0 _ ⟨(by show 2 ≤ sizeLine; decide), fun p hp => ⟨p, _, rfl, .inr (.inl (.inl upd_same)), rfl, rfl, false, ?_, iteF ?_⟩⟩
    · show V.bl (inV _ _) = _
      rw [inV2, decide_eq_false n1, decide_eq_false n2]
      rfl
    · have e : Same H (upd H p (.tup [.str "if", .str "again"])) := same_new hp
      refine ⟨Nat.zero_le _, fun t ht' => ?_⟩
      exact q t [] _ (e.trans (same_new ht')) (e.free ht') upd_same .nil
theorem Sat.newS {F H H' : Hp} {r : Reg} {p : Addr} {o : HO} (s : Sat F r H) (e : Same H H') (hp : H p = none) (ho : H' p = some o) : Sat F ((p, o) :: r) H' := by
  have s1 := s.new (o := o) hp
  refine ⟨s.fr.trans e, fun x hx => ?_, s1.off, s1.nd⟩
  rcases List.mem_cons.mp hx with z | z
  · rw [z]
    exact ho
  · exact e _ _ (s.at_ x z)
theorem perm_sum {α : Type} {l1 l2 : List α} (h : ∀ f : α → Nat, (l1.map f).sum = (l2.map f).sum) : l1.Perm l2 := by
  classical
  rw [List.perm_iff_count]
  intro a
  have e : ∀ l : List α, l.count a = (l.map fun x => if x = a then 1 else 0).sum := by
    intro l
    induction l with
    | nil => rfl
    | cons x l ih =>
      rw [List.count_cons, List.map_cons, List.sum_cons, ih, Nat.add_comm]
      congr 1
      by_cases q : x = a <;> simp [q]
  rw [e, e]
  exact h _
theorem layAll_snoc (fn : Nat) (b : Body) : ∀ (bs : List Body) (n : Nat), layAll fn (bs ++ [b]) n = ((layAll fn bs n).1 ++ [(lay fn b (n + manyAll bs)).1], (layAll fn bs n).2 ++ (lay fn b (n + manyAll bs)).2)
  | [], n => by simp [layAll, manyAll]
  | c :: bs, n => by
    rw [List.cons_append]
    unfold layAll
    rw [layAll_snoc fn b bs]
    simp [manyAll, Nat.add_assoc]
theorem manyAll_append : ∀ (as bs : List Body), manyAll (as ++ bs) = manyAll as + manyAll bs
  | [], bs => by simp [manyAll]
  | a :: as, bs => by
    show a.many + manyAll (as ++ bs) = (a.many + manyAll as) + manyAll bs
    rw [manyAll_append as bs]
    omega
theorem take_succ {bs : List Body} {j : Nat} {b : Body} (h : bs[j]? = some b) : bs.take (j + 1) = bs.take j ++ [b] := by
  rw [List.take_succ, h]
  rfl
theorem many_take {bs : List Body} {j : Nat} {b : Body} (h : bs[j]? = some b) : manyAll (bs.take j) + b.many ≤ manyAll bs := by
  have e := manyAll_append (bs.take (j + 1)) (bs.drop (j + 1))
  rw [List.take_append_drop, take_succ h, manyAll_append] at e
  have e2 : manyAll [b] = b.many := by simp [manyAll]
  omega
theorem Cpt.sub {R R' : Reg} {n : Nat} {nd : List Addr} {G G' : Hp} {da : Nat → Addr} (h : Cpt R' n nd G G' da) (e : ∀ x ∈ R, x ∈ R') : Cpt R n nd G G' da := ⟨h.g, fun x hx => h.r x (e x hx), h.d⟩
theorem Cpt.tl {R : Reg} {n : Nat} {a : Addr} {nd : List Addr} {G G' : Hp} {da : Nat → Addr} (h : Cpt R n (a :: nd) G G' da) : Cpt R (n + 1) nd G G' da :=
  ⟨h.g, h.r, fun j b e => by
    have := h.d (j + 1) b (by rw [List.getElem?_cons_succ]; exact e)
    rw [← this]
    congr 1
    omega⟩
theorem Laid.deed {G : Hp} {R2 : Reg} {n fn : Nat} {e dx ta D : Addr} {t : Told} {nd ls : List Addr} {pls : List (List Nat)} {tbl : List DInfo} (ht : ToldAt K G ta t) (h : Laid K G R2 (n + 1) nd tbl) (hl : Lists K G R2 (n + 1) nd ls pls) :
    Laid K G ((e, deedO K dx n fn ta D) :: (D, .lst (ls.map V.ref)) :: R2) n (e :: nd) (⟨fn, t, pls⟩ :: tbl) := by
  refine ⟨by rw [List.length_cons, List.length_cons, h.len], fun G' da c j i hi => ?_⟩
  have c2 : Cpt R2 (n + 1) nd G G' da := c.tl.sub fun x hx => List.mem_cons_of_mem _ (List.mem_cons_of_mem _ hx)
  cases j with
  | zero =>
    have ei : ⟨fn, t, pls⟩ = i := by simpa using hi
    subst ei
    have ea : da n = e := c.d 0 e rfl
    refine ⟨dx, ta, D, ?_, ht.mono c.g, ls, ?_, hl.1, hl.2 G' da c2⟩
    · rw [Nat.add_zero, ea]
      exact c.r _ List.mem_cons_self
    · exact SqL.of (c.r (D, .lst (ls.map V.ref)) (List.mem_cons_of_mem _ List.mem_cons_self))
  | succ j =>
    rw [List.getElem?_cons_succ] at hi
    have := h.ok G' da c2 j i hi
    have e1 : n + 1 + j = n + (j + 1) := by omega
    rw [e1] at this
    exact this
theorem rd_laid (T : Fx K) (d : Nat) (rec : Sp) (hrec : ∀ d', d = d' + 1 → ∀ vs H Q E, sp_laid K d' vs H Q E → rec vs H Q E) (vs : List V) (H : Hp) (Q : VK) (E : XK) (h : sp_laid K d vs H Q E) : t_Layout__laid_out K rec { nx := fun _ H' => Q .non H', rt := Q } (start n_Layout__laid_out vs) H := by
  obtain ⟨F, G, x, lx, dl, ba, fn, b, ys, ds, rfl, sG, hx, s0, hb, hy, hd, hz, q⟩ := h
  refine ⟨Nat.zero_le _, fun l hl => ?_⟩
  have s1 := s0.new (o := .lst []) hl
  have hl2 : H l = none := hl
  generalize upd H l _ = H1 at s1 ⊢
  refine ⟨_, rfl, ba, rfl, ⟨ys, same_seqT (sG.trans s1.fr) hb⟩, ?_⟩
  refine for_tup (K := K) (fun i σ H' => ∃ (v4 v5 v6 : Option V) (r : Body) (pls : List Nat) (tbl : List DInfo) (R : Reg) (nd tops : List Addr),
    σ = [some (.ref x), some (.ref ba), some (.int (fn : Nat)), some (.ref l), v4, v5, v6] ∧ DeedsAt K G (ys.drop i) r ∧ r.depth ≤ d ∧
    lay fn b ds.length = (pls ++ (lay fn r (ds.length + tbl.length)).1, tbl ++ (lay fn r (ds.length + tbl.length)).2) ∧ tbl.length + r.many = b.many ∧
    Laid K G R ds.length nd tbl ∧ (∀ G' da, Cpt R ds.length nd G G' da → tops = pls.map da) ∧ tops.length ≤ tbl.length ∧
    Sat F ((l, .lst (tops.map V.ref)) :: (dl, .lst ((ds ++ nd).map V.ref)) :: R) H')
    ⟨none, none, none, b, [], [], [], [], [], rfl, hy, hd, by simp, by simp, .nil, fun _ _ _ => rfl, Nat.le_refl _, by simpa using s1⟩
    (fun i σ H' _ ⟨_, _, _, _, _, _, _, _, _, _, _, _, _, _, _, _, _, w⟩ => same_seqT (sG.trans w.fr) hb) ?_ ?_
  · rintro i v σ H2 hv ⟨v4, v5, v6, r, pls, tbl, R, nd, tops, rfl, hr, hrd, hlay, hmany, hL, hT, hTl, w⟩
    have edrop : ys.drop i = v :: ys.drop (i + 1) := by
      have lt := (List.getElem?_eq_some_iff.mp hv).1
      rw [List.drop_eq_getElem_cons lt]
      rw [(List.getElem?_eq_some_iff.mp hv).2]
    rw [edrop] at hr
    obtain ⟨ta, t, ins, r', rfl, hstep, htold, hinn, hr'⟩ := deeds_step hr
    obtain ⟨em, el⟩ := lay_step fn hstep (ds.length + tbl.length)
    obtain ⟨hd1, hd2⟩ := depth_step hstep
    have hnd : nd.length = tbl.length := hL.len
    have elen : ((ds ++ nd).map V.ref).length = ds.length + tbl.length := by
      rw [List.length_map, List.length_append, hnd]
    have vdl : ∀ (H : Hp) (a b c : Option V), Same F H → Val (tFld K (tVar 0) "deeds") [some (.ref x), some (.ref ba), some (.int (fn : Nat)), some (.ref l), a, b, c] H (.ref dl) := fun H a b c e => val_fld (val_var rfl) (e _ _ hx) T.cls_Layout T.na_Layout_deeds rfl
    have vlen := val_len (K := K) (vdl H2 (some (.ref ta)) v5 v6 w.fr) (SqL.of (w.get (List.mem_cons_of_mem _ List.mem_cons_self)))
    rw [elen] at vlen
    refine vlen _ ?_
    refine ⟨_, rfl, _, rfl, ?_⟩
    intro e dx he hdx ne
    have s2 := w.make (x := e) (dx := dx) (o := .ins (He.ga K "Deed") dx []) (u := .own e) he hdx ne
    generalize upd (upd H2 dx _) e _ = H3 at s2 ⊢
    have s3 : Sat F (((l, .lst (tops.map V.ref)) :: (dl, .lst ((ds ++ nd).map V.ref)) :: R) ++ [(e, .ins (He.ga K "Deed") dx [])]) H3 := s2.perm (by (refine perm_sum fun f => ?_; simp only [List.map_append, List.map_cons, List.map_nil, List.sum_append, List.sum_cons, List.sum_nil]; omega))
    refine ⟨_, e, dx, ta, ds.length + tbl.length, fn, rfl, s3.focus, fun b0 H4 s4 => ⟨rfl, ?_⟩⟩
    have s5 := s3.unfocus s4
    have s6 : Sat F ((dl, .lst ((ds ++ nd).map V.ref)) :: (e, deedO K dx (ds.length + tbl.length) fn ta b0) :: (l, .lst (tops.map V.ref)) :: R) H4 := (s5.perm (r1 := [(b0, .lst [])] ++ _) (by (refine perm_sum fun f => ?_; simp only [List.map_append, List.map_cons, List.map_nil, List.sum_append, List.sum_cons, List.sum_nil]; omega))).tail
    dsimp only [gName, List.set]
    refine sq_drop ?_
    refine vdl H4 _ _ _ s6.fr _ ?_
    have hdl : H4 dl = some (.lst ((ds ++ nd).map V.ref)) := s6.get List.mem_cons_self
    refine ⟨.inl ⟨rfl, _, SqL.of hdl⟩, _, rfl, dl, _, _, rfl, rfl, hdl, ?_, ?_⟩
    · rw [elen]
      exact Nat.lt_of_le_of_lt (by omega : _ ≤ 10000) (by decide)
    have s7 := s6.put (u := .lst ((ds ++ (nd ++ [e])).map V.ref))
    have eds : (ds ++ nd).map V.ref ++ [V.ref e] = (ds ++ (nd ++ [e])).map V.ref := by simp
    rw [eds]
    generalize upd H4 dl _ = H5 at s7 ⊢
    dsimp only
    refine ⟨_, rfl, G, ta, ins, rfl, sG.trans s7.fr, hinn, fun tt xs H6 e56 htt htt6 hbod => ?_⟩
    have s8 := s7.newS e56 htt htt6
    refine ⟨tt, rfl, ⟨xs, SqT.of htt6⟩, fun D hD => ?_⟩
    have s9 := s8.new (o := .lst []) hD
    have n1 : ds.length + (nd ++ [e]).length = ds.length + tbl.length + 1 := by
      rw [List.length_append, hnd, List.length_singleton]
      omega
    refine lc_tup (K := K) (fun j H' => ∃ (R2 : Reg) (nd2 ls : List Addr), Laid K G R2 (ds.length + tbl.length + 1) nd2 (layAll fn (ins.take j) (ds.length + tbl.length + 1)).2 ∧
      Lists K G R2 (ds.length + tbl.length + 1) nd2 ls (layAll fn (ins.take j) (ds.length + tbl.length + 1)).1 ∧
      Sat F ((D, .lst (ls.map V.ref)) :: (dl, .lst ((ds ++ (nd ++ [e]) ++ nd2).map V.ref)) :: (tt, .tup xs) :: (e, deedO K dx (ds.length + tbl.length) fn ta b0) :: (l, .lst (tops.map V.ref)) :: (R ++ R2)) H')
      ⟨[], [], [], .nil, .nil, by
        rw [List.append_nil, List.append_nil]
        exact s9.perm (by (refine perm_sum fun f => ?_; simp only [List.map_append, List.map_cons, List.map_nil, List.sum_append, List.sum_cons, List.sum_nil]; omega))⟩ (fun j H' _ ⟨_, _, _, _, _, w2⟩ => SqT.of (w2.get (List.mem_cons_of_mem _ (List.mem_cons_of_mem _ List.mem_cons_self)))) ?_ ?_
    · rintro j y H7 hy2 ⟨R2, nd2, ls, hL2, hLs, w2⟩
      obtain ⟨ia, iys, ib, rfl, hib, hia, hiys⟩ := hbod.get hy2
      refine ⟨rfl, ?_⟩
      unfold tYes
      refine Eq.mpr (if_pos rfl) ?_
      have hbig : b.many = manyAll ins + r'.many + 1 + tbl.length := by omega
      have hnd2 : nd2.length = manyAll (ins.take j) := by rw [hL2.len, layAll_len]
      have htk := many_take hib
      obtain ⟨d', hd'⟩ : ∃ d', d = d' + 1 := by
        have := hd2 ib (List.mem_of_getElem? hib)
        exact ⟨d - 1, by omega⟩
      have w3 : Sat F (((D, .lst (ls.map V.ref)) :: (tt, .tup xs) :: (e, deedO K dx (ds.length + tbl.length) fn ta b0) :: (l, .lst (tops.map V.ref)) :: (R ++ R2)) ++ [(dl, .lst ((ds ++ (nd ++ [e]) ++ nd2).map V.ref))]) H7 := w2.perm (by (refine perm_sum fun f => ?_; simp only [List.map_append, List.map_cons, List.map_nil, List.sum_append, List.sum_cons, List.sum_nil]; omega))
      have sub : Same F (addR F ((D, .lst (ls.map V.ref)) :: (tt, .tup xs) :: (e, deedO K dx (ds.length + tbl.length) fn ta b0) :: (l, .lst (tops.map V.ref)) :: (R ++ R2))) := same_addR w3.init.off
      have hlen2 : (ds ++ (nd ++ [e]) ++ nd2).length = ds.length + tbl.length + 1 + manyAll (ins.take j) := by
        rw [List.length_append, List.length_append, hnd2]
        omega
      refine ⟨_, rfl, x, lx, _, rfl, w3.focus.fr _ _ (sub _ _ hx), rfl, _, rfl, _, rfl, ?_⟩
      refine hrec d' hd' _ _ _ _ ⟨_, G, x, lx, dl, ia, fn, ib, iys, ds ++ (nd ++ [e]) ++ nd2, rfl, sG.trans sub, sub _ _ hx, w3.focus, hia, hiys, ?_, ?_, fun R3 nd3 l3 H8 hL3 hA3 w4 => ?_⟩
      · have := hd2 ib (List.mem_of_getElem? hib)
        omega
      · rw [hlen2]
        omega
      rw [hlen2] at hL3 hA3
      have w5 := w3.unfocus w4
      have hlsj : ls.length = j := by
        rw [hLs.1, layAll_len1, List.length_take]
        have := (List.getElem?_eq_some_iff.mp hib).1
        omega
      have hins : ins.length ≤ manyAll ins + ins.length := by omega
      refine ⟨ls.map V.ref, w5.get (List.mem_append_left _ List.mem_cons_self), ?_, ?_⟩
      · rw [List.length_map, hlsj]
        have := (List.getElem?_eq_some_iff.mp hib).1
        have h4 : ins.length ≤ 2 := by
          cases r <;> (cases hstep <;> simp)
        exact Nat.lt_of_le_of_lt (by omega : j ≤ 2) (by decide)
      · rw [take_succ hib, layAll_snoc]
        refine ⟨R2 ++ R3, nd2 ++ nd3, ls ++ [l3], hL2.append (by rw [hnd2]; exact hL3), hLs.append (by rw [hnd2]; exact hA3), ?_⟩
        have w6 := (w5.perm (r1 := (D, .lst (ls.map V.ref)) :: (dl, .lst ((ds ++ (nd ++ [e]) ++ nd2 ++ nd3).map V.ref)) :: (tt, .tup xs) :: (e, deedO K dx (ds.length + tbl.length) fn ta b0) :: (l, .lst (tops.map V.ref)) :: (R ++ (R2 ++ R3))) (by (refine perm_sum fun f => ?_; simp only [List.map_append, List.map_cons, List.map_nil, List.sum_append, List.sum_cons, List.sum_nil]; omega))).put (u := .lst (ls.map V.ref ++ [V.ref l3]))
        rw [← List.append_assoc, List.map_append (l₁ := ls)]
        exact w6
    · rintro H7 ⟨R2, nd2, ls, hL2, hLs, w2⟩
      rw [hbod.length, List.take_length] at hL2 hLs
      have w3 : Sat F ((e, deedO K dx (ds.length + tbl.length) fn ta b0) :: (D, .lst (ls.map V.ref)) :: (dl, .lst ((ds ++ (nd ++ [e]) ++ nd2).map V.ref)) :: (l, .lst (tops.map V.ref)) :: (R ++ R2)) H7 :=
        (w2.perm (r1 := [(tt, .tup xs)] ++ ((e, deedO K dx (ds.length + tbl.length) fn ta b0) :: (D, .lst (ls.map V.ref)) :: (dl, .lst ((ds ++ (nd ++ [e]) ++ nd2).map V.ref)) :: (l, .lst (tops.map V.ref)) :: (R ++ R2))) (by (refine perm_sum fun f => ?_; simp only [List.map_append, List.map_cons, List.map_nil, List.sum_append, List.sum_cons, List.sum_nil]; omega))).tail
      refine ⟨_, rfl, e, _, dx, _, rfl, w3.get List.mem_cons_self, T.cls_Deed, T.na_Deed_bodies, (by show 4 < 1000; decide), ?_⟩
      have w4 := w3.put (u := deedO K dx (ds.length + tbl.length) fn ta D)
      have w5 := w4.perm (r1 := (l, .lst (tops.map V.ref)) :: (dl, .lst ((ds ++ (nd ++ [e]) ++ nd2).map V.ref)) :: (R ++ ((e, deedO K dx (ds.length + tbl.length) fn ta D) :: (D, .lst (ls.map V.ref)) :: R2))) (by (refine perm_sum fun f => ?_; simp only [List.map_append, List.map_cons, List.map_nil, List.sum_append, List.sum_cons, List.sum_nil]; omega))
      have eO : (HO.ins (He.ga K "Deed") dx (putF "bodies" (.ref D) [("place", .int ((ds.length + tbl.length : Nat))), ("fun", .int (fn : Nat)), ("told", .ref ta), ("bodies", .ref b0)])) = deedO K dx (ds.length + tbl.length) fn ta D := rfl
      dsimp only
      refine st_dropI ?_
      have htl : tops.length ≤ 10000 := by omega
      refine ⟨_, rfl, .inl ⟨rfl, _, SqL.of (w5.get List.mem_cons_self)⟩, _, rfl, l, _, _, rfl, rfl, w5.get List.mem_cons_self, ?_, ?_⟩
      · rw [List.length_map]
        exact Nat.lt_of_le_of_lt htl (by decide)
      have w6 := w5.put (u := .lst (tops.map V.ref ++ [V.ref e]))
      have hn : ds.length + nd.length = ds.length + tbl.length := by rw [hnd]
      have hLd : Laid K G ((e, deedO K dx (ds.length + tbl.length) fn ta D) :: (D, .lst (ls.map V.ref)) :: R2) (ds.length + nd.length) (e :: nd2) (⟨fn, t, (layAll fn ins (ds.length + tbl.length + 1)).1⟩ :: (layAll fn ins (ds.length + tbl.length + 1)).2) := by
        rw [hn]
        exact Laid.deed htold hL2 hLs
      have hlen3 : ds.length + (tbl ++ (⟨fn, t, (layAll fn ins (ds.length + tbl.length + 1)).1⟩ :: (layAll fn ins (ds.length + tbl.length + 1)).2)).length = ds.length + tbl.length + 1 + manyAll ins := by
        rw [List.length_append, List.length_cons, layAll_len]
        omega
      refine ⟨_, _, _, r', pls ++ [ds.length + tbl.length], tbl ++ (⟨fn, t, (layAll fn ins (ds.length + tbl.length + 1)).1⟩ :: (layAll fn ins (ds.length + tbl.length + 1)).2), _, nd ++ (e :: nd2), tops ++ [e], rfl, hr', Nat.le_trans hd1 hrd, ?_, ?_, hL.append hLd, ?_, ?_, ?_⟩
      · rw [hlen3, hlay, el]
        simp
      · rw [List.length_append, List.length_cons, layAll_len]
        omega
      · intro G' da c
        have h1 := hT G' da c.left
        have h2 := c.right.d 0 e rfl
        rw [Nat.add_zero, hn] at h2
        rw [List.map_append, List.map_cons, List.map_nil, h2, ← h1]
      · rw [List.length_append, List.length_append, List.length_cons, List.length_cons]
        simp only [List.length_nil]
        omega
      · have e3 : ds ++ (nd ++ e :: nd2) = ds ++ (nd ++ [e]) ++ nd2 := by simp
        rw [e3, List.map_append (l₁ := tops)]
        exact w6
  · rintro σ H2 ⟨v4, v5, v6, r, pls, tbl, R, nd, tops, rfl, hr, hrd, hlay, hmany, hL, hT, hTl, w⟩
    rw [List.drop_length] at hr
    have er := deeds_nil hr
    subst er
    have e1 : lay fn b ds.length = (pls, tbl) := by
      rw [hlay]
      simp [lay]
    refine ⟨_, rfl, ?_⟩
    rw [e1] at q
    refine q ((l, .lst (tops.map V.ref)) :: R) nd l H2 ⟨hL.len, fun G' da c => hL.ok G' da (c.sub fun y hy => List.mem_cons_of_mem _ hy)⟩ (fun G' da c => ?_) (w.perm (by (refine perm_sum fun f => ?_; simp only [List.map_append, List.map_cons, List.map_nil, List.sum_append, List.sum_cons, List.sum_nil]; omega)))
    have := hT G' da (c.sub fun y hy => List.mem_cons_of_mem _ hy)
    show SqL K G' l _
    rw [this] at c
    have h1 := SqL.of (K := K) (c.r _ List.mem_cons_self)
    rw [List.map_map] at h1
    exact h1
theorem walk_enumT {a : Addr} {xs : List V} : Walk (IteT K a) xs.length (fun H => SqT K H a xs) (YPair (fun i => some (.int (i : Nat))) (fun i => xs[i]?)) := by
  refine ⟨fun i _ hi q => ⟨xs, xs[i], q, by simp [hi]⟩, fun _ q => ⟨xs, q, rfl⟩, fun i H v H' _ q y => ?_⟩
  obtain ⟨T, x, h1, h2, h3, h4⟩ := y
  exact ⟨T, .int (i : Nat), x, h1, h2, h3, rfl, h4 xs q⟩
theorem layFuns_snoc (b : Body) : ∀ (bs : List Body) (k n : Nat), layFuns k (bs ++ [b]) n = ((layFuns k bs n).1 ++ [(lay (k + bs.length) b (n + manyAll bs)).1], (layFuns k bs n).2 ++ (lay (k + bs.length) b (n + manyAll bs)).2)
  | [], k, n => by simp [layFuns, manyAll]
  | c :: bs, k, n => by
    rw [List.cons_append]
    unfold layFuns
    rw [layFuns_snoc b bs]
    simp [manyAll, Nat.add_assoc, Nat.add_comm 1]
theorem layFuns_len : ∀ (bs : List Body) (k n : Nat), (layFuns k bs n).2.length = manyAll bs
  | [], _, _ => rfl
  | b :: bs, k, n => by simp [layFuns, manyAll, lay_len, layFuns_len bs]
theorem layFuns_len1 : ∀ (bs : List Body) (k n : Nat), (layFuns k bs n).1.length = bs.length
  | [], _, _ => rfl
  | b :: bs, k, n => by simp [layFuns, layFuns_len1 bs]
theorem rd_Layout_init (T : Fx K) (vs : List V) (H : Hp) (Q : VK) (E : XK) (h : sp_Layout_init K vs H Q E) : t_Layout_init K { nx := fun _ H' => Q .non H', rt := Q } (start n_Layout_init vs) H := by
  obtain ⟨F, G, x, lx, fa, fs, bs, rfl, sG, s0, hfa, hlen, hfs, hz, hz1, q⟩ := h
  refine ⟨Nat.zero_le _, fun dl hdl => ?_⟩
  have s1 := (s0.new (o := .lst []) hdl).perm (List.Perm.swap _ _ _)
  refine ⟨_, rfl, x, _, lx, _, rfl, s1.get List.mem_cons_self, T.cls_Layout, T.na_Layout_deeds, (by show 0 < 1000; decide), ?_⟩
  have s2 := s1.put (u := .ins (He.ga K "Layout") lx [("deeds", .ref dl)])
  have eO : (HO.ins (He.ga K "Layout") lx (putF "deeds" (.ref dl) [])) = .ins (He.ga K "Layout") lx [("deeds", .ref dl)] := rfl
  rw [eO]
  generalize upd (upd H dl _) x _ = H2 at s2 ⊢
  refine ⟨_, rfl, fa, fs, rfl, same_seqT (sG.trans s2.fr) hfa, fun D hD => ?_⟩
  have s3 := s2.new (o := .lst []) hD
  refine lc_it (walk_enumT (K := K) (a := fa) (xs := fs)) (fun j H' => ∃ (R : Reg) (nd ls : List Addr), Laid K G R 0 nd (layFuns 0 (bs.take j) 0).2 ∧ Lists K G R 0 nd ls (layFuns 0 (bs.take j) 0).1 ∧
      Sat F ((D, .lst (ls.map V.ref)) :: (dl, .lst (nd.map V.ref)) :: (x, .ins (He.ga K "Layout") lx [("deeds", .ref dl)]) :: R) H')
    ⟨[], [], [], .nil, .nil, s3.perm (by (refine perm_sum fun f => ?_; simp only [List.map_append, List.map_cons, List.map_nil, List.sum_append, List.sum_cons, List.sum_nil]; omega))⟩ (fun j H' _ ⟨_, _, _, _, _, w⟩ => same_seqT (sG.trans w.fr) hfa) ?_ ?_
  · rintro j v H3 H4 hj ⟨R, nd, ls, hL, hLs, w⟩ ⟨T', y1, y2, rfl, hT, rfl, e1, e2⟩
    cases e1
    have hjb : j < bs.length := by omega
    obtain ⟨b, hb⟩ : ∃ b, bs[j]? = some b := ⟨bs[j], by simp [hjb]⟩
    obtain ⟨a, ba, ys, n, m, rfl, ha, hba, hys, hdep⟩ := hfs j y2 b e2 hb
    have w2 := w.temp (o := .tup [.int (j : Nat), .ref a]) hT
    refine ⟨T', _, rfl, .inl (.inl upd_same), rfl, _, _, rfl, _, _, rfl, rfl, ?_⟩
    generalize upd H3 T' _ = H4 at w2 ⊢
    refine ⟨rfl, ?_⟩
    unfold tYes
    refine Eq.mpr (if_pos rfl) ?_
    have w3 : Sat F (((D, .lst (ls.map V.ref)) :: (x, .ins (He.ga K "Layout") lx [("deeds", .ref dl)]) :: R) ++ [(dl, .lst (nd.map V.ref))]) H4 := w2.perm (by (refine perm_sum fun f => ?_; simp only [List.map_append, List.map_cons, List.map_nil, List.sum_append, List.sum_cons, List.sum_nil]; omega))
    have sub : Same F (addR F ((D, .lst (ls.map V.ref)) :: (x, .ins (He.ga K "Layout") lx [("deeds", .ref dl)]) :: R)) := same_addR w3.init.off
    have hxx := addR_at (F := F) w3.init.nd (a := x) (o := .ins (He.ga K "Layout") lx [("deeds", .ref dl)]) (List.mem_cons_of_mem _ List.mem_cons_self)
    have hnd : nd.length = manyAll (bs.take j) := by rw [hL.len, layFuns_len]
    have htk := many_take hb
    refine ⟨_, rfl, x, lx, _, rfl, w3.focus.fr _ _ hxx, rfl, ?_⟩
    refine ⟨_, rfl, a, _, 2, _, rfl, rfl, same_seqT (sG.trans w2.fr) ha, at_of (j := 2) rfl rfl, _, rfl, ?_⟩
    refine ⟨_, G, x, lx, dl, ba, j, b, ys, nd, rfl, sG.trans sub, hxx, w3.focus, hba, hys, hdep, by omega, fun R3 nd3 l3 H8 hL3 hA3 w4 => ?_⟩
    have w5 := w3.unfocus w4
    have hlsj : ls.length = j := by
      rw [hLs.1, layFuns_len1, List.length_take]
      omega
    refine ⟨ls.map V.ref, w5.get (List.mem_append_left _ List.mem_cons_self), ?_, ?_⟩
    · rw [List.length_map, hlsj]
      exact Nat.lt_of_le_of_lt (by omega : j ≤ 100) (by decide)
    · rw [take_succ hb, layFuns_snoc]
      have e3 : (bs.take j).length = j := by
        rw [List.length_take]
        omega
      rw [e3, ← hnd, Nat.zero_add, Nat.zero_add]
      refine ⟨R ++ R3, nd ++ nd3, ls ++ [l3], hL.append (by rw [Nat.zero_add]; exact hL3), hLs.append (by rw [Nat.zero_add]; exact hA3), ?_⟩
      have w6 := (w5.perm (r1 := (D, .lst (ls.map V.ref)) :: (dl, .lst ((nd ++ nd3).map V.ref)) :: (x, .ins (He.ga K "Layout") lx [("deeds", .ref dl)]) :: (R ++ R3)) (by (refine perm_sum fun f => ?_; simp only [List.map_append, List.map_cons, List.map_nil, List.sum_append, List.sum_cons, List.sum_nil]; omega))).put (u := .lst (ls.map V.ref ++ [V.ref l3]))
      rw [List.map_append (l₁ := ls)]
      exact w6
  · rintro H7 ⟨R, nd, ls, hL, hLs, w⟩
    rw [hlen, List.take_length] at hL hLs
    have w3 := w.perm (List.Perm.trans (List.Perm.cons _ (List.Perm.swap _ _ _)) (List.Perm.swap _ _ _))
    refine ⟨_, rfl, x, _, lx, _, rfl, w3.get List.mem_cons_self, T.cls_Layout, T.na_Layout_bodies, (by show 1 < 1000; decide), ?_⟩
    have w4 := w3.put (u := .ins (He.ga K "Layout") lx [("deeds", .ref dl), ("bodies", .ref D)])
    exact q R nd dl D ls _ hL hLs (w4.perm (by (refine perm_sum fun f => ?_; simp only [List.map_append, List.map_cons, List.map_nil, List.sum_append, List.sum_cons, List.sum_nil]; omega)))
end
end S
set_option Elab.async false
set_option linter.all false
set_option maxRecDepth 100000
set_option maxHeartbeats 4000000
namespace S
open PySem PySem.Spec PyProof.Rows L2
structure Env where
  tbl : List DInfo
  bods : List (List Nat)
  nms : List Nat
  nc : Nat
structure Mch where
  hands : List (List Frm)
  held : List Int
  said : List (Nat × Int)
  up : Nat
def Env.many (e : Env) (fn : Nat) : Nat := e.nms.getD fn 0
def Env.begun (e : Env) (fn : Nat) (vals : List Int) : Frm := ⟨fn, vals ++ List.replicate (e.many fn - vals.length) 0, [⟨e.bods.getD fn [], 0, 1⟩]⟩
def Mch.stk (m : Mch) (k : Nat) : List Frm := m.hands.getD k []
def Mch.seek (m : Mch) : Nat → Nat → Option Nat
  | 0, _ => none
  | k + 1, j => if (m.stk ((m.up + j) % m.hands.length)).isEmpty then m.seek k (j + 1) else some ((m.up + j) % m.hands.length)
def Mch.next (m : Mch) : Option Nat := m.seek m.hands.length 0
def callM (e : Env) (held : List Int) (g : Nat) (ps : List Part) (n : Nat) : List Frm → List Frm
  | [] => []
  | f :: fs => if 20 ≤ (f :: fs).length then Frm.moveOn { f with names := f.names.set n 0 } :: fs else e.begun g (ps.map (Part.val f.names held)) :: f :: fs
def chooseM (held : List Int) (i : DInfo) (f : Frm) : Frm := match i.told with
  | .iff p => f.moveOn.enter (i.bodies.getD (if p.val f.names held ≠ 0 then 0 else 1) []) 1
  | .again p => f.moveOn.enter (i.bodies.getD 0 []) (p.val f.names held % 10).toNat
  | _ => f
structure Note where
  f : Frm
  held : List Int
  said : List (Nat × Int)
def noteM (k : Nat) (t : Told) (x : Note) : Note := match t with
  | .set n p => { x with f := Frm.moveOn { x.f with names := x.f.names.set n (p.val x.f.names x.held) } }
  | .put c p => { x with f := x.f.moveOn, held := x.held.set c (p.val x.f.names x.held) }
  | .say p => { x with f := x.f.moveOn, said := x.said ++ [(k, p.val x.f.names x.held)] }
  | _ => x
def deedM (e : Env) (k : Nat) (i : DInfo) (f : Frm) (fs : List Frm) (held : List Int) (said : List (Nat × Int)) : List Frm × List Int × List (Nat × Int) := match i.told with
  | .call g ps n => (callM e held g ps n (f :: fs), held, said)
  | .ret p => (endFun e.tbl (p.val f.names held) (f :: fs), held, said)
  | .iff _ => (chooseM held i f :: fs, held, said)
  | .again _ => (chooseM held i f :: fs, held, said)
  | t => let x := noteM k t ⟨f, held, said⟩; (x.f :: fs, x.held, x.said)
def Mch.doNext (e : Env) (m : Mch) : Mch := match m.next with
  | none => m
  | some k => match m.stk k with
    | [] => m
    | f :: fs => match f.deed e.tbl with
      | none => m
      | some (_, i) => let x := deedM e k i f fs m.held m.said
        ⟨m.hands.set k (settleH e.tbl x.1), x.2.1, x.2.2, (k + 1) % m.hands.length⟩
def Env.places (e : Env) (fn : Nat) (pl : List Nat) : Prop := ∀ p ∈ pl, ∃ i, e.tbl[p]? = some i ∧ i.fn = fn
def Env.part (e : Env) (fn : Nat) (p : Part) : Prop := p.ok (e.many fn) e.nc ∧ p.size ≤ 5000
def Env.told (e : Env) (i : DInfo) : Prop := match i.told with
  | .set k p => k < e.many i.fn ∧ e.part i.fn p
  | .put k p => k < e.nc ∧ e.part i.fn p
  | .say p => e.part i.fn p
  | .iff p => e.part i.fn p ∧ ∃ a b, i.bodies = [a, b] ∧ e.places i.fn a ∧ e.places i.fn b
  | .again p => e.part i.fn p ∧ ∃ a, i.bodies = [a] ∧ e.places i.fn a
  | .call g ps k => g < e.nms.length ∧ ps.length ≤ e.many g ∧ k < e.many i.fn ∧ ∀ p ∈ ps, e.part i.fn p
  | .ret p => e.part i.fn p
structure Env.Ok (e : Env) : Prop where
  len : e.bods.length = e.nms.length
  told : ∀ (p : Nat) (i : DInfo), e.tbl[p]? = some i → i.fn < e.nms.length ∧ e.told i
  bods : ∀ (j : Nat) (pl : List Nat), e.bods[j]? = some pl → e.places j pl
  nms : ∀ n ∈ e.nms, n ≤ 1000
structure FrmOk (e : Env) (f : Frm) : Prop where
  fn : f.fn < e.nms.length
  len : f.names.length = e.many f.fn
  held : Held f.names
  bs : ∀ b ∈ f.bs, e.places f.fn b.pl
def Frm.ready (f : Frm) : Prop := ∃ b bs, f.bs = b :: bs ∧ b.at_ < b.pl.length
structure HandOk (e : Env) (fs : List Frm) : Prop where
  all : ∀ f ∈ fs, FrmOk e f
  pend : Pend e.tbl fs
  top : ∀ f ∈ fs.head?, f.ready
  len : fs.length ≤ 20
structure Mch.Ok (e : Env) (m : Mch) : Prop where
  hands : ∀ fs ∈ m.hands, HandOk e fs
  held : Held m.held
  nc : m.held.length = e.nc
  many : m.hands.length ≤ 1000
def Mch.Big (n : Nat) (m : Mch) : Prop := (∀ fs ∈ m.hands, ∀ f ∈ fs, f.bs.length ≤ n) ∧ m.said.length ≤ n
structure GM where
  a : Addr
  dx : Addr
  na : Addr
  lo : Addr
  he : Addr
  sp : Addr
  ha : Addr
  ts : List Addr
  gs : List GH
  held : List Int
  said : List (Nat × Int)
  up : Nat
def GM.m (g : GM) : Mch := ⟨g.gs.map GH.m, g.held, g.said, g.up⟩
def mchF (g : GM) : List (Str × V) := [("names_of", .ref g.na), ("layout", .ref g.lo), ("held", .ref g.he), ("spoken", .ref g.sp), ("hands", .ref g.ha), ("up", .int (g.up : Nat))]
def mchO (K : PySem.W.Frag) (g : GM) : HO := .ins (He.ga K "Machine") g.dx (mchF g)
def saidO (p : Nat × Int) : HO := .tup [.int (p.1 : Nat), .int p.2]
def saidR (ts : List Addr) (said : List (Nat × Int)) : Reg := ts.zip (said.map saidO)
def GM.reg (K : PySem.W.Frag) (g : GM) : Reg := (g.a, mchO K g) :: (g.he, .lst (g.held.map V.int)) :: (g.sp, .lst (g.ts.map V.ref)) :: (g.ha, .lst (g.gs.map fun h => V.ref h.a)) :: (saidR g.ts g.said ++ g.gs.flatMap (GH.reg K))
structure EnvAt (K : PySem.W.Frag) (G : Hp) (da : Nat → Addr) (e : Env) (na lo : Addr) : Prop where
  na : SqL K G na (e.nms.map fun n => V.int (n : Nat))
  lo : ∃ (lx dl bl : Addr) (ls : List Addr), G lo = some (.ins (He.ga K "Layout") lx [("deeds", .ref dl), ("bodies", .ref bl)]) ∧ SqL K G dl ((List.range e.tbl.length).map fun p => V.ref (da p)) ∧ SqL K G bl (ls.map V.ref) ∧ ls.length = e.bods.length ∧
    ∀ (j : Nat) (l : Addr) (pl : List Nat), ls[j]? = some l → e.bods[j]? = some pl → DL K G da l pl
  tbl : TblAt K G da e.tbl
def GM.Wf (K : PySem.W.Frag) (G : Hp) (da : Nat → Addr) (g : GM) : Prop := (∀ h ∈ g.gs, h.Wf K G da) ∧ g.ts.length = g.said.length
structure MchAt (K : PySem.W.Frag) (F G : Hp) (da : Nat → Addr) (e : Env) (g : GM) (H : Hp) : Prop where
  sub : Same G F
  env : EnvAt K G da e g.na g.lo
  wf : g.Wf K G da
  sat : Sat F (g.reg K) H
def sp_Machine_next_hand (K : PySem.W.Frag) : Sp := fun vs H Q _ => ∃ (F G : Hp) (da : Nat → Addr) (e : Env) (g : GM), vs = [.ref g.a] ∧ MchAt K F G da e g H ∧ g.gs.length ≤ 1000 ∧ Q (match g.m.next with | none => .non | some k => .int (k : Nat)) H
def sp_Machine_all_ended (K : PySem.W.Frag) : Sp := fun vs H Q _ => ∃ (F G : Hp) (da : Nat → Addr) (e : Env) (g : GM), vs = [.ref g.a] ∧ MchAt K F G da e g H ∧ g.gs.length ≤ 1000 ∧ Q (.bl g.m.next.isNone) H
def sp_Machine_next_frame (K : PySem.W.Frag) : Sp := fun vs H Q _ => ∃ (F G : Hp) (da : Nat → Addr) (e : Env) (g : GM) (k : Nat) (h : GH) (f : GF) (fs : List GF), vs = [.ref g.a] ∧ MchAt K F G da e g H ∧ g.gs.length ≤ 1000 ∧ g.m.next = some k ∧ g.gs[k]? = some h ∧ h.fs = f :: fs ∧ Q (.ref f.a) H
abbrev lk (fs : List (Str × V)) (f : Str) : Option V := fs.lookup f
structure SelfAt (K : PySem.W.Frag) (F : Hp) (ma : Addr) (na lo : Addr) (fs : List (Str × V)) : Prop where
  o : ∃ dx, F ma = some (.ins (He.ga K "Machine") dx fs)
  na : lk fs "names_of" = some (.ref na)
  lo : lk fs "layout" = some (.ref lo)
def sp_Machine__begun (K : PySem.W.Frag) : Sp := fun vs H Q _ => ∃ (F G : Hp) (da : Nat → Addr) (e : Env) (ma na lo hl : Addr) (sf : List (Str × V)) (fn : Nat) (vals : List Int), vs = [.ref ma, .int (fn : Nat), .ref hl] ∧ Same G F ∧ EnvAt K G da e na lo ∧ e.Ok ∧ SelfAt K F ma na lo sf ∧
  Sat F [(hl, .lst (vals.map V.int))] H ∧ fn < e.nms.length ∧ vals.length ≤ e.many fn ∧ lk sf "_begun" = none ∧
  ∀ (f : GF) (H' : Hp), f.m = e.begun fn vals → f.Wf K G da → Sat F (f.reg K) H' → Q (.ref f.a) H'
def sp_Machine__call (K : PySem.W.Frag) : Sp := fun vs H Q _ => ∃ (F G : Hp) (da : Nat → Addr) (e : Env) (ma na lo he ta : Addr) (sf : List (Str × V)) (held : List Int) (h : GH) (f : GF) (fs : List GF) (g : Nat) (ps : List Part) (n : Nat), vs = [.ref ma, .ref h.a, .ref f.a, .ref ta] ∧ Same G F ∧ EnvAt K G da e na lo ∧ e.Ok ∧ SelfAt K F ma na lo sf ∧
  lk sf "held" = some (.ref he) ∧ lk sf "_begun" = none ∧ SqL K F he (held.map V.int) ∧ Held held ∧ held.length = e.nc ∧ Sat F (h.reg K) H ∧ h.Wf K G da ∧ h.fs = f :: fs ∧ f.bs ≠ [] ∧ FrmOk e f.m ∧ ToldAt K G ta (.call g ps n) ∧ e.told ⟨f.fn, .call g ps n, []⟩ ∧ h.fs.length ≤ 1000 ∧
  ∀ (h' : GH) (H' : Hp), h'.a = h.a → h'.m = callM e held g ps n h.m → h'.Wf K G da → Sat F (h'.reg K) H' → Q .non H'
def sp_Machine__choose (K : PySem.W.Frag) : Sp := fun vs H Q _ => ∃ (F G : Hp) (da : Nat → Addr) (e : Env) (ma na lo he : Addr) (sf : List (Str × V)) (held : List Int) (f : GF) (p : Nat) (i : DInfo), vs = [.ref ma, .ref f.a] ∧ Same G F ∧ EnvAt K G da e na lo ∧ e.Ok ∧ SelfAt K F ma na lo sf ∧
  lk sf "held" = some (.ref he) ∧ SqL K F he (held.map V.int) ∧ Held held ∧ held.length = e.nc ∧ Sat F (f.reg K) H ∧ f.Wf K G da ∧ FrmOk e f.m ∧ f.m.deed e.tbl = some (p, i) ∧ i.fn = f.fn ∧ ((∃ q, i.told = .iff q) ∨ ∃ q, i.told = .again q) ∧ f.bs.length < 16000000 ∧
  ∀ (f' : GF) (H' : Hp), f'.a = f.a → f'.m = chooseM held i f.m → f'.Wf K G da → Sat F (f'.reg K) H' → Q .non H'
def sp_Machine__note (K : PySem.W.Frag) : Sp := fun vs H Q _ => ∃ (F G : Hp) (da : Nat → Addr) (e : Env) (ma na lo he sp ta : Addr) (sf : List (Str × V)) (held : List Int) (said : List (Nat × Int)) (ts : List Addr) (k : Nat) (f : GF) (t : Told), vs = [.ref ma, .int (k : Nat), .ref f.a, .ref ta] ∧ Same G F ∧ e.Ok ∧ SelfAt K F ma na lo sf ∧
  lk sf "held" = some (.ref he) ∧ lk sf "spoken" = some (.ref sp) ∧ Held held ∧ held.length = e.nc ∧ Sat F ((he, .lst (held.map V.int)) :: (sp, .lst (ts.map V.ref)) :: (saidR ts said ++ f.reg K)) H ∧ ts.length = said.length ∧ f.Wf K G da ∧ f.bs ≠ [] ∧ FrmOk e f.m ∧
  ToldAt K G ta t ∧ e.told ⟨f.fn, t, []⟩ ∧ ((∃ n q, t = .set n q) ∨ (∃ n q, t = .put n q) ∨ ∃ q, t = .say q) ∧ said.length < 16000000 ∧
  ∀ (f' : GF) (held' : List Int) (said' : List (Nat × Int)) (ts' : List Addr) (H' : Hp), f'.a = f.a → noteM k t ⟨f.m, held, said⟩ = ⟨f'.m, held', said'⟩ → ts'.length = said'.length → f'.Wf K G da → Sat F ((he, .lst (held'.map V.int)) :: (sp, .lst (ts'.map V.ref)) :: (saidR ts' said' ++ f'.reg K)) H' → Q .non H'
def sp_Machine_do_next (K : PySem.W.Frag) : Sp := fun vs H Q _ => ∃ (F G : Hp) (da : Nat → Addr) (e : Env) (g : GM), vs = [.ref g.a] ∧ MchAt K F G da e g H ∧ e.Ok ∧ g.m.Ok e ∧ g.m.Big 15000000 ∧ g.m.next ≠ none ∧
  ∀ (g' : GM) (H' : Hp), g'.a = g.a → g'.na = g.na → g'.lo = g.lo → g'.m = g.m.doNext e → MchAt K F G da e g' H' → Q .non H'
end S
set_option Elab.async false
set_option linter.all false
set_option maxRecDepth 100000
namespace S
open PySem PySem.Spec PyProof.Rows L2
def n_Machine_next_hand : List Str := ["self", "many", "behind", "number"]
def t_Machine_next_hand (K : PySem.W.Frag) : TS :=
    (tSeq (tAsg (tCB (Evl.rLenS K) (tCons (tFld K (tVar 0) "hands") tNil)) (gName 1))
    (tSeq (tFor (iRng1 (tCons (tVar 1) tNil)) (gName 2)
      (tSeq (tAsg (tOp (rI (fun _ j => 0 < j) fun i j => .int (i % j)) (tOp (rI0 fun i j => .int (i + j)) (tFld K (tVar 0) "up") (tVar 2)) (tVar 1)) (gName 3))
      (tIfS (tTru K (tFld K (tOp (rIxL K) (tFld K (tVar 0) "hands") (tVar 3)) "frames"))
        (tRet (tVar 3))
        tNext)))
    (tRet (tC .non))))
def n_Machine_all_ended : List Str := ["self"]
def t_Machine_all_ended (K : PySem.W.Frag) : TS :=
    (tRet (tOp rIsN (tMeth (He.ga K "Machine") "next_hand" (sp_Machine_next_hand K) [] E0 (tVar 0) tNil) (tC .non)))
def n_Machine_next_frame : List Str := ["self"]
def t_Machine_next_frame (K : PySem.W.Frag) : TS :=
    (tRet (tOp (rIxL K) (tFld K (tOp (rIxL K) (tFld K (tVar 0) "hands") (tMeth (He.ga K "Machine") "next_hand" (sp_Machine_next_hand K) [] E0 (tVar 0) tNil)) "frames") (tUn (rU fun i => .int (-i)) (tC (.int 1)))))
def n_Machine__begun : List Str := ["self", "fun", "handed", "names"]
def t_Machine__begun (K : PySem.W.Frag) : TS :=
    (tSeq (tAsg (tOp rCat (tVar 2) (tOp rRep (tLst (tCons (tC (.int 0)) tNil)) (tOp (rI0 fun i j => .int (i - j)) (tOp (rIxL K) (tFld K (tVar 0) "names_of") (tVar 1)) (tCB (Evl.rLenS K) (tCons (tVar 2) tNil))))) (gName 3))
    (tRet (tMake (He.ga K "Frame") (sp_Frame_init K) [] E0 (tCons (tVar 1) (tCons (tVar 3) (tCons (tOp (rIxL K) (tFld K (tFld K (tVar 0) "layout") "bodies") (tVar 1)) tNil))))))
def n_Machine__call : List Str := ["self", "hand", "frame", "told", "handed", "_", "fun", "parts", "name", "part"]
def t_Machine__call (K : PySem.W.Frag) : TS :=
    (tSeq (tAsg (tVar 3) (gTup K 4 (gCons (gName 5) (gCons (gName 6) (gCons (gName 7) (gCons (gName 8) gNil))))))
    (tSeq (tIfS (tTest (tOp (rI0 fun i j => .bl (decide (j ≤ i))) (tCB (Evl.rLenS K) (tCons (tFld K (tVar 1) "frames") tNil)) (tC (.int 20))))
      (tSeq (tAsg (tC (.int 0)) (gSub (tFld K (tVar 2) "names") (tVar 8) rSetL))
      (tSeq (tDrop (tMeth (He.ga K "Frame") "move_on" (sp_Frame_move_on K) [] E0 (tVar 2) tNil))
      tRetN))
      tNext)
    (tSeq (tAsg (tLc (iTup K (tVar 7)) (gName 9) tYes (tCall (sp_reckoned K) [] E0 (tCons (tVar 9) (tCons (tFld K (tVar 2) "names") (tCons (tFld K (tVar 0) "held") tNil)))) [9]) (gName 4))
    (tDrop (tBM K "list" rAppend (tFld K (tVar 1) "frames") (tCons (tMeth (He.ga K "Machine") "_begun" (sp_Machine__begun K) [] E0 (tVar 0) (tCons (tVar 6) (tCons (tVar 4) tNil))) tNil))))))
def n_Machine__choose : List Str := ["self", "frame", "deed", "number"]
def t_Machine__choose (K : PySem.W.Frag) : TS :=
    (tSeq (tAsg (tMeth (He.ga K "Frame") "deed" (sp_Frame_deed K) [] E0 (tVar 1) tNil) (gName 2))
    (tSeq (tAsg (tCall (sp_reckoned K) [] E0 (tCons (tOp (rIxT K) (tFld K (tVar 2) "told") (tC (.int 1))) (tCons (tFld K (tVar 1) "names") (tCons (tFld K (tVar 0) "held") tNil)))) (gName 3))
    (tSeq (tDrop (tMeth (He.ga K "Frame") "move_on" (sp_Frame_move_on K) [] E0 (tVar 1) tNil))
    (tIfS (tTest (tOp rEq (tOp (rIxT K) (tFld K (tVar 2) "told") (tC (.int 0))) (tC (.str "again"))))
      (tDrop (tMeth (He.ga K "Frame") "enter" (sp_Frame_enter K) [] E0 (tVar 1) (tCons (tOp (rIxL K) (tFld K (tVar 2) "bodies") (tC (.int 0))) (tCons (tOp (rI (fun _ j => 0 < j) fun i j => .int (i % j)) (tVar 3) (tC (.int 10))) tNil))))
      (tDrop (tMeth (He.ga K "Frame") "enter" (sp_Frame_enter K) [] E0 (tVar 1) (tCons (tOp (rIxL K) (tFld K (tVar 2) "bodies") (tIf (tTest (tOp rNe (tVar 3) (tC (.int 0)))) (tC (.int 0)) (tC (.int 1)))) (tCons (tC (.int 1)) tNil))))))))
def n_Machine__note : List Str := ["self", "hand", "frame", "told", "number"]
def t_Machine__note (K : PySem.W.Frag) : TS :=
    (tSeq (tAsg (tCall (sp_reckoned K) [] E0 (tCons (tOp (rIxT K) (tVar 3) (tUn (rU fun i => .int (-i)) (tC (.int 1)))) (tCons (tFld K (tVar 2) "names") (tCons (tFld K (tVar 0) "held") tNil)))) (gName 4))
    (tSeq (tIfS (tTest (tOp rEq (tOp (rIxT K) (tVar 3) (tC (.int 0))) (tC (.str "set"))))
      (tAsg (tVar 4) (gSub (tFld K (tVar 2) "names") (tOp (rIxT K) (tVar 3) (tC (.int 1))) rSetL))
      (tIfS (tTest (tOp rEq (tOp (rIxT K) (tVar 3) (tC (.int 0))) (tC (.str "put"))))
        (tAsg (tVar 4) (gSub (tFld K (tVar 0) "held") (tOp (rIxT K) (tVar 3) (tC (.int 1))) rSetL))
        (tDrop (tBM K "list" rAppend (tFld K (tVar 0) "spoken") (tCons (tTup (tCons (tVar 1) (tCons (tVar 4) tNil))) tNil)))))
    (tDrop (tMeth (He.ga K "Frame") "move_on" (sp_Frame_move_on K) [] E0 (tVar 2) tNil))))
def n_Machine_do_next : List Str := ["self", "number", "hand", "frame", "told"]
def t_Machine_do_next (K : PySem.W.Frag) : TS :=
    (tSeq (tAsg (tMeth (He.ga K "Machine") "next_hand" (sp_Machine_next_hand K) [] E0 (tVar 0) tNil) (gName 1))
    (tSeq (tAsg (tOp (rIxL K) (tFld K (tVar 0) "hands") (tVar 1)) (gName 2))
    (tSeq (tAsg (tOp (rIxL K) (tFld K (tVar 2) "frames") (tUn (rU fun i => .int (-i)) (tC (.int 1)))) (gName 3))
    (tSeq (tAsg (tFld K (tMeth (He.ga K "Frame") "deed" (sp_Frame_deed K) [] E0 (tVar 3) tNil) "told") (gName 4))
    (tSeq (tIfS (tTest (tOp rEq (tOp (rIxT K) (tVar 4) (tC (.int 0))) (tC (.str "call"))))
      (tDrop (tMeth (He.ga K "Machine") "_call" (sp_Machine__call K) [] E0 (tVar 0) (tCons (tVar 2) (tCons (tVar 3) (tCons (tVar 4) tNil)))))
      (tIfS (tTest (tOp rEq (tOp (rIxT K) (tVar 4) (tC (.int 0))) (tC (.str "return"))))
        (tDrop (tMeth (He.ga K "Hand") "end_fun" (sp_Hand_end_fun K) [] E0 (tVar 2) (tCons (tCall (sp_reckoned K) [] E0 (tCons (tOp (rIxT K) (tVar 4) (tC (.int 1))) (tCons (tFld K (tVar 3) "names") (tCons (tFld K (tVar 0) "held") tNil)))) tNil)))
        (tIfS (tTest (tOp (rIn K false) (tOp (rIxT K) (tVar 4) (tC (.int 0))) (tTup (tCons (tC (.str "if")) (tCons (tC (.str "again")) tNil)))))
          (tDrop (tMeth (He.ga K "Machine") "_choose" (sp_Machine__choose K) [] E0 (tVar 0) (tCons (tVar 3) tNil)))
          (tDrop (tMeth (He.ga K "Machine") "_note" (sp_Machine__note K) [] E0 (tVar 0) (tCons (tVar 1) (tCons (tVar 3) (tCons (tVar 4) tNil))))))))
    (tSeq (tDrop (tMeth (He.ga K "Hand") "settle" (sp_Hand_settle K) [] E0 (tVar 2) tNil))
    (sFld K (tVar 0) (tOp (rI (fun _ j => 0 < j) fun i j => .int (i % j)) (tOp (rI0 fun i j => .int (i + j)) (tVar 1) (tC (.int 1))) (tCB (Evl.rLenS K) (tCons (tFld K (tVar 0) "hands") tNil))) "up")))))))
end S
set_option Elab.async false
set_option linter.all false
set_option maxRecDepth 100000
set_option maxHeartbeats 4000000
namespace S
open PySem PySem.Spec PyProof.Rows L2
section
variable {K : PySem.W.Frag}
theorem regM_self {g : GM} : (g.a, mchO K g) ∈ g.reg K := List.mem_cons_self
theorem regM_ha {g : GM} : (g.ha, HO.lst (g.gs.map fun h => V.ref h.a)) ∈ g.reg K := by simp [GM.reg]
theorem regM_hand {g : GM} {h : GH} (hm : h ∈ g.gs) : (h.a, hndO K h) ∈ g.reg K := by
  unfold GM.reg
  refine List.mem_cons_of_mem _ (List.mem_cons_of_mem _ (List.mem_cons_of_mem _ (List.mem_cons_of_mem _ (List.mem_append_right _ ?_))))
  exact List.mem_flatMap.mpr ⟨h, hm, List.mem_cons_of_mem _ List.mem_cons_self⟩
theorem regM_fl {g : GM} {h : GH} (hm : h ∈ g.gs) : (h.fl, fsL h.fs) ∈ g.reg K := by
  unfold GM.reg
  refine List.mem_cons_of_mem _ (List.mem_cons_of_mem _ (List.mem_cons_of_mem _ (List.mem_cons_of_mem _ (List.mem_append_right _ ?_))))
  exact List.mem_flatMap.mpr ⟨h, hm, List.mem_cons_self⟩
theorem stk_get {g : GM} {k : Nat} {h : GH} (e : g.gs[k]? = some h) : g.m.stk k = h.m := by
  unfold Mch.stk GM.m
  rw [List.getD_eq_getElem?_getD, List.getElem?_map, e]
  rfl
theorem rd_Machine_next_hand (T : Fx K) (vs : List V) (H : Hp) (Q : VK) (E : XK) (h : sp_Machine_next_hand K vs H Q E) : t_Machine_next_hand K { nx := fun _ H' => Q .non H', rt := Q } (start n_Machine_next_hand vs) H := by
  obtain ⟨F, G, da, e, g, rfl, A, hz, q⟩ := h
  have s := A.sat
  have ho := s.get regM_self
  have hha := s.get regM_ha
  have v0 : ∀ x y z : Option V, Val (tVar 0) [some (.ref g.a), x, y, z] H (.ref g.a) := fun x y z => val_var rfl
  have vh : ∀ x y z : Option V, Val (tFld K (tVar 0) "hands") [some (.ref g.a), x, y, z] H (.ref g.ha) := fun x y z => val_fld (v0 x y z) ho T.cls_Machine T.na_Machine_hands rfl
  have vl := val_len (K := K) (vh none none none) (SqL.of hha)
  rw [List.length_map] at vl
  refine sq_set vl ?_
  refine ⟨_, rfl, (g.gs.length : Int), rfl, by omega, by omega, ?_⟩
  rw [Int.toNat_natCast]
  have hm : g.m.hands.length = g.gs.length := List.length_map ..
  refine for_range (fun i σ H' => H' = H ∧ ∃ v2 v3 : Option V, σ = [some (.ref g.a), some (.int (g.gs.length : Nat)), v2, v3] ∧ g.m.next = g.m.seek (g.gs.length - i) i) ⟨rfl, none, none, rfl, by rw [Nat.sub_zero, ← hm]; rfl⟩ ?_ ?_
  · rintro i σ H' hi ⟨rfl, v2, v3, rfl, hs⟩
    have hk : (g.up + i) % g.gs.length < g.gs.length := Nat.mod_lt _ (by omega)
    obtain ⟨h, hh⟩ : ∃ h, g.gs[(g.up + i) % g.gs.length]? = some h := ⟨g.gs[(g.up + i) % g.gs.length], by simp [hk]⟩
    have hmem := List.mem_of_getElem? hh
    have est := stk_get hh
    have e1 : g.gs.length - i = (g.gs.length - (i + 1)) + 1 := by omega
    rw [e1] at hs
    unfold Mch.seek at hs
    rw [show g.m.up = g.up from rfl, hm, est] at hs
    have ek : ((g.up : Int) + (0 + (i : Int))) % (g.gs.length : Int) = (((g.up + i) % g.gs.length : Nat) : Int) := by
      rw [Int.zero_add, Int.natCast_emod, Int.natCast_add]
    have vk : Val (tOp (rI (fun _ j => 0 < j) fun i j => .int (i % j)) (tOp (rI0 fun i j => .int (i + j)) (tFld K (tVar 0) "up") (tVar 2)) (tVar 1)) [some (.ref g.a), some (.int (g.gs.length : Nat)), some (.int (0 + (i : Int))), v3] H' (.int (((g.up + i) % g.gs.length : Nat) : Int)) := by
      refine val_op (val_op (val_fld (v0 _ _ _) ho T.cls_Machine T.na_Machine_up rfl) (val_var rfl) (z := .int ((g.up : Int) + (0 + (i : Int)))) (fun Q q => ⟨_, _, rfl, rfl, q⟩)) (val_var rfl) (fun Q q => ⟨_, _, rfl, rfl, by omega, ?_⟩)
      show Q (V.int _) _
      rw [ek]
      exact q
    dsimp only [gName, List.set]
    refine sq_set vk ?_
    have vhh : Val (tOp (rIxL K) (tFld K (tVar 0) "hands") (tVar 3)) [some (.ref g.a), some (.int (g.gs.length : Nat)), some (.int (0 + (i : Int))), some (.int (((g.up + i) % g.gs.length : Nat) : Int))] H' (.ref h.a) := by
      intro Q q
      refine vh _ _ _ _ ?_
      refine ⟨_, rfl, g.ha, _, _, _, rfl, rfl, SqL.of hha, atI_nat (j := (g.up + i) % g.gs.length) ?_, q⟩
      rw [List.getElem?_map, hh]
      rfl
    have vf := val_fld vhh (s.get (regM_hand hmem)) T.cls_Hand T.na_Hand_frames rfl
    cases ef : h.fs with
    | nil =>
      have eb : h.m.isEmpty = true := by
        unfold GH.m
        rw [ef]
        rfl
      rw [eb] at hs
      refine st_no (ans_lst vf (SqL.of (s.get (regM_fl hmem))) (by rw [ef]; rfl)) ?_
      exact ⟨rfl, _, _, rfl, hs⟩
    | cons f fs =>
      have eb : h.m.isEmpty = false := by
        unfold GH.m
        rw [ef]
        rfl
      rw [eb] at hs
      refine st_yes (ans_lst vf (SqL.of (s.get (regM_fl hmem))) (by rw [ef]; simp)) ?_
      refine st_ret (val_var rfl) ?_
      rw [hs] at q
      exact q
  · rintro σ H' ⟨rfl, v2, v3, rfl, hs⟩
    rw [Nat.sub_self] at hs
    rw [hs] at q
    exact q
theorem rd_Machine_all_ended (T : Fx K) (vs : List V) (H : Hp) (Q : VK) (E : XK) (h : sp_Machine_all_ended K vs H Q E) : t_Machine_all_ended K { nx := fun _ H' => Q .non H', rt := Q } (start n_Machine_all_ended vs) H := by
  obtain ⟨F, G, da, e, g, rfl, A, hz, q⟩ := h
  refine ⟨_, rfl, g.a, g.dx, _, rfl, A.sat.get regM_self, rfl, F, G, da, e, g, rfl, A, hz, ?_⟩
  refine ⟨rfl, ?_⟩
  cases en : g.m.next with
  | none =>
    rw [en] at q
    exact q
  | some k =>
    rw [en] at q
    exact q
theorem rd_Machine_next_frame (T : Fx K) (vs : List V) (H : Hp) (Q : VK) (E : XK) (h : sp_Machine_next_frame K vs H Q E) : t_Machine_next_frame K { nx := fun _ H' => Q .non H', rt := Q } (start n_Machine_next_frame vs) H := by
  obtain ⟨F, G, da, e, g, k, h, f, fs, rfl, A, hz, en, hh, ef, q⟩ := h
  have s := A.sat
  have hmem := List.mem_of_getElem? hh
  have vhh : Val (tOp (rIxL K) (tFld K (tVar 0) "hands") (tMeth (He.ga K "Machine") "next_hand" (sp_Machine_next_hand K) [] E0 (tVar 0) tNil)) [some (.ref g.a)] H (.ref h.a) := by
    intro Q q
    refine val_fld (val_var rfl) (s.get regM_self) T.cls_Machine T.na_Machine_hands rfl _ ?_
    refine ⟨_, rfl, g.a, g.dx, _, rfl, A.sat.get regM_self, rfl, F, G, da, e, g, rfl, A, hz, ?_⟩
    rw [en]
    refine ⟨g.ha, _, _, _, rfl, rfl, SqL.of (s.get regM_ha), atI_nat (j := k) ?_, q⟩
    rw [List.getElem?_map, hh]
    rfl
  have hfl := s.get (regM_fl hmem)
  rw [ef] at hfl
  refine st_ret (val_topF T (g := h) (fs := fs) vhh ?_ ?_) q
  · exact s.get (regM_hand hmem)
  · exact hfl
theorem rd_Machine__begun (T : Fx K) (vs : List V) (H : Hp) (Q : VK) (E : XK) (h : sp_Machine__begun K vs H Q E) : t_Machine__begun K { nx := fun _ H' => Q .non H', rt := Q } (start n_Machine__begun vs) H := by
  obtain ⟨F, G, da, e, ma, na, lo, hl, sf, fn, vals, rfl, sG, A, ok, S, s, hfn, hv, _, q⟩ := h
  obtain ⟨dx, ho⟩ := S.o
  obtain ⟨lx, dl, bl, ls, hlo, hdl, hbl, hls, hbods⟩ := A.lo
  have v0 : ∀ (H : Hp) (x : Option V), Val (tVar 0) [some (.ref ma), some (.int (fn : Nat)), some (.ref hl), x] H (.ref ma) := fun H x => val_var rfl
  have vnm : ∀ H, Same F H → Val (tOp (rIxL K) (tFld K (tVar 0) "names_of") (tVar 1)) [some (.ref ma), some (.int (fn : Nat)), some (.ref hl), none] H (.int (e.many fn : Nat)) := by
    intro H hF Q q
    refine val_fld (v0 H none) (hF _ _ ho) T.cls_Machine T.na_Machine_names_of S.na _ ?_
    refine ⟨_, rfl, na, _, _, _, rfl, rfl, (sG.trans hF).seq A.na, atI_nat (j := fn) ?_, q⟩
    rw [List.getElem?_map, List.getElem?_eq_getElem hfn]
    unfold Env.many
    rw [List.getD_eq_getElem?_getD, List.getElem?_eq_getElem hfn]
    rfl
  have hbig : e.many fn ≤ 1000 := by
    unfold Env.many
    rw [List.getD_eq_getElem?_getD, List.getElem?_eq_getElem hfn]
    exact ok.nms _ (List.getElem_mem hfn)
  refine ⟨_, rfl, ?_⟩
  refine ⟨(by show 1 ≤ sizeLine; decide), fun z hz => ?_⟩
  have s1 := s.new (o := .lst [.int 0]) hz
  refine vnm _ s1.fr _ ?_
  have vl := val_len (K := K) (σ := [some (.ref ma), some (.int (fn : Nat)), some (.ref hl), none]) (ta := tVar 2) (val_var rfl) (SqL.of (s1.get (List.mem_cons_of_mem _ List.mem_cons_self)))
  rw [List.length_map] at vl
  refine vl _ ?_
  refine ⟨_, _, rfl, rfl, ?_⟩
  have ek : ((e.many fn : Nat) : Int) - (vals.length : Nat) = ((e.many fn - vals.length : Nat) : Int) := by omega
  refine ⟨z, ((e.many fn - vals.length : Nat) : Int), [.int 0], rfl, congrArg V.int ek, upd_same, by omega, by omega, ?_, fun r hr => ?_⟩
  · rw [Int.toNat_natCast]
    exact Nat.le_trans (by simp; omega : _ ≤ 1000) (by decide)
  rw [Int.toNat_natCast]
  have erep : (List.replicate (e.many fn - vals.length) [V.int 0]).flatten = List.replicate (e.many fn - vals.length) (V.int 0) := by
    generalize e.many fn - vals.length = n
    induction n with
    | zero => rfl
    | succ n ih => rw [List.replicate_succ, List.flatten_cons, ih]; rfl
  rw [erep]
  have s2 := s1.new (o := .lst (List.replicate (e.many fn - vals.length) (V.int 0))) hr
  refine ⟨hl, r, _, _, rfl, rfl, s2.get (List.mem_cons_of_mem _ (List.mem_cons_of_mem _ List.mem_cons_self)), s2.get List.mem_cons_self, ?_, fun nm hnm => ?_⟩
  · rw [List.length_map, List.length_replicate]
    exact Nat.le_trans (by omega : _ ≤ 1000) (by decide)
  have s3 := s2.new (o := .lst (vals.map V.int ++ List.replicate (e.many fn - vals.length) (V.int 0))) hnm
  have enm : vals.map V.int ++ List.replicate (e.many fn - vals.length) (V.int 0) = (vals ++ List.replicate (e.many fn - vals.length) 0).map V.int := by simp
  rw [enm] at s3 ⊢
  have s4 : Sat F [(nm, .lst ((vals ++ List.replicate (e.many fn - vals.length) 0).map V.int))] (upd (upd (upd H z (.lst [.int 0])) r (.lst (List.replicate (e.many fn - vals.length) (V.int 0)))) nm (.lst ((vals ++ List.replicate (e.many fn - vals.length) 0).map V.int))) :=
    ⟨s3.fr, fun x hx => s3.at_ x (List.mem_cons.mpr (.inl (by simpa using hx))), fun x hx => s3.off x (List.mem_cons.mpr (.inl (by simpa using hx))), by simp⟩
  generalize upd (upd (upd H z _) r _) nm _ = H2 at s4 ⊢
  dsimp only
  refine st_retI ?_
  have v0' : Val (tVar 0) [some (.ref ma), some (.int (fn : Nat)), some (.ref hl), some (.ref nm)] H2 (.ref ma) := v0 _ _
  refine ⟨_, rfl, _, rfl, ?_⟩
  have hbn : fn < e.bods.length := by rw [ok.len]; exact hfn
  obtain ⟨pl, hpl⟩ : ∃ pl, e.bods[fn]? = some pl := ⟨e.bods[fn], by simp [hbn]⟩
  obtain ⟨l, hll⟩ : ∃ l, ls[fn]? = some l := ⟨ls[fn]'(by rw [hls]; exact hbn), by simp [hls, hbn]⟩
  have vb := val_fld (val_fld v0' (s4.fr _ _ ho) T.cls_Machine T.na_Machine_layout S.lo) (s4.fr _ _ (sG _ _ hlo)) T.cls_Layout T.na_Layout_bodies rfl
  refine vb _ ?_
  refine ⟨_, rfl, bl, _, _, _, rfl, rfl, (sG.trans s4.fr).seq hbl, atI_nat (j := fn) (by rw [List.getElem?_map, hll]; rfl), ?_⟩
  intro x xd hx hxd ne
  have s5 := s4.make (x := x) (dx := xd) (o := .ins (He.ga K "Frame") xd []) (u := .own x) hx hxd ne
  refine ⟨F, G, da, x, xd, nm, l, fn, _, pl, rfl, s5, hbods fn l pl hll hpl, fun f H' ea em wf s6 => ⟨rfl, ?_⟩⟩
  rw [← ea]
  refine q f H' ?_ wf s6
  rw [em]
  unfold Env.begun
  rw [List.getD_eq_getElem?_getD, hpl]
  rfl
theorem call_args {σ : L2.St} {H : Hp} {Q : VK} {E : XK} {sp : Sp} {ta : TA} {dvs : List V} (h : ta σ H fun vs H1 => sp (vs ++ dvs) H1 Q E) : tCall sp dvs E ta σ H Q := h
theorem args_cons {σ : L2.St} {H : Hp} {Q : List V → Hp → Prop} {te : TE} {ts : TA} (h : te σ H fun x H1 => ts σ H1 fun xs H2 => Q (x :: xs) H2) : tCons te ts σ H Q := h
theorem args_nil {σ : L2.St} {H : Hp} {Q : List V → Hp → Prop} (h : Q [] H) : tNil σ H Q := h
theorem val_ixT {σ : L2.St} {H : Hp} {ta tb : TE} {a : Addr} {xs : List V} {i : Int} {v : V} (ha : Val ta σ H (.ref a)) (hb : Val tb σ H (.int i)) (h : SqT K H a xs) (e : atI xs i = some v) : Val (tOp (rIxT K) ta tb) σ H v :=
  val_op ha hb fun _ q => ⟨a, xs, i, v, rfl, rfl, h, e, q⟩
theorem val_ixL {σ : L2.St} {H : Hp} {ta tb : TE} {a : Addr} {xs : List V} {i : Int} {v : V} (ha : Val ta σ H (.ref a)) (hb : Val tb σ H (.int i)) (h : SqL K H a xs) (e : atI xs i = some v) : Val (tOp (rIxL K) ta tb) σ H v :=
  val_op ha hb fun _ q => ⟨a, xs, i, v, rfl, rfl, h, e, q⟩
theorem moveOn_len : ∀ f : Frm, f.moveOn.bs.length = f.bs.length
  | ⟨_, _, []⟩ => rfl
  | ⟨_, _, _ :: _⟩ => rfl
theorem run_reck {H : Hp} {Q : VK} {E : XK} {e : Env} {fn : Nat} {a n c : Addr} {p : Part} {ns cs : List Int} (hp : PartAt K H a p) (he : e.part fn p) (h1 : ns.length = e.many fn) (h2 : cs.length = e.nc) (hn : Held ns) (hc : Held cs)
    (ln : SqL K H n (ns.map V.int)) (lc : SqL K H c (cs.map V.int)) (q : ∀ H', Same H H' → Q (.int (p.val ns cs)) H') : sp_reckoned K [.ref a, .ref n, .ref c] H Q E :=
  ⟨H, a, n, c, p, ns, cs, rfl, Same.refl _, hp, he.2, by rw [h1, h2]; exact he.1, hn, hc, ln, lc, q⟩
theorem rd_Machine__choose (T : Fx K) (vs : List V) (H : Hp) (Q : VK) (E : XK) (h : sp_Machine__choose K vs H Q E) : t_Machine__choose K { nx := fun _ H' => Q .non H', rt := Q } (start n_Machine__choose vs) H := by
  obtain ⟨F, G, da, e, ma, na, lo, he, sf, held, f, p, i, rfl, sG, A, ok, S, hhe, hheld, hH, hnc, s, wf, fok, hd, hfn, htold, hbig, q⟩ := h
  obtain ⟨mx, ho⟩ := S.o
  have sGH : Same G H := sG.trans s.fr
  obtain ⟨b, bs, eb, hb, hdl, hp, ht⟩ := deed_at (F := F) sGH wf (fun e he => s.at_ e he) hd
  obtain ⟨dx, ta, ba, hda, hta, ls, hls, hlen, hpl⟩ := A.tbl p i ht
  obtain ⟨_, hti⟩ := ok.told p i ht
  have hfa : H f.a = some (frmO K f) := s.get (List.mem_cons_of_mem _ List.mem_cons_self)
  have hfl : H f.bl = some (bsL f.bs) := s.get List.mem_cons_self
  have hfm : H f.nm = some (.lst (f.names.map V.int)) := s.get (by simp [GF.reg])
  have vd : Val (tMeth (He.ga K "Frame") "deed" (sp_Frame_deed K) [] E0 (tVar 1) tNil) [some (.ref ma), some (.ref f.a), none, none] H (.ref (da p)) := by
    intro Q q
    refine ⟨_, rfl, f.a, f.dx, _, rfl, hfa, rfl, da, f, b, bs, p, rfl, hfa, hfl, eb, hb, hdl, hp, q⟩
  refine sq_set vd ?_
  have v1 : ∀ (H : Hp) (x : Option V), Val (tVar 1) [some (.ref ma), some (.ref f.a), some (.ref (da p)), x] H (.ref f.a) := fun H x => val_var rfl
  have v2 : ∀ (H : Hp) (x : Option V), Val (tVar 2) [some (.ref ma), some (.ref f.a), some (.ref (da p)), x] H (.ref (da p)) := fun H x => val_var rfl
  have vt : ∀ (H : Hp) (x : Option V), Same G H → Val (tFld K (tVar 2) "told") [some (.ref ma), some (.ref f.a), some (.ref (da p)), x] H (.ref ta) := fun H x e => val_fld (v2 H x) (e _ _ hda) T.cls_Deed T.na_Deed_told rfl
  have core : ∃ (w : Str) (pa : Addr) (xs : List V) (pt : Part), SqT K G ta (.str w :: .ref pa :: xs) ∧ PartAt K G pa pt ∧ e.part i.fn pt ∧
      ((w = "again" ∧ (∃ pl, i.bodies = [pl]) ∧ chooseM held i f.m = f.m.moveOn.enter (i.bodies.getD 0 []) (pt.val f.names held % 10).toNat) ∨
       (w = "if" ∧ (∃ x y, i.bodies = [x, y]) ∧ chooseM held i f.m = f.m.moveOn.enter (i.bodies.getD (if pt.val f.names held ≠ 0 then 0 else 1) []) 1)) := by
    rcases htold with ⟨pt, z⟩ | ⟨pt, z⟩
    · unfold Env.told at hti
      rw [z] at hta hti
      obtain ⟨pa, x, y, h1, h2⟩ := hta
      obtain ⟨h3, a1, b1, h4, _⟩ := hti
      refine ⟨_, pa, _, pt, h1, h2, h3, .inr ⟨rfl, ⟨a1, b1, h4⟩, ?_⟩⟩
      unfold chooseM
      rw [z]
      rfl
    · unfold Env.told at hti
      rw [z] at hta hti
      obtain ⟨pa, x, h1, h2⟩ := hta
      obtain ⟨h3, a1, h4, _⟩ := hti
      refine ⟨_, pa, _, pt, h1, h2, h3, .inl ⟨rfl, ⟨a1, h4⟩, ?_⟩⟩
      unfold chooseM
      rw [z]
      rfl
  obtain ⟨w, pa, xs, pt, hw, hpa, hpt, hch⟩ := core
  rw [hfn] at hpt
  have vpa : Val (tOp (rIxT K) (tFld K (tVar 2) "told") (tC (.int 1))) [some (.ref ma), some (.ref f.a), some (.ref (da p)), none] H (.ref pa) := val_ixT (vt H none sGH) val_c (same_seqT sGH hw) (atI_nat (j := 1) rfl)
  have vnm := val_fld (v1 H none) hfa T.cls_Frame T.na_Frame_names rfl
  have vhe := val_fld (f := "held") (σ := [some (.ref ma), some (.ref f.a), some (.ref (da p)), none]) (ta := tVar 0) (val_var rfl) (s.fr _ _ ho) T.cls_Machine T.na_Machine_held hhe
  refine st_seq (st_asgI (call_args (args_cons (vpa _ (args_cons (vnm _ (args_cons (vhe _ (args_nil ?_)))))))))
  refine run_reck (e := e) (fn := f.fn) (hpa.mono sGH) hpt fok.len hnc fok.held hH (SqL.of hfm) (s.fr.seq hheld) fun H2 e2 => ?_
  have s2 := s.grow e2
  have hv := val_held fok.held hH (p := pt) (by rw [show f.m.names = f.names from rfl] at *; rw [show f.names.length = e.many f.fn from fok.len, hnc]; exact hpt.1)
  dsimp only [gName, List.set]
  refine st_seq (st_dropI ?_)
  refine ⟨_, rfl, f.a, f.dx, _, rfl, e2 _ _ hfa, rfl, F, G, da, f, rfl, s2, wf, by rw [eb]; simp, fun f2 H3 ea em wf2 s3 => ?_⟩
  have hbl2 : f2.bs.length = f.bs.length := by
    have h1 : f2.m.bs.length = f.m.moveOn.bs.length := by rw [em]
    have h2 : f2.m.bs.length = f2.bs.length := List.length_map ..
    have h3 : f.m.bs.length = f.bs.length := List.length_map ..
    have h4 := moveOn_len f.m
    omega
  have sGH3 : Same G H3 := sG.trans s3.fr
  have vw : Val (tOp (rIxT K) (tFld K (tVar 2) "told") (tC (.int 0))) [some (.ref ma), some (.ref f.a), some (.ref (da p)), some (.int (pt.val f.names held))] H3 (.str w) := by
    intro Q q
    refine vt H3 _ sGH3 _ ?_
    exact ⟨ta, _, 0, _, rfl, rfl, same_seqT sGH3 hw, atI_nat (j := 0) rfl, q⟩
  have vb := val_fld (v2 H3 (some (.int (pt.val f.names held)))) (sGH3 _ _ hda) T.cls_Deed T.na_Deed_bodies rfl
  have hf2a : H3 f.a = some (frmO K f2) := by
    rw [← ea]
    exact s3.get (List.mem_cons_of_mem _ List.mem_cons_self)
  have body : ∀ (j : Nat) (pl : List Nat), i.bodies[j]? = some pl → ∃ l : Addr, ls[j]? = some l ∧ DL K G da l pl := by
    intro j pl hj
    have lt := (List.getElem?_eq_some_iff.mp hj).1
    have hl : ls[j]? = some (ls[j]'(by rw [hlen]; exact lt)) := by simp [hlen, lt]
    exact ⟨_, hl, hpl j _ pl hl hj⟩
  rcases hch with ⟨rfl, ⟨pl, hpl1⟩, ech⟩ | ⟨rfl, ⟨x, y, hpl2⟩, ech⟩
  · refine st_yes (fun Q q => tsEq vw val_c (b := true) (by decide +kernel) q) ?_
    obtain ⟨l, hl, hDL⟩ := body 0 pl (by rw [hpl1]; rfl)
    refine st_dropI ?_
    refine ⟨_, rfl, f.a, f2.dx, _, rfl, hf2a, rfl, ?_⟩
    have vl := val_ixL (K := K) vb (val_c (v := .int 0)) (sGH3.seq hls) (atI_nat (j := 0) (by rw [List.getElem?_map, hl]; rfl))
    have vr : Val (tOp (rI (fun _ j => 0 < j) fun i j => .int (i % j)) (tVar 3) (tC (.int 10))) [some (.ref ma), some (.ref f.a), some (.ref (da p)), some (.int (pt.val f.names held))] H3 (.int (pt.val f.names held % 10)) :=
      val_op (val_var rfl) val_c fun Q q => ⟨_, _, rfl, rfl, (by decide : (0 : Int) < 10), q⟩
    refine args_cons (vl _ (args_cons (vr _ (args_nil ?_))))
    have er : pt.val f.names held % 10 = (((pt.val f.names held % 10).toNat : Nat) : Int) := by
      have := Int.emod_nonneg (pt.val f.names held) (by decide : (10 : Int) ≠ 0)
      omega
    refine ⟨F, G, da, f2, l, (pt.val f.names held % 10).toNat, pl, ?_, s3, wf2, hDL, by omega, fun f3 H4 ea3 em3 wf3 s4 => ?_⟩
    · show [V.ref f.a, V.ref l, V.int (pt.val f.names held % 10)] = _
      rw [← er, ea]
    · refine q f3 H4 (ea3.trans ea) ?_ wf3 s4
      rw [em3, em, ech, hpl1]
      rfl
  · refine st_no (fun Q q => tsEq vw val_c (b := false) (by decide +kernel) q) ?_
    refine st_dropI ?_
    refine ⟨_, rfl, f.a, f2.dx, _, rfl, hf2a, rfl, ?_⟩
    have an : Ans (tTest (tOp rNe (tVar 3) (tC (.int 0)))) [some (.ref ma), some (.ref f.a), some (.ref (da p)), some (.int (pt.val f.names held))] H3 (!decide (pt.val f.names held = 0)) :=
      ans_ne (val_var rfl) val_c rfl (by rw [decInt])
    by_cases hz : pt.val f.names held = 0
    · have vi : Val (tIf (tTest (tOp rNe (tVar 3) (tC (.int 0)))) (tC (.int 0)) (tC (.int 1))) [some (.ref ma), some (.ref f.a), some (.ref (da p)), some (.int (pt.val f.names held))] H3 (.int 1) := by
        intro Q q
        refine an _ ?_
        rw [decide_eq_true hz]
        exact iteF q
      obtain ⟨l, hl, hDL⟩ := body 1 y (by rw [hpl2]; rfl)
      have vl := val_ixL (K := K) vb vi (sGH3.seq hls) (atI_nat (j := 1) (by rw [List.getElem?_map, hl]; rfl))
      refine args_cons (vl _ (args_cons (val_c _ (args_nil ?_))))
      refine ⟨F, G, da, f2, l, 1, y, by rw [ea]; rfl, s3, wf2, hDL, by omega, fun f3 H4 ea3 em3 wf3 s4 => ?_⟩
      refine q f3 H4 (ea3.trans ea) ?_ wf3 s4
      rw [em3, em, ech, hpl2, if_neg (by simpa using hz)]
      rfl
    · have vi : Val (tIf (tTest (tOp rNe (tVar 3) (tC (.int 0)))) (tC (.int 0)) (tC (.int 1))) [some (.ref ma), some (.ref f.a), some (.ref (da p)), some (.int (pt.val f.names held))] H3 (.int 0) := by
        intro Q q
        refine an _ ?_
        rw [decide_eq_false hz]
        exact iteT q
      obtain ⟨l, hl, hDL⟩ := body 0 x (by rw [hpl2]; rfl)
      have vl := val_ixL (K := K) vb vi (sGH3.seq hls) (atI_nat (j := 0) (by rw [List.getElem?_map, hl]; rfl))
      refine args_cons (vl _ (args_cons (val_c _ (args_nil ?_))))
      refine ⟨F, G, da, f2, l, 1, x, by rw [ea]; rfl, s3, wf2, hDL, by omega, fun f3 H4 ea3 em3 wf3 s4 => ?_⟩
      refine q f3 H4 (ea3.trans ea) ?_ wf3 s4
      rw [em3, em, ech, hpl2, if_pos hz]
      rfl
theorem saidR_snoc : ∀ {ts : List Addr} {said : List (Nat × Int)} (t : Addr) (p : Nat × Int), ts.length = said.length → saidR (ts ++ [t]) (said ++ [p]) = saidR ts said ++ [(t, saidO p)]
  | [], [], t, p, _ => rfl
  | [], _ :: _, t, p, h => by simp at h
  | _ :: _, [], t, p, h => by simp at h
  | a :: ts, b :: said, t, p, h => by
    have ih := saidR_snoc (ts := ts) (said := said) t p (by simpa using h)
    show (a, saidO b) :: saidR (ts ++ [t]) (said ++ [p]) = (a, saidO b) :: (saidR ts said ++ [(t, saidO p)])
    rw [ih]
theorem regF_nm {g : GF} : (g.reg K).Perm ((g.nm, .lst (g.names.map V.int)) :: (g.bl, bsL g.bs) :: (g.a, frmO K g) :: bsR K g.bs) := by
  unfold GF.reg
  exact (List.Perm.cons _ (List.Perm.swap _ _ _)).trans (List.Perm.swap _ _ _)
theorem rd_Machine__note (T : Fx K) (vs : List V) (H : Hp) (Q : VK) (E : XK) (h : sp_Machine__note K vs H Q E) : t_Machine__note K { nx := fun _ H' => Q .non H', rt := Q } (start n_Machine__note vs) H := by
  obtain ⟨F, G, da, e, ma, na, lo, he, sp, ta, sf, held, said, ts, k, f, t, rfl, sG, ok, S, hhe, hsp, hH, hnc, s, hts, wf, hne, fok, hta, htold, hcase, hsz, q⟩ := h
  obtain ⟨mx, ho⟩ := S.o
  have sGH : Same G H := sG.trans s.fr
  have memF : ∀ x, x ∈ f.reg K → x ∈ ((he, HO.lst (held.map V.int)) :: (sp, HO.lst (ts.map V.ref)) :: (saidR ts said ++ f.reg K)) := fun x hx => List.mem_cons_of_mem _ (List.mem_cons_of_mem _ (List.mem_append_right _ hx))
  have hfa : H f.a = some (frmO K f) := s.at_ _ (memF _ (List.mem_cons_of_mem _ List.mem_cons_self))
  have hfm : H f.nm = some (.lst (f.names.map V.int)) := s.at_ (f.nm, _) (memF _ (by simp [GF.reg]))
  have hhl : H he = some (.lst (held.map V.int)) := s.get List.mem_cons_self
  have core : ∃ (w : Str) (pa : Addr) (xs : List V) (pt : Part), SqT K G ta (.str w :: xs) ∧ atI (.str w :: xs) (-1) = some (.ref pa) ∧ PartAt K G pa pt ∧ e.part f.fn pt ∧
      ((∃ n, w = "set" ∧ n < e.many f.fn ∧ atI (.str w :: xs) 1 = some (.int (n : Nat)) ∧ noteM k t ⟨f.m, held, said⟩ = ⟨Frm.moveOn { f.m with names := f.names.set n (pt.val f.names held) }, held, said⟩) ∨
       (∃ n, w = "put" ∧ n < e.nc ∧ atI (.str w :: xs) 1 = some (.int (n : Nat)) ∧ noteM k t ⟨f.m, held, said⟩ = ⟨f.m.moveOn, held.set n (pt.val f.names held), said⟩) ∨
       (w = "say" ∧ noteM k t ⟨f.m, held, said⟩ = ⟨f.m.moveOn, held, said ++ [(k, pt.val f.names held)]⟩)) := by
    rcases hcase with ⟨n, pt, z⟩ | ⟨n, pt, z⟩ | ⟨pt, z⟩
    · rw [z] at hta htold
      obtain ⟨pa, h1, h2⟩ := hta
      exact ⟨_, pa, _, pt, h1, rfl, h2, htold.2, .inl ⟨n, rfl, htold.1, rfl, by rw [z]; rfl⟩⟩
    · rw [z] at hta htold
      obtain ⟨pa, h1, h2⟩ := hta
      exact ⟨_, pa, _, pt, h1, rfl, h2, htold.2, .inr (.inl ⟨n, rfl, htold.1, rfl, by rw [z]; rfl⟩)⟩
    · rw [z] at hta htold
      obtain ⟨pa, h1, h2⟩ := hta
      exact ⟨_, pa, _, pt, h1, rfl, h2, htold, .inr (.inr ⟨rfl, by rw [z]; rfl⟩)⟩
  obtain ⟨w, pa, xs, pt, hw, hlast, hpa, hpt, hch⟩ := core
  have v0 : ∀ (H : Hp) (x : Option V), Val (tVar 0) [some (.ref ma), some (.int (k : Nat)), some (.ref f.a), some (.ref ta), x] H (.ref ma) := fun H x => val_var rfl
  have v2 : ∀ (H : Hp) (x : Option V), Val (tVar 2) [some (.ref ma), some (.int (k : Nat)), some (.ref f.a), some (.ref ta), x] H (.ref f.a) := fun H x => val_var rfl
  have v3 : ∀ (H : Hp) (x : Option V), Val (tVar 3) [some (.ref ma), some (.int (k : Nat)), some (.ref f.a), some (.ref ta), x] H (.ref ta) := fun H x => val_var rfl
  have vneg : Val (tUn (rU fun i => .int (-i)) (tC (.int 1))) [some (.ref ma), some (.int (k : Nat)), some (.ref f.a), some (.ref ta), none] H (.int (-1)) := fun Q q => ⟨1, rfl, q⟩
  have vpa := val_ixT (v3 H none) vneg (same_seqT sGH hw) hlast
  have vnm := val_fld (v2 H none) hfa T.cls_Frame T.na_Frame_names rfl
  have vhe := val_fld (v0 H none) (s.fr _ _ ho) T.cls_Machine T.na_Machine_held hhe
  refine st_seq (st_asgI (call_args (args_cons (vpa _ (args_cons (vnm _ (args_cons (vhe _ (args_nil ?_)))))))))
  refine run_reck (e := e) (fn := f.fn) (hpa.mono sGH) hpt fok.len hnc fok.held hH (SqL.of hfm) (SqL.of hhl) fun H2 e2 => ?_
  have s2 := s.grow e2
  have sGH2 : Same G H2 := sGH.trans e2
  have hfa2 := e2 _ _ hfa
  generalize hval : pt.val f.m.names held = num at *
  have hval2 : pt.val f.names held = num := hval
  rw [hval2] at hch
  have vw : Val (tOp (rIxT K) (tVar 3) (tC (.int 0))) [some (.ref ma), some (.int (k : Nat)), some (.ref f.a), some (.ref ta), some (.int num)] H2 (.str w) := val_ixT (v3 H2 _) val_c (same_seqT sGH2 hw) (atI_nat (j := 0) rfl)
  dsimp only [gName, List.set]
  have fin : ∀ (f1 : GF) (held1 : List Int) (said1 : List (Nat × Int)) (ts1 : List Addr) (H3 : Hp), f1.a = f.a → f1.Wf K G da → f1.bs ≠ [] → ts1.length = said1.length → Sat F ((he, .lst (held1.map V.int)) :: (sp, .lst (ts1.map V.ref)) :: (saidR ts1 said1 ++ f1.reg K)) H3 →
      noteM k t ⟨f.m, held, said⟩ = ⟨f1.m.moveOn, held1, said1⟩ →
      tDrop (tMeth (He.ga K "Frame") "move_on" (sp_Frame_move_on K) [] E0 (tVar 2) tNil) { nx := fun _ H' => Q .non H', rt := Q } [some (.ref ma), some (.int (k : Nat)), some (.ref f.a), some (.ref ta), some (.int num)] H3 := by
    intro f1 held1 said1 ts1 H3 ea1 wf1 ne1 hts1 s3 en
    have s4 : Sat F (((he, .lst (held1.map V.int)) :: (sp, .lst (ts1.map V.ref)) :: saidR ts1 said1) ++ f1.reg K) H3 := s3
    refine st_dropI ?_
    refine ⟨_, rfl, f1.a, f1.dx, _, by rw [ea1], s4.get (List.mem_append_right _ (List.mem_cons_of_mem _ List.mem_cons_self)), rfl, _, G, da, f1, by rw [← ea1]; rfl, s4.focus, wf1, ne1, fun f2 H4 ea em wf2 s5 => ?_⟩
    have s6 := s4.unfocus s5
    exact q f2 held1 said1 ts1 H4 (ea.trans ea1) (by rw [en, em]) hts1 wf2 s6
  rcases hch with ⟨n, rfl, hn, e1, en⟩ | ⟨n, rfl, hn, e1, en⟩ | ⟨rfl, en⟩
  · refine sq_yes (fun Q q => tsEq vw val_c (b := true) (by decide +kernel) q) ?_
    refine st_asgI ((val_var rfl : Val (tVar 4) _ H2 (.int num)) _ ?_)
    refine val_fld (v2 H2 _) hfa2 T.cls_Frame T.na_Frame_names rfl _ ?_
    refine val_ixT (v3 H2 _) val_c (same_seqT sGH2 hw) e1 _ ?_
    have hfm2 := e2 _ _ hfm
    refine ⟨f.nm, _, n, n, rfl, rfl, hfm2, ixN_nat (by rw [List.length_map, show f.names.length = e.many f.fn from fok.len]; exact hn), ?_⟩
    rw [← List.map_set]
    have s3 := (s2.perm (r1 := (f.nm, .lst (f.names.map V.int)) :: (((f.bl, bsL f.bs) :: (f.a, frmO K f) :: bsR K f.bs) ++ ((he, .lst (held.map V.int)) :: (sp, .lst (ts.map V.ref)) :: saidR ts said))) ?_).put (u := .lst ((f.names.set n num).map V.int))
    · refine fin { f with names := f.names.set n num } held said ts _ rfl wf hne hts (s3.perm ?_) en
      refine (List.perm_append_comm (l₁ := (f.nm, _) :: (f.bl, bsL f.bs) :: (f.a, frmO K f) :: bsR K f.bs)).trans ?_
      refine List.Perm.cons _ (List.Perm.cons _ (List.Perm.append_left _ ?_))
      exact (regF_nm (g := { f with names := f.names.set n num })).symm
    · refine List.Perm.symm ((List.perm_append_comm (l₁ := (f.nm, _) :: (f.bl, bsL f.bs) :: (f.a, frmO K f) :: bsR K f.bs)).trans ?_)
      exact List.Perm.cons _ (List.Perm.cons _ (List.Perm.append_left _ regF_nm.symm))
  · refine sq_noE (fun Q q => tsEq vw val_c (b := false) (by decide +kernel) q) ?_
    refine st_yes (fun Q q => tsEq vw val_c (b := true) (by decide +kernel) q) ?_
    refine st_asgI ((val_var rfl : Val (tVar 4) _ H2 (.int num)) _ ?_)
    refine val_fld (v0 H2 _) (s2.fr _ _ ho) T.cls_Machine T.na_Machine_held hhe _ ?_
    refine val_ixT (v3 H2 _) val_c (same_seqT sGH2 hw) e1 _ ?_
    refine ⟨he, _, n, n, rfl, rfl, s2.get List.mem_cons_self, ixN_nat (by rw [List.length_map, hnc]; exact hn), ?_⟩
    rw [← List.map_set]
    exact fin f (held.set n num) said ts _ rfl wf hne hts s2.put en
  · refine sq_noE (fun Q q => tsEq vw val_c (b := false) (by decide +kernel) q) ?_
    refine st_no (fun Q q => tsEq vw val_c (b := false) (by decide +kernel) q) ?_
    refine st_dropI ?_
    refine val_fld (v0 H2 _) (s2.fr _ _ ho) T.cls_Machine T.na_Machine_spoken hsp _ ?_
    have hsl : H2 sp = some (.lst (ts.map V.ref)) := s2.get (List.mem_cons_of_mem _ List.mem_cons_self)
    refine ⟨.inl ⟨rfl, _, SqL.of hsl⟩, _, rfl, _, rfl, (by show 2 ≤ sizeLine; decide), fun tt htt => ?_⟩
    have s3 := s2.new (o := saidO (k, num)) htt
    have s4 := s3.perm (r1 := (sp, .lst (ts.map V.ref)) :: (he, .lst (held.map V.int)) :: (tt, saidO (k, num)) :: (saidR ts said ++ f.reg K)) (by (refine perm_sum fun f => ?_; simp only [List.map_append, List.map_cons, List.map_nil, List.sum_append, List.sum_cons, List.sum_nil]; omega))
    refine ⟨sp, _, _, rfl, rfl, s4.get List.mem_cons_self, ?_, ?_⟩
    · rw [List.length_map, hts]
      exact Nat.lt_trans hsz (by decide)
    have s5 := s4.put (u := .lst ((ts ++ [tt]).map V.ref))
    have e5 : ts.map V.ref ++ [V.ref tt] = (ts ++ [tt]).map V.ref := by simp
    rw [e5]
    refine fin f held (said ++ [(k, num)]) (ts ++ [tt]) _ rfl wf hne (by simp [hts]) (s5.perm ?_) en
    rw [saidR_snoc tt (k, num) hts]
    (refine perm_sum fun f => ?_; simp only [List.map_append, List.map_cons, List.map_nil, List.sum_append, List.sum_cons, List.sum_nil]; omega)
theorem SelfAt.mono {F F' : Hp} {ma na lo : Addr} {fs : List (Str × V)} (s : SelfAt K F ma na lo fs) (e : Same F F') : SelfAt K F' ma na lo fs := ⟨let ⟨dx, h⟩ := s.o; ⟨dx, e _ _ h⟩, s.na, s.lo⟩
theorem callM_cons {e : Env} {held : List Int} {g : Nat} {ps : List Part} {n : Nat} {f : Frm} {fs : List Frm} : callM e held g ps n (f :: fs) = if 20 ≤ (f :: fs).length then Frm.moveOn { f with names := f.names.set n 0 } :: fs else e.begun g (ps.map (Part.val f.names held)) :: f :: fs := rfl
theorem rd_Machine__call (T : Fx K) (vs : List V) (H : Hp) (Q : VK) (E : XK) (h : sp_Machine__call K vs H Q E) : t_Machine__call K { nx := fun _ H' => Q .non H', rt := Q } (start n_Machine__call vs) H := by
  obtain ⟨F, G, da, e, ma, na, lo, he, ta, sf, held, h, f, fs, g, ps, n, rfl, sG, A, ok, S, hhe, hbg, hheld, hH, hnc, s, wf, ef, hne, fok, hta, htold, hlen, q⟩ := h
  obtain ⟨mx, ho⟩ := S.o
  obtain ⟨pt, xs, hta, hpt, hps⟩ := hta
  obtain ⟨hg, hpl, hn, hparts⟩ := htold
  have sGH : Same G H := sG.trans s.fr
  refine ⟨_, rfl, ta, _, rfl, same_seqT sGH hta, rfl, _, _, rfl, _, _, rfl, _, _, rfl, _, _, rfl, rfl, ?_⟩
  have s1 := s.perm (regH_cons ef)
  have hha : ∀ {H : Hp}, Sat F (((h.fl, fsL (f :: fs)) :: (h.a, hndO K h) :: fs.flatMap (GF.reg K)) ++ f.reg K) H → H h.a = some (hndO K h) := fun s => s.get (by simp)
  have hfl : ∀ {H : Hp}, Sat F (((h.fl, fsL (f :: fs)) :: (h.a, hndO K h) :: fs.flatMap (GF.reg K)) ++ f.reg K) H → H h.fl = some (fsL (f :: fs)) := fun s => s.get (by simp)
  have hfa : ∀ {H : Hp}, Sat F (((h.fl, fsL (f :: fs)) :: (h.a, hndO K h) :: fs.flatMap (GF.reg K)) ++ f.reg K) H → H f.a = some (frmO K f) := fun s => s.at_ _ (List.mem_append_right _ (List.mem_cons_of_mem _ List.mem_cons_self))
  have hfm : ∀ {H : Hp}, Sat F (((h.fl, fsL (f :: fs)) :: (h.a, hndO K h) :: fs.flatMap (GF.reg K)) ++ f.reg K) H → H f.nm = some (.lst (f.names.map V.int)) := fun s => s.at_ (f.nm, _) (List.mem_append_right _ (by simp [GF.reg]))
  have v0 : ∀ (H : Hp) (x y : Option V), Val (tVar 0) [some (.ref ma), some (.ref h.a), some (.ref f.a), some (.ref ta), x, some (.str "call"), some (.int (g : Nat)), some (.ref pt), some (.int (n : Nat)), y] H (.ref ma) := fun H x y => val_var rfl
  have v1 : ∀ (H : Hp) (x y : Option V), Val (tVar 1) [some (.ref ma), some (.ref h.a), some (.ref f.a), some (.ref ta), x, some (.str "call"), some (.int (g : Nat)), some (.ref pt), some (.int (n : Nat)), y] H (.ref h.a) := fun H x y => val_var rfl
  have v2 : ∀ (H : Hp) (x y : Option V), Val (tVar 2) [some (.ref ma), some (.ref h.a), some (.ref f.a), some (.ref ta), x, some (.str "call"), some (.int (g : Nat)), some (.ref pt), some (.int (n : Nat)), y] H (.ref f.a) := fun H x y => val_var rfl
  have hm : h.m = f.m :: fs.map GF.m := by
    unfold GH.m
    rw [ef]
    rfl
  have hml : h.m.length = h.fs.length := List.length_map ..
  have vl := val_len (K := K) (val_fld (v1 H none none) (hha s1) T.cls_Hand T.na_Hand_frames rfl) (SqL.of (hfl s1))
  rw [List.length_map, List.length_reverse, List.length_map] at vl
  have an : ∀ b, decide ((20 : Int) ≤ ((f :: fs).length : Nat)) = b → Ans (tTest (tOp (rI0 fun i j => .bl (decide (j ≤ i))) (tCB (Evl.rLenS K) (tCons (tFld K (tVar 1) "frames") tNil)) (tC (.int 20)))) [some (.ref ma), some (.ref h.a), some (.ref f.a), some (.ref ta), none, some (.str "call"), some (.int (g : Nat)), some (.ref pt), some (.int (n : Nat)), none] H b :=
    fun b eb => ans_cmp vl val_c fun Q q => ⟨_, _, rfl, rfl, by rw [← eb] at q; exact q⟩
  by_cases h20 : 20 ≤ (f :: fs).length
  · refine sq_yes (an true (decide_eq_true (by omega))) ?_
    refine st_seq (st_asgI (val_c _ ?_))
    refine val_fld (v2 H _ _) (hfa s1) T.cls_Frame T.na_Frame_names rfl _ ?_
    refine ⟨_, rfl, f.nm, _, n, n, rfl, rfl, hfm s1, ixN_nat (by rw [List.length_map, show f.names.length = e.many f.fn from fok.len]; exact hn), ?_⟩
    have e0 : (f.names.map V.int).set n (.int 0) = (f.names.set n 0).map V.int := by rw [List.map_set]
    rw [e0]
    have s2 := (s1.focus.perm (regF_nm (g := f))).put (u := .lst ((f.names.set n 0).map V.int))
    have s3 := s2.perm (regF_nm (g := { f with names := f.names.set n 0 })).symm
    dsimp only
    refine st_seq (st_dropI ?_)
    refine ⟨_, rfl, f.a, f.dx, _, rfl, s3.get (List.mem_cons_of_mem _ List.mem_cons_self), rfl, _, G, da, { f with names := f.names.set n 0 }, rfl, s3, wf f (by rw [ef]; exact List.mem_cons_self), hne, fun f2 H4 ea em wf2 s4 => ?_⟩
    have s5 := s1.unfocus s4
    have efl : fsL (f :: fs) = fsL (f2 :: fs) := by
      unfold fsL
      rw [List.map_cons, List.map_cons, ea]
    rw [efl] at s5
    refine q { h with fs := f2 :: fs } H4 rfl ?_ (fun x hx => ?_) (s5.perm (regH_cons (g := { h with fs := f2 :: fs }) rfl).symm)
    · show f2.m :: fs.map GF.m = _
      rw [em, hm, callM_cons]
      have h20' : 20 ≤ (f.m :: fs.map GF.m).length := by
        rw [List.length_cons, List.length_map]
        exact h20
      rw [if_pos h20']
      rfl
    · rcases List.mem_cons.mp hx with z | z
      · rw [z]
        exact wf2
      · exact wf x (by rw [ef]; exact List.mem_cons_of_mem _ z)
  · refine sq_no (an false (decide_eq_false (by omega))) ?_
    refine st_seq (st_asgI ?_)
    refine ⟨_, rfl, pt, rfl, ⟨xs, same_seqT sGH hpt⟩, fun D hD => ?_⟩
    have s2 := s1.new (o := .lst []) hD
    have hbig : e.many g ≤ 1000 := by
      unfold Env.many
      rw [List.getD_eq_getElem?_getD, List.getElem?_eq_getElem hg]
      exact ok.nms _ (List.getElem_mem hg)
    refine lc_tup (K := K) (fun j H' => Sat F ((D, .lst (((ps.take j).map (Part.val f.names held)).map V.int)) :: (((h.fl, fsL (f :: fs)) :: (h.a, hndO K h) :: fs.flatMap (GF.reg K)) ++ f.reg K)) H') s2 (fun j H' _ w => same_seqT (sG.trans w.fr) hpt) ?_ ?_
    · rintro j v H3 hv w
      obtain ⟨a, p, rfl, hp, hpa⟩ := hps.get hv
      have w1 : Sat F (((h.fl, fsL (f :: fs)) :: (h.a, hndO K h) :: fs.flatMap (GF.reg K)) ++ f.reg K) H3 := Sat.tail (r1 := [(D, _)]) w
      refine ⟨rfl, ?_⟩
      unfold tYes
      refine Eq.mpr (if_pos rfl) ?_
      have vnm := val_fld (v2 H3 none (some (.ref a))) (hfa w1) T.cls_Frame T.na_Frame_names rfl
      have vhe := val_fld (v0 H3 none (some (.ref a))) (w1.fr _ _ ho) T.cls_Machine T.na_Machine_held hhe
      refine call_args (args_cons ((val_var rfl : Val (tVar 9) [some (.ref ma), some (.ref h.a), some (.ref f.a), some (.ref ta), none, some (.str "call"), some (.int (g : Nat)), some (.ref pt), some (.int (n : Nat)), some (.ref a)] H3 (.ref a)) _ (args_cons (vnm _ (args_cons (vhe _ (args_nil ?_)))))))
      refine run_reck (e := e) (fn := f.fn) (hpa.mono (sG.trans w1.fr)) (hparts p (List.mem_of_getElem? hp)) fok.len hnc fok.held hH (SqL.of (hfm w1)) (w1.fr.seq hheld) fun H4 e4 => ?_
      have w2 := w.grow e4
      refine ⟨_, w2.get List.mem_cons_self, ?_, ?_⟩
      · rw [List.length_map, List.length_map, List.length_take]
        exact Nat.lt_of_le_of_lt (by omega : _ ≤ 1000) (by decide)
      · have et : ps.take (j + 1) = ps.take j ++ [p] := by
          rw [List.take_succ, hp]
          rfl
        rw [et, List.map_append, List.map_append]
        exact w2.put
    · intro H3 w
      rw [hps.length, List.take_length] at w
      dsimp only [gName, List.set]
      refine st_dropI ?_
      have w1 : Sat F (((h.fl, fsL (f :: fs)) :: (h.a, hndO K h) :: fs.flatMap (GF.reg K)) ++ f.reg K) H3 := Sat.tail (r1 := [(D, _)]) w
      refine val_fld (v1 H3 _ _) (hha w1) T.cls_Hand T.na_Hand_frames rfl _ ?_
      refine ⟨.inl ⟨rfl, _, SqL.of (hfl w1)⟩, ?_⟩
      have w2 : Sat F (((h.fl, fsL (f :: fs)) :: (h.a, hndO K h) :: (fs.flatMap (GF.reg K) ++ f.reg K)) ++ [(D, .lst ((ps.map (Part.val f.names held)).map V.int))]) H3 := w.perm (by (refine perm_sum fun f => ?_; simp only [List.map_append, List.map_cons, List.map_nil, List.sum_append, List.sum_cons, List.sum_nil]; omega))
      have sub := same_addR (F := F) w2.init.off
      refine args_cons ?_
      refine ⟨_, rfl, ma, mx, sf, rfl, w1.fr _ _ ho, hbg, _, rfl, _, rfl, _, G, da, e, ma, na, lo, D, sf, g, _, rfl, sG.trans sub, A, ok, S.mono sub, w2.focus, hg, by rw [List.length_map]; exact hpl, hbg, fun f' H4 em wf' w3 => ?_⟩
      have w4 := w2.unfocus w3
      refine args_nil ?_
      refine ⟨h.fl, _, _, rfl, rfl, w4.get (List.mem_append_left _ List.mem_cons_self), ?_, ?_⟩
      · rw [List.length_map, List.length_reverse, List.length_map]
        exact Nat.lt_of_le_of_lt (by omega : _ ≤ 20) (by decide)
      have w5 : Sat F ((h.fl, fsL (f :: fs)) :: ((h.a, hndO K h) :: (fs.flatMap (GF.reg K) ++ f.reg K) ++ f'.reg K)) H4 := w4
      have w6 := w5.put (u := fsL (f' :: f :: fs))
      have e6 : fsL (f' :: f :: fs) = HO.lst (((f :: fs).map GF.a).reverse.map V.ref ++ [V.ref f'.a]) := by
        unfold fsL
        rw [List.map_cons, List.reverse_cons, List.map_append]
        rfl
      rw [← e6]
      refine q { h with fs := f' :: f :: fs } _ rfl ?_ (fun x hx => ?_) (w6.perm ?_)
      · show f'.m :: (f :: fs).map GF.m = _
        rw [em, hm, callM_cons]
        have h20' : ¬ 20 ≤ (f.m :: fs.map GF.m).length := by
          rw [List.length_cons, List.length_map]
          exact h20
        rw [if_neg h20']
        rfl
      · rcases List.mem_cons.mp hx with z | z
        · rw [z]
          exact wf'
        · exact wf x (by rw [ef]; exact z)
      · have e7 : GH.reg K { h with fs := f' :: f :: fs } = (h.fl, fsL (f' :: f :: fs)) :: (h.a, hndO K h) :: (f'.reg K ++ (f.reg K ++ fs.flatMap (GF.reg K))) := by
          unfold GH.reg
          rw [List.flatMap_cons, List.flatMap_cons]
          rfl
        rw [e7]
        (refine perm_sum fun f => ?_; simp only [List.map_append, List.map_cons, List.map_nil, List.sum_append, List.sum_cons, List.sum_nil]; omega)
end
end S
set_option Elab.async false
set_option linter.all false
set_option maxRecDepth 100000
set_option maxHeartbeats 4000000
namespace S
open PySem PySem.Spec PyProof.Rows L2
section
variable {K : PySem.W.Frag}
theorem seek_some {m : Mch} : ∀ {n j k : Nat}, m.seek n j = some k → m.stk k ≠ []
  | 0, _, _, h => by cases h
  | n + 1, j, k, h => by
    unfold Mch.seek at h
    cases e : (m.stk ((m.up + j) % m.hands.length)).isEmpty with
    | true =>
      rw [e] at h
      exact seek_some (n := n) (j := j + 1) h
    | false =>
      rw [e] at h
      have e2 : (m.up + j) % m.hands.length = k := by simpa using h
      rw [e2] at e
      intro z
      rw [z] at e
      cases e
theorem stk_lt {m : Mch} {k : Nat} (h : m.stk k ≠ []) : k < m.hands.length := by
  refine Nat.lt_of_not_le fun z => h ?_
  unfold Mch.stk
  rw [List.getD_eq_getElem?_getD, List.getElem?_eq_none z]
  rfl
theorem stk_mem {m : Mch} {k : Nat} (h : m.stk k ≠ []) : m.stk k ∈ m.hands := by
  have lt := stk_lt h
  unfold Mch.stk
  rw [List.getD_eq_getElem?_getD, List.getElem?_eq_getElem lt]
  exact List.getElem_mem lt
theorem ready_deed {e : Env} {f : Frm} (h : FrmOk e f) (r : f.ready) : ∃ p i, f.deed e.tbl = some (p, i) ∧ e.tbl[p]? = some i ∧ i.fn = f.fn := by
  obtain ⟨b, bs, eb, hat⟩ := r
  have hm : b.pl[b.at_] ∈ b.pl := List.getElem_mem hat
  obtain ⟨i, hi, hfn⟩ := h.bs b (by rw [eb]; exact List.mem_cons_self) _ hm
  refine ⟨b.pl[b.at_], i, ?_, hi, hfn⟩
  unfold Frm.deed
  rw [eb]
  show Blk.next _ _ = _
  unfold Blk.next
  rw [List.getElem?_eq_getElem hat]
  show (match e.tbl[b.pl[b.at_]]? with | none => none | some i => some (b.pl[b.at_], i)) = _
  rw [hi]
theorem flat_split {gs : List GH} {k : Nat} {h : GH} (e : gs[k]? = some h) : gs = gs.take k ++ h :: gs.drop (k + 1) := by
  have lt := (List.getElem?_eq_some_iff.mp e).1
  have e2 := (List.getElem?_eq_some_iff.mp e).2
  rw [← e2, ← List.drop_eq_getElem_cons lt, List.take_append_drop]
def restM (K : PySem.W.Frag) (g : GM) (k : Nat) (held : List Int) (said : List (Nat × Int)) (ts : List Addr) : Reg :=
  (g.a, mchO K g) :: (g.he, .lst (held.map V.int)) :: (g.sp, .lst (ts.map V.ref)) :: (g.ha, .lst (g.gs.map fun h => V.ref h.a)) :: (saidR ts said ++ ((g.gs.take k).flatMap (GH.reg K) ++ (g.gs.drop (k + 1)).flatMap (GH.reg K)))
theorem regM_split {g : GM} {k : Nat} {h : GH} (e : g.gs[k]? = some h) : (g.reg K).Perm (restM K g k g.held g.said g.ts ++ h.reg K) := by
  unfold GM.reg restM
  have e2 : g.gs.flatMap (GH.reg K) = (g.gs.take k).flatMap (GH.reg K) ++ (h.reg K ++ (g.gs.drop (k + 1)).flatMap (GH.reg K)) := by
    conv => lhs; rw [flat_split e]
    rw [List.flatMap_append, List.flatMap_cons]
  rw [e2]
  (refine perm_sum fun f => ?_; simp only [List.map_append, List.map_cons, List.map_nil, List.sum_append, List.sum_cons, List.sum_nil]; omega)
def tEnd (K : PySem.W.Frag) : TS := tSeq (tDrop (tMeth (He.ga K "Hand") "settle" (sp_Hand_settle K) [] E0 (tVar 2) tNil))
          (sFld K (tVar 0) (tOp (rI (fun _ j => 0 < j) fun i j => .int (i % j)) (tOp (rI0 fun i j => .int (i + j)) (tVar 1) (tC (.int 1))) (tCB (Evl.rLenS K) (tCons (tFld K (tVar 0) "hands") tNil))) "up")
theorem rd_Machine_do_next (T : Fx K) (vs : List V) (H : Hp) (Q : VK) (E : XK) (h : sp_Machine_do_next K vs H Q E) : t_Machine_do_next K { nx := fun _ H' => Q .non H', rt := Q } (start n_Machine_do_next vs) H := by
  obtain ⟨F, G, da, e, g, rfl, A, ok, mok, big, hnx, q⟩ := h
  have s := A.sat
  have hml : g.m.hands.length = g.gs.length := List.length_map ..
  cases en : g.m.next with
  | none => exact absurd en hnx
  | some k =>
    have hst := seek_some en
    have hk : k < g.gs.length := by
      rw [← hml]
      exact stk_lt hst
    obtain ⟨h, hh⟩ : ∃ h, g.gs[k]? = some h := ⟨g.gs[k], by simp [hk]⟩
    have hmem := List.mem_of_getElem? hh
    have est := stk_get hh
    have hok : HandOk e h.m := mok.hands _ (by rw [← est]; exact stk_mem hst)
    rw [est] at hst
    cases ef : h.fs with
    | nil =>
      refine absurd ?_ hst
      unfold GH.m
      rw [ef]
      rfl
    | cons f fs =>
    have hm : h.m = f.m :: fs.map GF.m := by
      unfold GH.m
      rw [ef]
      rfl
    rw [hm] at hok
    have fok := hok.all f.m List.mem_cons_self
    have hready : f.m.ready := hok.top f.m rfl
    obtain ⟨p, i, hd, hi, hfn⟩ := ready_deed fok hready
    have hne : f.bs ≠ [] := by
      obtain ⟨b, bs, eb, _⟩ := hready
      intro z
      have : f.m.bs = [] := by
        unfold GF.m
        rw [z]
        rfl
      rw [this] at eb
      cases eb
    have wfh : h.Wf K G da := A.wf.1 h hmem
    have wff : f.Wf K G da := wfh f (by rw [ef]; exact List.mem_cons_self)
    have sGH : Same G H := A.sub.trans s.fr
    have s1 := s.perm (regM_split hh)
    have s2 := s1.tail.perm (regH_cons ef)
    obtain ⟨b, bs, eb, hb, hdl, hp, ht⟩ := deed_at (F := F) sGH wff (fun x hx => s2.tail.at_ x hx) hd
    obtain ⟨dx, ta, ba, hda, hta, hbod⟩ := A.env.tbl p i hi
    obtain ⟨_, hti⟩ := ok.told p i hi
    have hself : ∀ {H : Hp} {hd : List Int} {sd : List (Nat × Int)} {ts : List Addr} {r : Reg}, Sat F (restM K g k hd sd ts ++ r) H → H g.a = some (mchO K g) := fun s => s.get List.mem_cons_self
    have hhands : ∀ {H : Hp} {hd : List Int} {sd : List (Nat × Int)} {ts : List Addr} {r : Reg}, Sat F (restM K g k hd sd ts ++ r) H → H g.ha = some (.lst (g.gs.map fun h => V.ref h.a)) := fun s => s.get (by simp [restM])
    have v0 : ∀ (H : Hp) (x y z w : Option V), Val (tVar 0) [some (.ref g.a), x, y, z, w] H (.ref g.a) := fun H x y z w => val_var rfl
    have hz : g.gs.length ≤ 1000 := by
      rw [← hml]
      exact mok.many
    have vn : Val (tMeth (He.ga K "Machine") "next_hand" (sp_Machine_next_hand K) [] E0 (tVar 0) tNil) [some (.ref g.a), none, none, none, none] H (.int (k : Nat)) := by
      intro Q q
      refine ⟨_, rfl, g.a, g.dx, _, rfl, hself s1, rfl, F, G, da, e, g, rfl, A, hz, ?_⟩
      rw [en]
      exact q
    refine sq_set vn ?_
    have vh := val_ixL (K := K) (val_fld (v0 H (some (.int (k : Nat))) none none none) (hself s1) T.cls_Machine T.na_Machine_hands rfl) (val_var (i := 1) rfl) (SqL.of (hhands s1)) (atI_nat (j := k) (v := .ref h.a) (by rw [List.getElem?_map, hh]; rfl))
    refine sq_set vh ?_
    have hfl : H h.fl = some (fsL (f :: fs)) := s2.get (by simp)
    have hha : H h.a = some (hndO K h) := s2.get (by simp)
    have hfa : H f.a = some (frmO K f) := s2.at_ _ (List.mem_append_right _ (List.mem_cons_of_mem _ List.mem_cons_self))
    have hfb : H f.bl = some (bsL f.bs) := s2.at_ _ (List.mem_append_right _ List.mem_cons_self)
    have hfm : H f.nm = some (.lst (f.names.map V.int)) := s2.at_ (f.nm, _) (List.mem_append_right _ (by simp [GF.reg]))
    refine sq_set (val_topF T (g := h) (fs := fs) (val_var rfl) hha hfl) ?_
    have vd : Val (tMeth (He.ga K "Frame") "deed" (sp_Frame_deed K) [] E0 (tVar 3) tNil) [some (.ref g.a), some (.int (k : Nat)), some (.ref h.a), some (.ref f.a), none] H (.ref (da p)) := by
      intro Q q
      exact ⟨_, rfl, f.a, f.dx, _, rfl, hfa, rfl, da, f, b, bs, p, rfl, hfa, hfb, eb, hb, hdl, hp, q⟩
    refine sq_set (val_fld vd (sGH _ _ hda) T.cls_Deed T.na_Deed_told rfl) ?_
    have w0 : ∀ H, Val (tVar 0) [some (.ref g.a), some (.int (k : Nat)), some (.ref h.a), some (.ref f.a), some (.ref ta)] H (.ref g.a) := fun H => val_var rfl
    have w2 : ∀ H, Val (tVar 2) [some (.ref g.a), some (.int (k : Nat)), some (.ref h.a), some (.ref f.a), some (.ref ta)] H (.ref h.a) := fun H => val_var rfl
    have w3 : ∀ H, Val (tVar 3) [some (.ref g.a), some (.int (k : Nat)), some (.ref h.a), some (.ref f.a), some (.ref ta)] H (.ref f.a) := fun H => val_var rfl
    have w4 : ∀ H, Val (tVar 4) [some (.ref g.a), some (.int (k : Nat)), some (.ref h.a), some (.ref f.a), some (.ref ta)] H (.ref ta) := fun H => val_var rfl
    have fin : ∀ (h' : GH) (held' : List Int) (said' : List (Nat × Int)) (ts' : List Addr) (H1 : Hp), h'.a = h.a → h'.Wf K G da → ts'.length = said'.length → Pend e.tbl h'.m → deedM e k i f.m (fs.map GF.m) g.held g.said = (h'.m, held', said') →
        Sat F (restM K g k held' said' ts' ++ h'.reg K) H1 →
        tEnd K { nx := fun _ H' => Q .non H', rt := Q } [some (.ref g.a), some (.int (k : Nat)), some (.ref h.a), some (.ref f.a), some (.ref ta)] H1 := by
      intro h' held' said' ts' H1 ea wf' hts' pend' ed s3
      unfold tEnd
      refine sq_drop ?_
      have sub := same_addR (F := F) s3.init.off
      refine ⟨_, rfl, h'.a, h'.dx, _, by rw [ea], s3.at_ _ (List.mem_append_right _ (List.mem_cons_of_mem _ List.mem_cons_self)), rfl, _, G, da, e.tbl, h', by rw [← ea]; rfl, A.sub.trans sub, A.env.tbl, s3.focus, wf', pend', fun h2 H2 ea2 em2 wf2 s4 => ?_⟩
      have s5 := s3.unfocus s4
      have vl := val_len (K := K) (val_fld (w0 H2) (hself s5) T.cls_Machine T.na_Machine_hands rfl) (SqL.of (hhands s5))
      rw [List.length_map] at vl
      have vu : Val (tOp (rI (fun _ j => 0 < j) fun i j => .int (i % j)) (tOp (rI0 fun i j => .int (i + j)) (tVar 1) (tC (.int 1))) (tCB (Evl.rLenS K) (tCons (tFld K (tVar 0) "hands") tNil))) [some (.ref g.a), some (.int (k : Nat)), some (.ref h.a), some (.ref f.a), some (.ref ta)] H2 (.int (((k + 1) % g.gs.length : Nat) : Int)) := by
        refine val_op (val_op (val_var rfl) val_c (z := .int ((k : Int) + 1)) (fun Q q => ⟨_, _, rfl, rfl, q⟩)) vl (fun Q q => ⟨_, _, rfl, rfl, by omega, ?_⟩)
        show Q (V.int _) _
        rw [Int.natCast_emod, Int.natCast_add] at q
        exact q
      refine vu _ ?_
      refine ⟨_, rfl, g.a, _, g.dx, _, rfl, hself s5, T.cls_Machine, T.na_Machine_up, (by show 6 < 1000; decide), ?_⟩
      have s6 := Sat.put (u := mchO K { g with up := (k + 1) % g.gs.length }) (show Sat F ((g.a, mchO K g) :: _) H2 from s5)
      have hgs : (g.gs.set k h2)[k]? = some h2 := by simp [hk]
      have et : (g.gs.set k h2).take k = g.gs.take k := by
        rw [List.take_set, List.set_eq_of_length_le (by rw [List.length_take]; omega)]
      have edr : (g.gs.set k h2).drop (k + 1) = g.gs.drop (k + 1) := by
        rw [List.drop_set, if_pos (by omega)]
      have eaddr : (g.gs.set k h2).map (fun h => V.ref h.a) = g.gs.map fun h => V.ref h.a := by
        rw [List.map_set]
        have : (V.ref h2.a) = (g.gs.map fun h => V.ref h.a)[k]'(by rw [List.length_map]; exact hk) := by
          rw [List.getElem_map, (List.getElem?_eq_some_iff.mp hh).2, ea2, ea]
        rw [this]
        exact List.set_getElem_self _
      refine q { g with held := held', said := said', ts := ts', gs := g.gs.set k h2, up := (k + 1) % g.gs.length } _ rfl rfl rfl ?_ ⟨A.sub, A.env, ⟨fun x hx => ?_, hts'⟩, s6.perm ?_⟩
      · unfold Mch.doNext
        rw [en]
        show _ = (match g.m.stk k with | [] => g.m | f :: fs => match f.deed e.tbl with
          | none => g.m
          | some (_, i) => let x := deedM e k i f fs g.m.held g.m.said
            ⟨g.m.hands.set k (settleH e.tbl x.1), x.2.1, x.2.2, (k + 1) % g.m.hands.length⟩ : Mch)
        rw [est, hm]
        show _ = (match f.m.deed e.tbl with
          | none => g.m
          | some (_, i) => let x := deedM e k i f.m (fs.map GF.m) g.m.held g.m.said
            ⟨g.m.hands.set k (settleH e.tbl x.1), x.2.1, x.2.2, (k + 1) % g.m.hands.length⟩ : Mch)
        rw [hd]
        show _ = (⟨g.m.hands.set k (settleH e.tbl (deedM e k i f.m (fs.map GF.m) g.held g.said).1), (deedM e k i f.m (fs.map GF.m) g.held g.said).2.1, (deedM e k i f.m (fs.map GF.m) g.held g.said).2.2, (k + 1) % g.m.hands.length⟩ : Mch)
        rw [ed, hml]
        unfold GM.m
        rw [List.map_set, em2]
      · rcases List.mem_or_eq_of_mem_set hx with z | z
        · exact A.wf.1 x z
        · rw [z]
          exact wf2
      · refine List.Perm.symm ((regM_split (K := K) (k := k) (h := h2) hgs).trans ?_)
        unfold restM
        rw [et, edr, eaddr]
        exact List.Perm.refl _
    have hfs : Pend e.tbl (f.m :: fs.map GF.m) := hok.pend
    have hnc := mok.nc
    have hH := mok.held
    have sub1 := same_addR (F := F) s1.init.off
    have selfA : SelfAt K (addR F (restM K g k g.held g.said g.ts)) g.a g.na g.lo (mchF g) := ⟨⟨g.dx, addR_at s1.init.nd List.mem_cons_self⟩, rfl, rfl⟩
    have heldA : SqL K (addR F (restM K g k g.held g.said g.ts)) g.he (g.held.map V.int) := SqL.of (addR_at s1.init.nd (List.mem_cons_of_mem _ List.mem_cons_self))
    have vkind : ∀ (w : Str) (xs : List V), SqT K G ta (.str w :: xs) → Val (tOp (rIxT K) (tVar 4) (tC (.int 0))) [some (.ref g.a), some (.int (k : Nat)), some (.ref h.a), some (.ref f.a), some (.ref ta)] H (.str w) := fun w xs hw => val_ixT (w4 H) val_c (same_seqT sGH hw) (atI_nat (j := 0) rfl)
    have etold : ∀ t, i.told = t → e.told ⟨f.fn, t, i.bodies⟩ := by
      intro t z
      have hti2 := hti
      unfold Env.told at hti2 ⊢
      rw [z] at hti2
      rw [hfn] at hti2
      exact hti2
    have hbl : f.bs.length < 16000000 := by
      have h1 := big.1 _ (stk_mem (by rw [est]; exact hst)) f.m (by rw [est, hm]; exact List.mem_cons_self)
      have h2 : f.m.bs.length = f.bs.length := List.length_map ..
      omega
    have pendS : ∀ f' : Frm, Pend e.tbl (f' :: fs.map GF.m) := fun f' x hx => hfs x hx
    have refl2 : ∀ f' : GF, f'.a = f.a → fsL (f :: fs) = fsL (f' :: fs) := by
      intro f' ea
      unfold fsL
      rw [List.map_cons, List.map_cons, ea]
    have choose : ((∃ q, i.told = .iff q) ∨ ∃ q, i.told = .again q) → deedM e k i f.m (fs.map GF.m) g.held g.said = (chooseM g.held i f.m :: fs.map GF.m, g.held, g.said) → ∀ H2, Same H H2 →
        tDrop (tMeth (He.ga K "Machine") "_choose" (sp_Machine__choose K) [] E0 (tVar 0) (tCons (tVar 3) tNil)) { nx := tEnd K { nx := fun _ H' => Q .non H', rt := Q }, rt := Q } [some (.ref g.a), some (.int (k : Nat)), some (.ref h.a), some (.ref f.a), some (.ref ta)] H2 := by
      intro hc ed H2 e2
      have s3 := s1.grow e2
      have s4 : Sat F ((restM K g k g.held g.said g.ts ++ ((h.fl, fsL (f :: fs)) :: (h.a, hndO K h) :: fs.flatMap (GF.reg K))) ++ f.reg K) H2 := s3.perm (by
        rw [List.append_assoc]
        exact List.Perm.append_left _ (regH_cons ef))
      have sub4 := same_addR (F := F) s4.init.off
      refine st_dropI ?_
      refine ⟨_, rfl, g.a, g.dx, _, rfl, hself s3, rfl, _, rfl, ?_⟩
      refine ⟨_, G, da, e, g.a, g.na, g.lo, g.he, mchF g, g.held, f, p, i, rfl, A.sub.trans sub4, A.env, ok, ⟨⟨g.dx, addR_at s4.init.nd (List.mem_append_left _ List.mem_cons_self)⟩, rfl, rfl⟩, rfl, SqL.of (addR_at s4.init.nd (List.mem_append_left _ (List.mem_cons_of_mem _ List.mem_cons_self))), hH, hnc, s4.focus, wff, fok, hd, hfn, hc, hbl, fun f' H1 ea em wf' s5 => ?_⟩
      have s6 := s4.unfocus s5
      rw [refl2 f' ea, List.append_assoc] at s6
      refine fin { h with fs := f' :: fs } g.held g.said g.ts H1 rfl (fun x hx => ?_) A.wf.2 (pendS _) ?_ (s6.perm (List.Perm.append_left _ (regH_cons (g := { h with fs := f' :: fs }) rfl).symm))
      · rcases List.mem_cons.mp hx with z | z
        · rw [z]
          exact wf'
        · exact wfh x (by rw [ef]; exact List.mem_cons_of_mem _ z)
      · rw [ed]
        show _ = (f'.m :: fs.map GF.m, _, _)
        rw [em]
    have note : ∀ t, i.told = t → ((∃ n q, t = .set n q) ∨ (∃ n q, t = .put n q) ∨ ∃ q, t = .say q) → ∀ H2, Same H H2 →
        tDrop (tMeth (He.ga K "Machine") "_note" (sp_Machine__note K) [] E0 (tVar 0) (tCons (tVar 1) (tCons (tVar 3) (tCons (tVar 4) tNil)))) { nx := tEnd K { nx := fun _ H' => Q .non H', rt := Q }, rt := Q } [some (.ref g.a), some (.int (k : Nat)), some (.ref h.a), some (.ref f.a), some (.ref ta)] H2 := by
      intro t et hc H2 e2
      have s3 := s1.grow e2
      have s3' : Sat F (restM K g k g.held g.said g.ts ++ (((h.fl, fsL (f :: fs)) :: (h.a, hndO K h) :: fs.flatMap (GF.reg K)) ++ f.reg K)) H2 := s3.perm (List.Perm.append_left _ (regH_cons ef))
      have s4 : Sat F (((g.a, mchO K g) :: (g.ha, .lst (g.gs.map fun h => V.ref h.a)) :: ((g.gs.take k).flatMap (GH.reg K) ++ (g.gs.drop (k + 1)).flatMap (GH.reg K)) ++ ((h.fl, fsL (f :: fs)) :: (h.a, hndO K h) :: fs.flatMap (GF.reg K))) ++
          ((g.he, .lst (g.held.map V.int)) :: (g.sp, .lst (g.ts.map V.ref)) :: (saidR g.ts g.said ++ f.reg K))) H2 := s3'.perm (by
        unfold restM
        (refine perm_sum fun f => ?_; simp only [List.map_append, List.map_cons, List.map_nil, List.sum_append, List.sum_cons, List.sum_nil]; omega))
      have sub4 := same_addR (F := F) s4.init.off
      refine st_dropI ?_
      refine ⟨_, rfl, g.a, g.dx, _, rfl, hself s3, rfl, _, rfl, _, rfl, _, rfl, ?_⟩
      have hta2 := hta
      rw [et] at hta2
      refine ⟨_, G, da, e, g.a, g.na, g.lo, g.he, g.sp, ta, mchF g, g.held, g.said, g.ts, k, f, t, rfl, A.sub.trans sub4, ok, ⟨⟨g.dx, addR_at s4.init.nd List.mem_cons_self⟩, rfl, rfl⟩, rfl, rfl, hH, hnc, s4.focus, A.wf.2, wff, hne, fok, hta2, ?_, hc, Nat.lt_of_le_of_lt big.2 (by decide), fun f' held' said' ts' H1 ea em hts' wf' s5 => ?_⟩
      · have := etold t et
        unfold Env.told at this ⊢
        rcases hc with ⟨n, q, z⟩ | ⟨n, q, z⟩ | ⟨q, z⟩ <;> (rw [z] at this ⊢; exact this)
      have s6 := s4.unfocus s5
      rw [refl2 f' ea] at s6
      refine fin { h with fs := f' :: fs } held' said' ts' H1 rfl (fun x hx => ?_) hts' (pendS _) ?_ (s6.perm ?_)
      · rcases List.mem_cons.mp hx with z | z
        · rw [z]
          exact wf'
        · exact wfh x (by rw [ef]; exact List.mem_cons_of_mem _ z)
      · show _ = (f'.m :: fs.map GF.m, _, _)
        unfold deedM
        rw [et]
        rcases hc with ⟨n, q, z⟩ | ⟨n, q, z⟩ | ⟨q, z⟩ <;> (rw [z] at em ⊢; dsimp only; rw [em])
      · refine List.Perm.symm ((List.Perm.append_left _ (regH_cons (g := { h with fs := f' :: fs }) rfl)).trans ?_)
        unfold restM
        show ((((g.a, mchO K g) :: _) ++ (((h.fl, fsL (f' :: fs)) :: (h.a, hndO K h) :: fs.flatMap (GF.reg K)) ++ f'.reg K)) : Reg).Perm _
        (refine perm_sum fun f => ?_; simp only [List.map_append, List.map_cons, List.map_nil, List.sum_append, List.sum_cons, List.sum_nil]; omega)
    cases et : i.told with
    | call g2 ps n =>
      rw [et] at hta
      have htold := etold _ et
      have hta2 := hta
      obtain ⟨pt, xs, hw, _, _⟩ := hta2
      refine sq_yes (fun Q q => tsEq (vkind _ _ hw) val_c (b := true) (by decide +kernel) q) ?_
      refine st_dropI ?_
      refine ⟨_, rfl, g.a, g.dx, _, rfl, hself s1, rfl, _, rfl, _, rfl, _, rfl, ?_⟩
      refine ⟨_, G, da, e, g.a, g.na, g.lo, g.he, ta, mchF g, g.held, h, f, fs, g2, ps, n, rfl, A.sub.trans sub1, A.env, ok, selfA, rfl, rfl, heldA, hH, hnc, s1.focus, wfh, ef, hne, fok, hta, htold, ?_, fun h' H1 ea em wf' s3 => ?_⟩
      · have := hok.len
        rw [List.length_cons, List.length_map] at this
        rw [ef, List.length_cons]
        omega
      refine fin h' g.held g.said g.ts H1 ea wf' A.wf.2 ?_ ?_ (s1.unfocus s3)
      · rw [em, hm, callM_cons]
        by_cases h20 : 20 ≤ (f.m :: fs.map GF.m).length
        · rw [if_pos h20]
          exact fun x hx => hfs x hx
        · rw [if_neg h20]
          intro x hx
          rcases List.mem_cons.mp hx with z | z
          · rw [z]
            refine ⟨p, i.fn, g2, ps, n, i.bodies, ?_, ?_⟩
            · rw [hd, ← et]
            · rw [fok.len]
              exact htold.2.2.1
          · exact hfs x z
      · unfold deedM
        rw [et, em, hm]
    | ret pp =>
      rw [et] at hta
      have htold := etold _ et
      obtain ⟨pa, hw, hpa⟩ := hta
      refine sq_noE (fun Q q => tsEq (vkind _ _ hw) val_c (b := false) (by decide +kernel) q) ?_
      refine st_yes (fun Q q => tsEq (vkind _ _ hw) val_c (b := true) (by decide +kernel) q) ?_
      refine st_dropI ?_
      refine ⟨_, rfl, h.a, h.dx, _, rfl, hha, rfl, ?_⟩
      have vpa := val_ixT (K := K) (w4 H) (val_c (v := .int 1)) (same_seqT sGH hw) (atI_nat (j := 1) rfl)
      have vnm := val_fld (w3 H) hfa T.cls_Frame T.na_Frame_names rfl
      have vhe := val_fld (w0 H) (hself s1) T.cls_Machine T.na_Machine_held rfl
      refine args_cons (call_args (args_cons (vpa _ (args_cons (vnm _ (args_cons (vhe _ (args_nil ?_))))))))
      refine run_reck (e := e) (fn := f.fn) (hpa.mono sGH) htold fok.len hnc fok.held hH (SqL.of hfm) (SqL.of (s1.get (o := .lst (g.held.map V.int)) (List.mem_cons_of_mem _ List.mem_cons_self))) fun H2 e2 => ?_
      have s3 := s1.grow e2
      refine args_nil ?_
      refine ⟨_, G, da, e.tbl, h, _, rfl, A.sub.trans sub1, A.env.tbl, s3.focus, wfh, by rw [ef]; simp, by rw [hm]; exact hfs, fun h' H1 ea em wf' s4 => ?_⟩
      refine fin h' g.held g.said g.ts H1 ea wf' A.wf.2 ?_ ?_ (s3.unfocus s4)
      · rw [em, hm]
        exact fun x hx => hfs x (endFun_tail x hx)
      · unfold deedM
        rw [et, em, hm]
        rfl
    | iff pp =>
      have hta2 := hta
      rw [et] at hta2
      obtain ⟨pa, x, y, hw, _⟩ := hta2
      refine sq_noE (fun Q q => tsEq (vkind _ _ hw) val_c (b := false) (by decide +kernel) q) ?_
      refine st_no (fun Q q => tsEq (vkind _ _ hw) val_c (b := false) (by decide +kernel) q) ?_
      refine st_yesH (ans_in2 (b := true) (vkind _ _ hw) rfl rfl rfl (by rw [inV2]; decide +kernel)) ?_
      rintro H2 ⟨pp2, hp2, rfl⟩
      exact choose (.inl ⟨pp, et⟩) (by unfold deedM; rw [et]) _ (same_new hp2)
    | again pp =>
      have hta2 := hta
      rw [et] at hta2
      obtain ⟨pa, x, hw, _⟩ := hta2
      refine sq_noE (fun Q q => tsEq (vkind _ _ hw) val_c (b := false) (by decide +kernel) q) ?_
      refine st_no (fun Q q => tsEq (vkind _ _ hw) val_c (b := false) (by decide +kernel) q) ?_
      refine st_yesH (ans_in2 (b := true) (vkind _ _ hw) rfl rfl rfl (by rw [inV2]; decide +kernel)) ?_
      rintro H2 ⟨pp2, hp2, rfl⟩
      exact choose (.inr ⟨pp, et⟩) (by unfold deedM; rw [et]) _ (same_new hp2)
    | set n pp =>
      have hta2 := hta
      rw [et] at hta2
      obtain ⟨pa, hw, _⟩ := hta2
      refine sq_noE (fun Q q => tsEq (vkind _ _ hw) val_c (b := false) (by decide +kernel) q) ?_
      refine st_no (fun Q q => tsEq (vkind _ _ hw) val_c (b := false) (by decide +kernel) q) ?_
      refine st_noH (ans_in2 (b := false) (vkind _ _ hw) rfl rfl rfl (by rw [inV2]; decide +kernel)) ?_
      rintro H2 ⟨pp2, hp2, rfl⟩
      exact note _ et (.inl ⟨n, pp, rfl⟩) _ (same_new hp2)
    | put n pp =>
      have hta2 := hta
      rw [et] at hta2
      obtain ⟨pa, hw, _⟩ := hta2
      refine sq_noE (fun Q q => tsEq (vkind _ _ hw) val_c (b := false) (by decide +kernel) q) ?_
      refine st_no (fun Q q => tsEq (vkind _ _ hw) val_c (b := false) (by decide +kernel) q) ?_
      refine st_noH (ans_in2 (b := false) (vkind _ _ hw) rfl rfl rfl (by rw [inV2]; decide +kernel)) ?_
      rintro H2 ⟨pp2, hp2, rfl⟩
      exact note _ et (.inr (.inl ⟨n, pp, rfl⟩)) _ (same_new hp2)
    | say pp =>
      have hta2 := hta
      rw [et] at hta2
      obtain ⟨pa, hw, _⟩ := hta2
      refine sq_noE (fun Q q => tsEq (vkind _ _ hw) val_c (b := false) (by decide +kernel) q) ?_
      refine st_no (fun Q q => tsEq (vkind _ _ hw) val_c (b := false) (by decide +kernel) q) ?_
      refine st_noH (ans_in2 (b := false) (vkind _ _ hw) rfl rfl rfl (by rw [inV2]; decide +kernel)) ?_
      rintro H2 ⟨pp2, hp2, rfl⟩
      exact note _ et (.inr (.inr ⟨pp, rfl⟩)) _ (same_new hp2)
end
end S
set_option Elab.async false
set_option linter.all false
set_option maxRecDepth 100000
set_option maxHeartbeats 4000000
namespace S
open PySem PySem.Spec PyProof.Rows L2
section
variable {e : Env}
theorem settleB_mem : ∀ {bs : List Blk} {b : Blk}, b ∈ settleB bs → ∃ c ∈ bs, c.pl = b.pl
  | [], b, h => by cases h
  | c :: cs, b, h => by
    unfold settleB at h
    split at h
    · exact ⟨b, h, rfl⟩
    · split at h
      · obtain ⟨x, hx, ex⟩ := settleB_mem h
        exact ⟨x, List.mem_cons_of_mem _ hx, ex⟩
      · rcases List.mem_cons.mp h with z | z
        · exact ⟨c, List.mem_cons_self, by rw [z]⟩
        · exact ⟨b, List.mem_cons_of_mem _ z, rfl⟩
theorem settleB_len : ∀ bs : List Blk, (settleB bs).length ≤ bs.length
  | [] => Nat.le_refl _
  | c :: cs => by
    unfold settleB
    split
    · exact Nat.le_refl _
    · split
      · exact Nat.le_trans (settleB_len cs) (Nat.le_succ _)
      · exact Nat.le_refl _
theorem settleB_ready : ∀ {bs : List Blk}, (settleB bs).isEmpty = false → ∃ b cs, settleB bs = b :: cs ∧ b.at_ < b.pl.length
  | [], h => by cases h
  | c :: cs, h => by
    unfold settleB at h ⊢
    split
    · rename_i hat
      exact ⟨c, cs, rfl, hat⟩
    · rename_i hat
      rw [if_neg hat] at h
      split
      · rename_i hr
        rw [if_pos hr] at h
        exact settleB_ready h
      · rename_i hr
        refine ⟨_, _, rfl, ?_⟩
        show 0 < c.pl.length
        omega
theorem FrmOk.settle {f : Frm} (h : FrmOk e f) : FrmOk e f.settle := ⟨h.fn, h.len, h.held, fun b hb => by
  obtain ⟨c, hc, ec⟩ := settleB_mem hb
  rw [← ec]
  exact h.bs c hc⟩
theorem moveOn_fn : ∀ f : Frm, f.moveOn.fn = f.fn ∧ f.moveOn.names = f.names
  | ⟨_, _, []⟩ => ⟨rfl, rfl⟩
  | ⟨_, _, _ :: _⟩ => ⟨rfl, rfl⟩
theorem moveOn_mem : ∀ {f : Frm} {b : Blk}, b ∈ f.moveOn.bs → ∃ c ∈ f.bs, c.pl = b.pl
  | ⟨_, _, []⟩, b, h => by cases h
  | ⟨_, _, c :: cs⟩, b, h => by
    rcases List.mem_cons.mp h with z | z
    · exact ⟨c, List.mem_cons_self, by rw [z]⟩
    · exact ⟨b, List.mem_cons_of_mem _ z, rfl⟩
theorem FrmOk.moveOn {f : Frm} (h : FrmOk e f) : FrmOk e f.moveOn := by
  obtain ⟨e1, e2⟩ := moveOn_fn f
  refine ⟨by rw [e1]; exact h.fn, by rw [e1, e2]; exact h.len, by rw [e2]; exact h.held, fun b hb => ?_⟩
  obtain ⟨c, hc, ec⟩ := moveOn_mem hb
  rw [e1, ← ec]
  exact h.bs c hc
theorem held_set {ns : List Int} {k : Nat} {v : Int} (h : Held ns) (hv : 0 ≤ v ∧ v < 10007) : Held (ns.set k v) := by
  intro i hi
  rcases List.mem_or_eq_of_mem_set hi with z | z
  · exact h i z
  · rw [z]
    exact hv
theorem FrmOk.set {f : Frm} {k : Nat} {v : Int} (h : FrmOk e f) (hv : 0 ≤ v ∧ v < 10007) : FrmOk e { f with names := f.names.set k v } :=
  ⟨h.fn, by rw [List.length_set]; exact h.len, held_set h.held hv, h.bs⟩
theorem FrmOk.enter {f : Frm} {pl : List Nat} {r : Nat} (h : FrmOk e f) (hp : e.places f.fn pl) : FrmOk e (f.enter pl r) := by
  unfold Frm.enter
  split
  · exact h
  · refine ⟨h.fn, h.len, h.held, fun b hb => ?_⟩
    rcases List.mem_cons.mp hb with z | z
    · rw [z]
      exact hp
    · exact h.bs b z
theorem FrmOk.back {f : Frm} {v : Int} (h : FrmOk e f) (hv : 0 ≤ v ∧ v < 10007) : FrmOk e (f.back e.tbl v) := by
  unfold Frm.back
  split
  · have h1 := (h.moveOn).set (k := 0) (v := 0) (by decide)
    obtain ⟨e1, e2⟩ := moveOn_fn f
    have hm := h.moveOn
    refine ⟨hm.fn, ?_, held_set h.held hv, hm.bs⟩
    show (List.set _ _ _).length = _
    rw [List.length_set, e1]
    exact h.len
  · exact h
theorem FrmOk.begun (ok : e.Ok) {g : Nat} {vals : List Int} (hg : g < e.nms.length) (hv : Held vals) (hl : vals.length ≤ e.many g) : FrmOk e (e.begun g vals) := by
  refine ⟨hg, ?_, ?_, fun b hb => ?_⟩
  · show (vals ++ List.replicate _ _).length = e.many g
    rw [List.length_append, List.length_replicate]
    omega
  · intro i hi
    rcases List.mem_append.mp hi with z | z
    · exact hv i z
    · rw [List.eq_of_mem_replicate z]
      decide
  · have eb : b = ⟨e.bods.getD g [], 0, 1⟩ := by simpa [Env.begun] using hb
    rw [eb]
    have hb' : g < e.bods.length := by rw [ok.len]; exact hg
    refine ok.bods g _ ?_
    rw [List.getD_eq_getElem?_getD, List.getElem?_eq_getElem hb']
    rfl
theorem back_len {f : Frm} {v : Int} : (f.back e.tbl v).bs.length = f.bs.length := by
  unfold Frm.back
  split
  · exact moveOn_len f
  · rfl
theorem settleC_ok : ∀ (fs : List Frm) (f : Frm), FrmOk e f → (∀ x ∈ fs, FrmOk e x) → (∀ x ∈ fs, x.pends e.tbl) →
    (∀ x ∈ settleC e.tbl f fs, FrmOk e x) ∧ Pend e.tbl (settleC e.tbl f fs) ∧ (∀ x ∈ (settleC e.tbl f fs).head?, x.ready) ∧ (settleC e.tbl f fs).length ≤ fs.length + 1 ∧
    ∀ n, f.bs.length ≤ n → (∀ x ∈ fs, x.bs.length ≤ n) → ∀ x ∈ settleC e.tbl f fs, x.bs.length ≤ n
  | [], f, hf, _, _ => by
    unfold settleC
    cases hb : (settleB f.bs).isEmpty with
    | true =>
      rw [if_pos rfl]
      exact ⟨(fun x hx => nomatch hx), (fun x hx => nomatch hx), (fun x hx => nomatch hx), Nat.zero_le _, (fun _ _ _ x hx => nomatch hx)⟩
    | false =>
      rw [if_neg Bool.false_ne_true]
      obtain ⟨b, cs, e1, e2⟩ := settleB_ready hb
      refine ⟨fun x hx => ?_, (fun x hx => nomatch hx), fun x hx => ?_, Nat.le_refl _, fun n hn _ x hx => ?_⟩
      · have : x = f.settle := by simpa using hx
        rw [this]
        exact hf.settle
      · have : f.settle = x := by simpa using hx
        rw [← this]
        exact ⟨b, cs, e1, e2⟩
      · have : x = f.settle := by simpa using hx
        rw [this]
        exact Nat.le_trans (settleB_len _) hn
  | c :: cs, f, hf, hall, hp => by
    unfold settleC
    cases hb : (settleB f.bs).isEmpty with
    | true =>
      rw [if_pos rfl]
      have hc := hall c List.mem_cons_self
      obtain ⟨h1, h2, h3, h4, h5⟩ := settleC_ok cs (c.back e.tbl 0) (hc.back (by decide)) (fun x hx => hall x (List.mem_cons_of_mem _ hx)) (fun x hx => hp x (List.mem_cons_of_mem _ hx))
      refine ⟨h1, h2, h3, Nat.le_trans h4 (Nat.le_succ _), fun n hn hns x hx => h5 n ?_ (fun y hy => hns y (List.mem_cons_of_mem _ hy)) x hx⟩
      rw [back_len]
      exact hns c List.mem_cons_self
    | false =>
      rw [if_neg Bool.false_ne_true]
      obtain ⟨b, ds, e1, e2⟩ := settleB_ready hb
      refine ⟨fun x hx => ?_, fun x hx => hp x hx, fun x hx => ?_, Nat.le_refl _, fun n hn hns x hx => ?_⟩
      · rcases List.mem_cons.mp hx with z | z
        · rw [z]
          exact hf.settle
        · exact hall x z
      · have : f.settle = x := by simpa using hx
        rw [← this]
        exact ⟨b, ds, e1, e2⟩
      · rcases List.mem_cons.mp hx with z | z
        · rw [z]
          exact Nat.le_trans (settleB_len _) hn
        · exact hns x z
theorem settleH_ok (fs : List Frm) (h1 : ∀ x ∈ fs, FrmOk e x) (h2 : Pend e.tbl fs) (h3 : fs.length ≤ 20) : HandOk e (settleH e.tbl fs) ∧ ∀ n, (∀ x ∈ fs, x.bs.length ≤ n) → ∀ x ∈ settleH e.tbl fs, x.bs.length ≤ n := by
  cases fs with
  | nil => exact ⟨⟨(fun x hx => nomatch hx), (fun x hx => nomatch hx), (fun x hx => nomatch hx), Nat.zero_le _⟩, (fun n _ x hx => nomatch hx)⟩
  | cons f fs =>
    obtain ⟨a1, a2, a3, a4, a5⟩ := settleC_ok fs f (h1 f List.mem_cons_self) (fun x hx => h1 x (List.mem_cons_of_mem _ hx)) h2
    exact ⟨⟨a1, a2, a3, Nat.le_trans a4 h3⟩, fun n hn => a5 n (hn f List.mem_cons_self) fun x hx => hn x (List.mem_cons_of_mem _ hx)⟩
theorem enter_len {f : Frm} {pl : List Nat} {r : Nat} : (f.enter pl r).bs.length ≤ f.bs.length + 1 := by
  unfold Frm.enter
  split
  · exact Nat.le_succ _
  · exact Nat.le_refl _
theorem deedM_ok (ok : e.Ok) {k p : Nat} {i : DInfo} {f : Frm} {fs : List Frm} {held : List Int} {said : List (Nat × Int)} (hf : FrmOk e f) (hfs : ∀ x ∈ fs, FrmOk e x) (hp : ∀ x ∈ fs, x.pends e.tbl) (hl : (f :: fs).length ≤ 20)
    (hd : f.deed e.tbl = some (p, i)) (hi : e.tbl[p]? = some i) (hfn : i.fn = f.fn) (hh : Held held) (hc : held.length = e.nc) :
    (∀ x ∈ (deedM e k i f fs held said).1, FrmOk e x) ∧ Pend e.tbl (deedM e k i f fs held said).1 ∧ (deedM e k i f fs held said).1.length ≤ 20 ∧ Held (deedM e k i f fs held said).2.1 ∧ (deedM e k i f fs held said).2.1.length = e.nc ∧
    (deedM e k i f fs held said).2.2.length ≤ said.length + 1 ∧ ∀ n, f.bs.length ≤ n → (∀ x ∈ fs, x.bs.length ≤ n) → ∀ x ∈ (deedM e k i f fs held said).1, x.bs.length ≤ n + 1 := by
  obtain ⟨_, hti⟩ := ok.told p i hi
  have hval : ∀ {q : Part}, e.part f.fn q → 0 ≤ q.val f.names held ∧ q.val f.names held < 10007 := fun {q} h => val_held hf.held hh (by rw [hf.len, hc]; exact h.1)
  have one : ∀ f' : Frm, FrmOk e f' → f'.bs.length ≤ f.bs.length + 1 → (∀ x ∈ f' :: fs, FrmOk e x) ∧ Pend e.tbl (f' :: fs) ∧ (f' :: fs).length ≤ 20 ∧ ∀ n, f.bs.length ≤ n → (∀ x ∈ fs, x.bs.length ≤ n) → ∀ x ∈ f' :: fs, x.bs.length ≤ n + 1 := by
    intro f' h' hl'
    refine ⟨fun x hx => ?_, fun x hx => hp x hx, hl, fun n hn hns x hx => ?_⟩
    · rcases List.mem_cons.mp hx with z | z
      · rw [z]
        exact h'
      · exact hfs x z
    · rcases List.mem_cons.mp hx with z | z
      · rw [z]
        omega
      · exact Nat.le_trans (hns x z) (Nat.le_succ _)
  unfold Env.told at hti
  rw [hfn] at hti
  unfold deedM
  cases et : i.told with
  | call g ps n =>
    rw [et] at hti
    obtain ⟨hg, hps, hn, hpp⟩ := hti
    dsimp only
    rw [callM_cons]
    by_cases h20 : 20 ≤ (f :: fs).length
    · rw [if_pos h20]
      obtain ⟨a1, a2, a3, a4⟩ := one (Frm.moveOn { f with names := f.names.set n 0 }) (hf.set (by decide)).moveOn (by rw [moveOn_len]; exact Nat.le_succ _)
      exact ⟨a1, a2, a3, hh, hc, Nat.le_succ _, a4⟩
    · rw [if_neg h20]
      have hb : FrmOk e (e.begun g (ps.map (Part.val f.names held))) := FrmOk.begun ok hg (fun v hv => by
        obtain ⟨q, hq, rfl⟩ := List.mem_map.mp hv
        exact hval (hpp q hq)) (by rw [List.length_map]; exact hps)
      refine ⟨fun x hx => ?_, fun x hx => ?_, ?_, hh, hc, Nat.le_succ _, fun m hm hms x hx => ?_⟩
      · rcases List.mem_cons.mp hx with z | z
        · rw [z]
          exact hb
        · rcases List.mem_cons.mp z with z | z
          · rw [z]
            exact hf
          · exact hfs x z
      · rcases List.mem_cons.mp hx with z | z
        · rw [z]
          exact ⟨p, i.fn, g, ps, n, i.bodies, by rw [hd, ← et], by rw [hf.len]; exact hn⟩
        · exact hp x z
      · rw [List.length_cons]
        omega
      · rcases List.mem_cons.mp hx with z | z
        · rw [z]
          show 1 ≤ m + 1
          omega
        · rcases List.mem_cons.mp z with z | z
          · rw [z]
            omega
          · exact Nat.le_trans (hms x z) (Nat.le_succ _)
  | ret q =>
    rw [et] at hti
    have hv := hval hti
    dsimp only
    cases fs with
    | nil => exact ⟨(fun x hx => nomatch hx), (fun x hx => nomatch hx), Nat.zero_le _, hh, hc, Nat.le_succ _, (fun m _ _ x hx => nomatch hx)⟩
    | cons c cs =>
      refine ⟨fun x hx => ?_, fun x hx => hp x (List.mem_cons_of_mem _ hx), ?_, hh, hc, Nat.le_succ _, fun m hm hms x hx => ?_⟩
      · rcases List.mem_cons.mp hx with z | z
        · rw [z]
          exact (hfs c List.mem_cons_self).back hv
        · exact hfs x (List.mem_cons_of_mem _ z)
      · simp only [List.length_cons] at hl
        show (_ :: cs).length ≤ 20
        rw [List.length_cons]
        omega
      · rcases List.mem_cons.mp hx with z | z
        · rw [z, back_len]
          exact Nat.le_trans (hms c List.mem_cons_self) (Nat.le_succ _)
        · exact Nat.le_trans (hms x (List.mem_cons_of_mem _ z)) (Nat.le_succ _)
  | iff q =>
    rw [et] at hti
    obtain ⟨_, a, b, eb, ha, hb⟩ := hti
    dsimp only
    have hch : FrmOk e (chooseM held i f) ∧ (chooseM held i f).bs.length ≤ f.bs.length + 1 := by
      unfold chooseM
      rw [et]
      dsimp only
      refine ⟨FrmOk.enter hf.moveOn ?_, Nat.le_trans enter_len (by rw [moveOn_len]; exact Nat.le_refl _)⟩
      rw [(moveOn_fn f).1, eb]
      split
      · exact ha
      · exact hb
    obtain ⟨a1, a2, a3, a4⟩ := one _ hch.1 hch.2
    exact ⟨a1, a2, a3, hh, hc, Nat.le_succ _, a4⟩
  | again q =>
    rw [et] at hti
    obtain ⟨_, a, eb, ha⟩ := hti
    dsimp only
    have hch : FrmOk e (chooseM held i f) ∧ (chooseM held i f).bs.length ≤ f.bs.length + 1 := by
      unfold chooseM
      rw [et]
      dsimp only
      refine ⟨FrmOk.enter hf.moveOn ?_, Nat.le_trans enter_len (by rw [moveOn_len]; exact Nat.le_refl _)⟩
      rw [(moveOn_fn f).1, eb]
      exact ha
    obtain ⟨a1, a2, a3, a4⟩ := one _ hch.1 hch.2
    exact ⟨a1, a2, a3, hh, hc, Nat.le_succ _, a4⟩
  | set n q =>
    rw [et] at hti
    obtain ⟨a1, a2, a3, a4⟩ := one (Frm.moveOn { f with names := f.names.set n (q.val f.names held) }) (hf.set (hval hti.2)).moveOn (by rw [moveOn_len]; exact Nat.le_succ _)
    exact ⟨a1, a2, a3, hh, hc, Nat.le_succ _, a4⟩
  | put n q =>
    rw [et] at hti
    obtain ⟨a1, a2, a3, a4⟩ := one f.moveOn hf.moveOn (by rw [moveOn_len]; exact Nat.le_succ _)
    exact ⟨a1, a2, a3, held_set hh (hval hti.2), by show (List.set _ _ _).length = _; rw [List.length_set]; exact hc, Nat.le_succ _, a4⟩
  | say q =>
    rw [et] at hti
    obtain ⟨a1, a2, a3, a4⟩ := one f.moveOn hf.moveOn (by rw [moveOn_len]; exact Nat.le_succ _)
    exact ⟨a1, a2, a3, hh, hc, by show (said ++ [_]).length ≤ _; rw [List.length_append]; exact Nat.le_refl _, a4⟩
theorem doNext_ok (ok : e.Ok) {m : Mch} (mok : m.Ok e) : (m.doNext e).Ok e ∧ ∀ n, m.Big n → (m.doNext e).Big (n + 1) := by
  have same : m.Ok e ∧ ∀ n, m.Big n → m.Big (n + 1) := ⟨mok, fun n h => ⟨fun fs hfs f hf => Nat.le_trans (h.1 fs hfs f hf) (Nat.le_succ _), Nat.le_trans h.2 (Nat.le_succ _)⟩⟩
  unfold Mch.doNext
  cases en : m.next with
  | none => exact same
  | some k =>
    dsimp only
    have hst := seek_some en
    have hmem := stk_mem hst
    have hok := mok.hands _ hmem
    cases es : m.stk k with
    | nil => exact same
    | cons f fs =>
      rw [es] at hok hmem
      dsimp only
      cases ed : f.deed e.tbl with
      | none => exact same
      | some x =>
        obtain ⟨p, i⟩ := x
        dsimp only
        have fok := hok.all f List.mem_cons_self
        obtain ⟨p', i', h1, h2, h3⟩ := ready_deed fok (hok.top f rfl)
        rw [ed] at h1
        cases h1
        obtain ⟨a1, a2, a3, a4, a5, a6, a7⟩ := deedM_ok ok (k := k) (said := m.said) fok (fun x hx => hok.all x (List.mem_cons_of_mem _ hx)) (fun x hx => hok.pend x hx) hok.len ed h2 h3 mok.held mok.nc
        obtain ⟨b1, b2⟩ := settleH_ok _ a1 a2 a3
        refine ⟨⟨fun x hx => ?_, a4, a5, by show (List.set _ _ _).length ≤ _; rw [List.length_set]; exact mok.many⟩, fun n hn => ⟨fun x hx y hy => ?_, Nat.le_trans a6 (Nat.succ_le_succ hn.2)⟩⟩
        · rcases List.mem_or_eq_of_mem_set hx with z | z
          · exact mok.hands x z
          · rw [z]
            exact b1
        · rcases List.mem_or_eq_of_mem_set hx with z | z
          · exact Nat.le_trans (hn.1 x z y hy) (Nat.le_succ _)
          · rw [z] at hy
            exact b2 (n + 1) (a7 n (hn.1 _ hmem f List.mem_cons_self) fun x hx => hn.1 _ hmem x (List.mem_cons_of_mem _ hx)) y hy
end
end S
set_option Elab.async false
set_option linter.all false
set_option maxRecDepth 100000
set_option maxHeartbeats 4000000
namespace S
open PySem PySem.Spec PyProof.Rows L2
structure Fn where
  params : Nat
  names : Nat
  body : Body
structure Prog where
  cells : List Int
  funs : List Fn
  hands : List Nat
def FnAt (K : PySem.W.Frag) (G : Hp) (v : V) (f : Fn) : Prop := ∃ a ba ys, v = .ref a ∧ SqT K G a [.int (f.params : Nat), .int (f.names : Nat), .ref ba] ∧ SqT K G ba ys ∧ DeedsAt K G ys f.body
inductive FnsAt (K : PySem.W.Frag) (G : Hp) : List V → List Fn → Prop
  | nil : FnsAt K G [] []
  | cons {v : V} {vs : List V} {f : Fn} {fs : List Fn} : FnAt K G v f → FnsAt K G vs fs → FnsAt K G (v :: vs) (f :: fs)
structure ProgAt (K : PySem.W.Frag) (G : Hp) (a : Addr) (P : Prog) : Prop where
  ex : ∃ ca fa ha fs, SqT K G a [.ref ca, .ref fa, .ref ha] ∧ SqT K G ca (P.cells.map V.int) ∧ SqT K G fa fs ∧ FnsAt K G fs P.funs ∧ SqT K G ha (P.hands.map fun h => V.int (h : Nat))
theorem FnsAt.length {K : PySem.W.Frag} {G : Hp} : ∀ {vs : List V} {fs : List Fn}, FnsAt K G vs fs → vs.length = fs.length
  | _, _, .nil => rfl
  | _, _, .cons _ t => by rw [List.length_cons, List.length_cons, t.length]
theorem FnsAt.get {K : PySem.W.Frag} {G : Hp} : ∀ {vs : List V} {fs : List Fn} {i : Nat} {v : V}, FnsAt K G vs fs → vs[i]? = some v → ∃ f, fs[i]? = some f ∧ FnAt K G v f
  | _, _, _, _, .nil, h => by simp at h
  | _, _, 0, _, .cons h _, e => by
    simp at e
    exact ⟨_, rfl, e ▸ h⟩
  | _, _, i + 1, _, .cons _ t, e => by
    rw [List.getElem?_cons_succ] at e
    obtain ⟨f, h1, h2⟩ := t.get e
    exact ⟨f, by rw [List.getElem?_cons_succ]; exact h1, h2⟩
theorem FnAt.mono {K : PySem.W.Frag} {G G' : Hp} (e : Same G G') {v : V} {f : Fn} (h : FnAt K G v f) : FnAt K G' v f := by
  obtain ⟨a, ba, ys, h1, h2, h3, h4⟩ := h
  exact ⟨a, ba, ys, h1, same_seqT e h2, same_seqT e h3, h4.mono e⟩
theorem FnsAt.mono {K : PySem.W.Frag} {G G' : Hp} (e : Same G G') : ∀ {vs : List V} {fs : List Fn}, FnsAt K G vs fs → FnsAt K G' vs fs
  | _, _, .nil => .nil
  | _, _, .cons h t => .cons (h.mono e) (t.mono e)
theorem ProgAt.mono {K : PySem.W.Frag} {G G' : Hp} (e : Same G G') {a : Addr} {P : Prog} (h : ProgAt K G a P) : ProgAt K G' a P := by
  obtain ⟨ca, fa, ha, fs, h1, h2, h3, h4, h5⟩ := h.ex
  exact ⟨ca, fa, ha, fs, same_seqT e h1, same_seqT e h2, same_seqT e h3, h4.mono e, same_seqT e h5⟩
def Prog.bodies (P : Prog) : List Body := P.funs.map Fn.body
def Prog.env (P : Prog) : Env := ⟨(layFuns 0 P.bodies 0).2, (layFuns 0 P.bodies 0).1, P.funs.map Fn.names, P.cells.length⟩
def Prog.start (P : Prog) : Mch := ⟨P.hands.map fun h => settleH P.env.tbl [P.env.begun h []], P.cells, [], 0⟩
def Body.things : Body → Nat
  | .nil => 0
  | .set _ p r => p.size + r.things + 1
  | .put _ p r => p.size + r.things + 1
  | .say p r => p.size + r.things + 1
  | .iff p a b r => p.size + a.things + b.things + r.things + 1
  | .again p b r => p.size + b.things + r.things + 1
  | .call _ ps _ r => (ps.map Part.size).sum + r.things + 1
  | .ret p r => p.size + r.things + 1
def Part.deep : Part → Nat
  | .bin _ a b => max a.deep b.deep + 1
  | _ => 0
def Body.above : Body → Nat
  | .nil => 0
  | .set _ p r => max (p.deep + 1) r.above
  | .put _ p r => max (p.deep + 1) r.above
  | .say p r => max (p.deep + 1) r.above
  | .iff p a b r => max (max (p.deep + 1) (max (a.above + 1) (b.above + 1))) r.above
  | .again p b r => max (max (p.deep + 1) (b.above + 1)) r.above
  | .call _ ps _ r => max ((ps.map fun p => p.deep + 1).foldr max 0) r.above
  | .ret p r => max (p.deep + 1) r.above
def Body.ok (nms : List Nat) (pms : List Nat) (nc n : Nat) : Body → Prop
  | .nil => True
  | .set k p r => k < n ∧ p.ok n nc ∧ Body.ok nms pms nc n r
  | .put k p r => k < nc ∧ p.ok n nc ∧ Body.ok nms pms nc n r
  | .say p r => p.ok n nc ∧ Body.ok nms pms nc n r
  | .iff p a b r => p.ok n nc ∧ Body.ok nms pms nc n a ∧ Body.ok nms pms nc n b ∧ Body.ok nms pms nc n r
  | .again p b r => p.ok n nc ∧ Body.ok nms pms nc n b ∧ Body.ok nms pms nc n r
  | .call f ps k r => f < nms.length ∧ ps.length = pms.getD f 0 ∧ k < n ∧ (∀ p ∈ ps, p.ok n nc) ∧ Body.ok nms pms nc n r
  | .ret p r => p.ok n nc ∧ Body.ok nms pms nc n r
structure Prog.Ok (P : Prog) : Prop where
  cells : 1 ≤ P.cells.length ∧ P.cells.length ≤ 8
  held : Held P.cells
  funs : 1 ≤ P.funs.length ∧ P.funs.length ≤ 4
  names : ∀ f ∈ P.funs, f.params ≤ f.names ∧ f.names ≤ 4
  hands : 1 ≤ P.hands.length ∧ P.hands.length ≤ 3
  hand : ∀ h ∈ P.hands, ∃ f, P.funs[h]? = some f ∧ f.params = 0
  bodies : ∀ f ∈ P.funs, f.body.ok (P.funs.map Fn.names) (P.funs.map Fn.params) P.cells.length f.names
  things : (P.funs.map fun f => f.body.things).sum ≤ 100
  above : ∀ f ∈ P.funs, f.body.above ≤ 7
def sp_check_program (K : PySem.W.Frag) : Sp := fun vs H Q _ => ∃ (F : Hp) (a : Addr) (P : Prog), vs = [.ref a] ∧ Same F H ∧ ProgAt K F a P ∧ P.Ok ∧ ∀ H', Same H H' → Q .non H'
def sp_check_count (K : PySem.W.Frag) : Sp := fun vs H Q _ => ∃ n : Nat, vs = [.int (n : Nat)] ∧ n ≤ 2000 ∧ Q .non H
def sp_Machine_init (K : PySem.W.Frag) : Sp := fun vs H Q _ => ∃ (F : Hp) (x dx a : Addr) (P : Prog) (rr : Reg), vs = [.ref x, .ref a] ∧ Sat F ((x, .ins (He.ga K "Machine") dx []) :: rr) H ∧ ProgAt K F a P ∧ P.Ok ∧
  ∀ (F' G : Hp) (da : Nat → Addr) (g : GM) (H' : Hp), Same F F' → g.a = x → g.m = P.start → Same G F' → EnvAt K G da P.env g.na g.lo → g.Wf K G da → Sat F' (g.reg K ++ rr) H' → Q .non H'
def runM (e : Env) : Nat → Mch → Mch × Nat
  | 0, m => (m, 0)
  | n + 1, m => match m.next with
    | none => (m, 0)
    | some _ => let r := runM e n (m.doNext e); (r.1, r.2 + 1)
def sp_plain (K : PySem.W.Frag) : Sp := fun vs H Q _ => ∃ (F : Hp) (a : Addr) (P : Prog) (n : Nat), vs = [.ref a, .int (n : Nat)] ∧ Same F H ∧ ProgAt K F a P ∧ P.Ok ∧ n ≤ 2000 ∧
  ∀ (t sp he : Addr) (ts : List Addr) (H' : Hp), let m := runM P.env n P.start
    ts.length = m.1.said.length → Sat F ((t, .tup [.ref sp, .ref he, .bl m.1.next.isNone, .int (m.2 : Nat)]) :: (sp, .lst (ts.map V.ref)) :: (he, .lst (m.1.held.map V.int)) :: saidR ts m.1.said) H' → Q (.ref t) H'
end S
set_option Elab.async false
set_option linter.all false
set_option maxRecDepth 100000
namespace S
open PySem PySem.Spec PyProof.Rows L2
def n_Machine_init : List Str := ["self", "program", "cells", "funs", "hands", "fun"]
def t_Machine_init (K : PySem.W.Frag) : TS :=
    (tSeq (tDrop (tCall (sp_check_program K) [] E0 (tCons (tVar 1) tNil)))
    (tSeq (tAsg (tVar 1) (gTup K 3 (gCons (gName 2) (gCons (gName 3) (gCons (gName 4) gNil)))))
    (tSeq (sFld K (tVar 0) (tLc (iTup K (tVar 3)) (gName 5) tYes (tOp (rIxT K) (tVar 5) (tC (.int 1))) [5]) "names_of")
    (tSeq (sFld K (tVar 0) (tMake (He.ga K "Layout") (sp_Layout_init K) [] E0 (tCons (tVar 3) tNil)) "layout")
    (tSeq (sFld K (tVar 0) (tCB (Evl.rListS K) (tCons (tVar 2) tNil)) "held")
    (tSeq (sFld K (tVar 0) (tLst tNil) "spoken")
    (tSeq (sFld K (tVar 0) (tLc (iTup K (tVar 4)) (gName 5) tYes (tMake (He.ga K "Hand") (sp_Hand_init K) [] E0 (tCons (tMeth (He.ga K "Machine") "_begun" (sp_Machine__begun K) [] E0 (tVar 0) (tCons (tVar 5) (tCons (tLst tNil) tNil))) tNil)) [5]) "hands")
    (sFld K (tVar 0) (tC (.int 0)) "up"))))))))
def n_plain : List Str := ["program", "many", "machine", "done"]
def t_plain (K : PySem.W.Frag) : TS :=
    (tSeq (tAsg (tMake (He.ga K "Machine") (sp_Machine_init K) [] E0 (tCons (tVar 0) tNil)) (gName 2))
    (tSeq (tDrop (tCall (sp_check_count K) [] E0 (tCons (tVar 1) tNil)))
    (tSeq (tAsg (tC (.int 0)) (gName 3))
    (tSeq (tWhile (tAnd (tTest (tOp (rI0 fun i j => .bl (decide (i < j))) (tVar 3) (tVar 1))) (tNot (tB (tMeth (He.ga K "Machine") "all_ended" (sp_Machine_all_ended K) [] E0 (tVar 2) tNil))))
      (tSeq (tDrop (tMeth (He.ga K "Machine") "do_next" (sp_Machine_do_next K) [] E0 (tVar 2) tNil))
      (tAug 3 (tC (.int 1)) (ipI fun i j => i + j))))
    (tRet (tTup (tCons (tFld K (tVar 2) "spoken") (tCons (tFld K (tVar 2) "held") (tCons (tMeth (He.ga K "Machine") "all_ended" (sp_Machine_all_ended K) [] E0 (tVar 2) tNil) (tCons (tVar 3) tNil))))))))))
end S
set_option Elab.async false
set_option linter.all false
set_option maxRecDepth 100000
set_option maxHeartbeats 4000000
namespace S
open PySem PySem.Spec PyProof.Rows L2
section
variable {K : PySem.W.Frag}
theorem le_sum : ∀ {l : List Nat} {x : Nat}, x ∈ l → x ≤ l.sum
  | y :: l, x, h => by
    rw [List.sum_cons]
    rcases List.mem_cons.mp h with z | z
    · rw [z]
      exact Nat.le_add_right _ _
    · exact Nat.le_trans (le_sum z) (Nat.le_add_left _ _)
theorem lay_ok (e : Env) (pms : List Nat) (fn : Nat) (hp : ∀ g, g < e.nms.length → pms.getD g 0 ≤ e.many g) : ∀ (b : Body) (n : Nat), b.ok e.nms pms e.nc (e.many fn) → b.things ≤ 5000 → (∀ (j : Nat) (i : DInfo), (lay fn b n).2[j]? = some i → e.tbl[n + j]? = some i) →
    e.places fn (lay fn b n).1 ∧ ∀ i ∈ (lay fn b n).2, i.fn = fn ∧ e.told i := by
  have step : ∀ (b r : Body) (t : Told) (ins : List Body) (n : Nat), b.step = some (t, ins, r) → (∀ (j : Nat) (i : DInfo), (lay fn b n).2[j]? = some i → e.tbl[n + j]? = some i) →
      (∀ (j : Nat) (i : DInfo), (lay fn r (n + 1 + manyAll ins)).2[j]? = some i → e.tbl[n + 1 + manyAll ins + j]? = some i) ∧ (∀ (j : Nat) (i : DInfo), (layAll fn ins (n + 1)).2[j]? = some i → e.tbl[n + 1 + j]? = some i) ∧
      e.tbl[n]? = some ⟨fn, t, (layAll fn ins (n + 1)).1⟩ := by
    intro b r t ins n hs h
    obtain ⟨_, el⟩ := lay_step fn hs n
    rw [el] at h
    refine ⟨fun j i hi => ?_, fun j i hi => ?_, ?_⟩
    · have := h (1 + manyAll ins + j) i (by
        have e1 : 1 + manyAll ins + j = (manyAll ins + j) + 1 := by omega
        rw [e1, List.getElem?_cons_succ, List.getElem?_append_right (by rw [layAll_len]; omega), layAll_len, Nat.add_sub_cancel_left]
        exact hi)
      rw [← this]
      congr 1
      omega
    · have := h (j + 1) i (by
        rw [List.getElem?_cons_succ, List.getElem?_append_left (List.getElem?_eq_some_iff.mp hi).1]
        exact hi)
      rw [← this]
      congr 1
      omega
    · exact h 0 _ rfl
  have simple : ∀ (b r : Body) (t : Told) (n : Nat), b.step = some (t, [], r) → e.told ⟨fn, t, []⟩ → (∀ (j : Nat) (i : DInfo), (lay fn b n).2[j]? = some i → e.tbl[n + j]? = some i) →
      ((∀ (j : Nat) (i : DInfo), (lay fn r (n + 1)).2[j]? = some i → e.tbl[n + 1 + j]? = some i) → e.places fn (lay fn r (n + 1)).1 ∧ ∀ i ∈ (lay fn r (n + 1)).2, i.fn = fn ∧ e.told i) →
      e.places fn (lay fn b n).1 ∧ ∀ i ∈ (lay fn b n).2, i.fn = fn ∧ e.told i := by
    intro b r t n hs ht h ih
    obtain ⟨s1, _, s3⟩ := step b r t [] n hs h
    obtain ⟨h1, h2⟩ := ih s1
    obtain ⟨_, el⟩ := lay_step fn hs n
    rw [el]
    refine ⟨fun p hp => ?_, fun i hi => ?_⟩
    · rcases List.mem_cons.mp hp with z | z
      · rw [z]
        exact ⟨_, s3, rfl⟩
      · exact h1 p z
    · rcases List.mem_cons.mp hi with z | z
      · rw [z]
        exact ⟨rfl, ht⟩
      · exact h2 i z
  intro b
  induction b with
  | nil => exact fun n _ _ _ => ⟨(fun p hp => nomatch hp), (fun i hi => nomatch hi)⟩
  | set k p r ih => exact fun n ho hz h => simple _ r _ n rfl ⟨ho.1, ho.2.1, by simp only [Body.things] at hz; omega⟩ h (ih (n + 1) ho.2.2 (by simp only [Body.things] at hz; omega))
  | put k p r ih => exact fun n ho hz h => simple _ r _ n rfl ⟨ho.1, ho.2.1, by simp only [Body.things] at hz; omega⟩ h (ih (n + 1) ho.2.2 (by simp only [Body.things] at hz; omega))
  | say p r ih => exact fun n ho hz h => simple _ r _ n rfl ⟨ho.1, by simp only [Body.things] at hz; omega⟩ h (ih (n + 1) ho.2 (by simp only [Body.things] at hz; omega))
  | ret p r ih => exact fun n ho hz h => simple _ r _ n rfl ⟨ho.1, by simp only [Body.things] at hz; omega⟩ h (ih (n + 1) ho.2 (by simp only [Body.things] at hz; omega))
  | call g ps k r ih =>
    exact fun n ho hz h => simple _ r _ n rfl ⟨ho.1, by rw [ho.2.1]; exact hp g ho.1, ho.2.2.1, fun p hpp => ⟨ho.2.2.2.1 p hpp, by
      simp only [Body.things] at hz
      have : p.size ≤ (ps.map Part.size).sum := le_sum (List.mem_map.mpr ⟨p, hpp, rfl⟩)
      omega⟩⟩ h (ih (n + 1) ho.2.2.2.2 (by simp only [Body.things] at hz; omega))
  | iff p a b r iha ihb ihr =>
    intro n ho hz h
    simp only [Body.things] at hz
    obtain ⟨s1, s2, s3⟩ := step _ r _ [a, b] n rfl h
    obtain ⟨_, el⟩ := lay_step fn (show (Body.iff p a b r).step = some (.iff p, [a, b], r) from rfl) n
    obtain ⟨a1, a2⟩ := iha (n + 1) ho.2.1 (by omega) fun j i hi => s2 j i (by
      show ((lay fn a (n + 1)).2 ++ _)[j]? = _
      rw [List.getElem?_append_left (List.getElem?_eq_some_iff.mp hi).1]
      exact hi)
    obtain ⟨b1, b2⟩ := ihb (n + 1 + a.many) ho.2.2.1 (by omega) fun j i hi => by
      have := s2 (a.many + j) i (by
        show ((lay fn a (n + 1)).2 ++ ((lay fn b (n + 1 + a.many)).2 ++ []))[a.many + j]? = _
        rw [List.getElem?_append_right (by rw [lay_len]; omega), lay_len, Nat.add_sub_cancel_left, List.append_nil]
        exact hi)
      rw [← this]
      congr 1
      omega
    obtain ⟨r1, r2⟩ := ihr _ ho.2.2.2 (by omega) s1
    rw [el]
    refine ⟨fun q hq => ?_, fun i hi => ?_⟩
    · rcases List.mem_cons.mp hq with z | z
      · rw [z]
        exact ⟨_, s3, rfl⟩
      · exact r1 q z
    · rcases List.mem_cons.mp hi with z | z
      · rw [z]
        exact ⟨rfl, ⟨ho.1, by omega⟩, _, _, rfl, a1, b1⟩
      · rcases List.mem_append.mp z with z | z
        · have z' : i ∈ (lay fn a (n + 1)).2 ++ ((lay fn b (n + 1 + a.many)).2 ++ []) := z
          rcases List.mem_append.mp z' with z | z
          · exact a2 i z
          · exact b2 i (by simpa using z)
        · exact r2 i z
  | again p b r ihb ihr =>
    intro n ho hz h
    simp only [Body.things] at hz
    obtain ⟨s1, s2, s3⟩ := step _ r _ [b] n rfl h
    obtain ⟨_, el⟩ := lay_step fn (show (Body.again p b r).step = some (.again p, [b], r) from rfl) n
    obtain ⟨b1, b2⟩ := ihb (n + 1) ho.2.1 (by omega) fun j i hi => s2 j i (by
      show ((lay fn b (n + 1)).2 ++ [])[j]? = _
      rw [List.append_nil]
      exact hi)
    obtain ⟨r1, r2⟩ := ihr _ ho.2.2 (by omega) s1
    rw [el]
    refine ⟨fun q hq => ?_, fun i hi => ?_⟩
    · rcases List.mem_cons.mp hq with z | z
      · rw [z]
        exact ⟨_, s3, rfl⟩
      · exact r1 q z
    · rcases List.mem_cons.mp hi with z | z
      · rw [z]
        exact ⟨rfl, ⟨ho.1, by omega⟩, _, rfl, b1⟩
      · rcases List.mem_append.mp z with z | z
        · have z' : i ∈ (lay fn b (n + 1)).2 ++ [] := z
          exact b2 i (by simpa using z')
        · exact r2 i z
theorem layFuns_seg (bs : List Body) : ∀ (k n : Nat) (j : Nat) (b : Body), bs[j]? = some b → (layFuns k bs n).1[j]? = some (lay (k + j) b (n + manyAll (bs.take j))).1 ∧
    ∀ (q : Nat) (i : DInfo), (lay (k + j) b (n + manyAll (bs.take j))).2[q]? = some i → (layFuns k bs n).2[manyAll (bs.take j) + q]? = some i := by
  induction bs with
  | nil => exact fun _ _ j b h => by simp at h
  | cons c bs ih =>
    intro k n j b h
    cases j with
    | zero =>
      have : c = b := by simpa using h
      subst this
      refine ⟨rfl, fun q i hi => ?_⟩
      have e0 : manyAll ((c :: bs).take 0) = 0 := rfl
      rw [e0] at hi ⊢
      rw [Nat.zero_add]
      have hi' : (lay k c n).2[q]? = some i := hi
      show ((lay k c n).2 ++ _)[q]? = _
      rw [List.getElem?_append_left (List.getElem?_eq_some_iff.mp hi').1]
      exact hi'
    | succ j =>
      rw [List.getElem?_cons_succ] at h
      obtain ⟨h1, h2⟩ := ih (k + 1) (n + c.many) j b h
      have e0 : manyAll ((c :: bs).take (j + 1)) = c.many + manyAll (bs.take j) := rfl
      have e1 : k + 1 + j = k + (j + 1) := by omega
      rw [e1, Nat.add_assoc] at h1 h2
      rw [e0]
      refine ⟨?_, fun q i hi => ?_⟩
      · show ((lay k c n).1 :: (layFuns (k + 1) bs (n + c.many)).1)[j + 1]? = _
        rw [List.getElem?_cons_succ]
        exact h1
      · show ((lay k c n).2 ++ (layFuns (k + 1) bs (n + c.many)).2)[c.many + manyAll (bs.take j) + q]? = _
        rw [List.getElem?_append_right (by rw [lay_len]; omega), lay_len]
        have := h2 q i hi
        rw [← this]
        congr 1
        omega
theorem layFuns_which : ∀ (bs : List Body) (k n p : Nat) (i : DInfo), (layFuns k bs n).2[p]? = some i → ∃ (j : Nat) (b : Body) (q : Nat), bs[j]? = some b ∧ (lay (k + j) b (n + manyAll (bs.take j))).2[q]? = some i ∧ i ∈ (lay (k + j) b (n + manyAll (bs.take j))).2
  | [], _, _, p, i, h => by simp [layFuns] at h
  | c :: bs, k, n, p, i, h => by
    have h' : ((lay k c n).2 ++ (layFuns (k + 1) bs (n + c.many)).2)[p]? = some i := h
    by_cases hp : p < (lay k c n).2.length
    · rw [List.getElem?_append_left hp] at h'
      exact ⟨0, c, p, rfl, h', List.mem_of_getElem? h'⟩
    · rw [List.getElem?_append_right (by omega)] at h'
      obtain ⟨j, b, q, h1, h2, h3⟩ := layFuns_which bs (k + 1) (n + c.many) _ i h'
      have e1 : k + 1 + j = k + (j + 1) := by omega
      rw [e1, Nat.add_assoc] at h2 h3
      exact ⟨j + 1, b, q, by rw [List.getElem?_cons_succ]; exact h1, h2, h3⟩
theorem env_ok {P : Prog} (h : P.Ok) : P.env.Ok := by
  have hlen : P.env.bods.length = P.env.nms.length := by
    show (layFuns 0 P.bodies 0).1.length = (P.funs.map Fn.names).length
    rw [layFuns_len1, List.length_map]
    exact List.length_map ..
  have hmany : ∀ (j : Nat) (f : Fn), P.funs[j]? = some f → P.env.many j = f.names ∧ (P.funs.map Fn.params).getD j 0 = f.params := by
    intro j f hf
    constructor
    · show (P.funs.map Fn.names).getD j 0 = _
      rw [List.getD_eq_getElem?_getD, List.getElem?_map, hf]
      rfl
    · rw [List.getD_eq_getElem?_getD, List.getElem?_map, hf]
      rfl
  have hp : ∀ g, g < P.env.nms.length → (P.funs.map Fn.params).getD g 0 ≤ P.env.many g := by
    intro g hg
    have hg' : g < P.funs.length := by
      have : P.env.nms.length = P.funs.length := List.length_map ..
      omega
    obtain ⟨e1, e2⟩ := hmany g P.funs[g] (List.getElem?_eq_getElem hg')
    rw [e1, e2]
    exact (h.names _ (List.getElem_mem hg')).1
  have body : ∀ (j : Nat) (b : Body), P.bodies[j]? = some b → ∃ f : Fn, P.funs[j]? = some f ∧ b = f.body ∧ b.ok P.env.nms (P.funs.map Fn.params) P.env.nc (P.env.many j) ∧ b.things ≤ 5000 := by
    intro j b hb
    have hb' : (P.funs.map Fn.body)[j]? = some b := hb
    rw [List.getElem?_map] at hb'
    cases ef : P.funs[j]? with
    | none =>
      rw [ef] at hb'
      cases hb'
    | some f =>
      rw [ef] at hb'
      have eb : f.body = b := by simpa using hb'
      subst eb
      have hm := List.mem_of_getElem? ef
      refine ⟨f, rfl, rfl, ?_, ?_⟩
      · rw [(hmany j f ef).1]
        exact h.bodies f hm
      · have h1 := h.things
        have h2 := le_sum (List.mem_map.mpr ⟨f, hm, rfl⟩ : f.body.things ∈ P.funs.map fun f => f.body.things)
        omega
  have seg : ∀ (j : Nat) (b : Body), P.bodies[j]? = some b → P.env.places j (lay j b (manyAll (P.bodies.take j))).1 ∧ ∀ i ∈ (lay j b (manyAll (P.bodies.take j))).2, i.fn = j ∧ P.env.told i := by
    intro j b hb
    obtain ⟨f, hf, _, hbok, hbt⟩ := body j b hb
    obtain ⟨_, h2⟩ := layFuns_seg P.bodies 0 0 j b hb
    rw [Nat.zero_add, Nat.zero_add] at h2
    exact lay_ok P.env _ j hp b _ hbok hbt h2
  refine ⟨hlen, fun p i hi => ?_, fun j pl hj => ?_, fun n hn => ?_⟩
  · obtain ⟨j, b, q, hb, hq, hm⟩ := layFuns_which P.bodies 0 0 p i hi
    rw [Nat.zero_add, Nat.zero_add] at hm
    obtain ⟨_, h2⟩ := seg j b hb
    obtain ⟨e1, e2⟩ := h2 i hm
    refine ⟨?_, e2⟩
    rw [e1]
    have := (List.getElem?_eq_some_iff.mp hb).1
    have e3 : P.bodies.length = P.funs.length := List.length_map ..
    show j < (P.funs.map Fn.names).length
    rw [List.length_map]
    omega
  · have lt := (List.getElem?_eq_some_iff.mp hj).1
    have lt' : j < P.bodies.length := by
      have : P.env.bods.length = P.bodies.length := layFuns_len1 ..
      omega
    obtain ⟨h1, _⟩ := layFuns_seg P.bodies 0 0 j P.bodies[j] (List.getElem?_eq_getElem lt')
    have h1' : P.env.bods[j]? = _ := h1
    rw [hj, Nat.zero_add, Nat.zero_add] at h1'
    rw [Option.some.inj h1']
    exact (seg j _ (List.getElem?_eq_getElem lt')).1
  · obtain ⟨f, hf, rfl⟩ := List.mem_map.mp hn
    have := (h.names f hf).2
    omega
theorem start_ok {P : Prog} (h : P.Ok) : P.start.Ok P.env ∧ P.start.Big 1 := by
  have ok := env_ok h
  have one : ∀ fs ∈ P.start.hands, HandOk P.env fs ∧ ∀ f ∈ fs, f.bs.length ≤ 1 := by
    intro fs hfs
    obtain ⟨k, hk, rfl⟩ := List.mem_map.mp hfs
    obtain ⟨f, hf, hf0⟩ := h.hand k hk
    have lt := (List.getElem?_eq_some_iff.mp hf).1
    have hb : FrmOk P.env (P.env.begun k []) := FrmOk.begun ok (by show k < (P.funs.map Fn.names).length; rw [List.length_map]; exact lt) (fun i hi => nomatch hi) (Nat.zero_le _)
    obtain ⟨h1, h2⟩ := settleH_ok [P.env.begun k []] (fun x hx => by
      have : x = P.env.begun k [] := by simpa using hx
      rw [this]
      exact hb) (fun x hx => nomatch hx) (show 1 ≤ 20 by decide)
    exact ⟨h1, h2 1 fun x hx => by
      have : x = P.env.begun k [] := by simpa using hx
      rw [this]
      exact Nat.le_refl _⟩
  exact ⟨⟨fun fs hfs => (one fs hfs).1, h.held, rfl, by show (P.hands.map _).length ≤ 1000; rw [List.length_map]; have := h.hands.2; omega⟩, fun fs hfs => (one fs hfs).2, Nat.zero_le _⟩
end
end S
set_option Elab.async false
set_option linter.all false
set_option maxRecDepth 100000
set_option maxHeartbeats 4000000
namespace S
open PySem PySem.Spec PyProof.Rows L2
section
variable {K : PySem.W.Frag}
theorem depth_above : ∀ b : Body, b.depth ≤ b.above
  | .nil => Nat.le_refl _
  | .set _ p r => by have := depth_above r; simp only [Body.depth, Body.above]; omega
  | .put _ p r => by have := depth_above r; simp only [Body.depth, Body.above]; omega
  | .say p r => by have := depth_above r; simp only [Body.depth, Body.above]; omega
  | .iff p a b r => by have := depth_above r; have := depth_above a; have := depth_above b; simp only [Body.depth, Body.above]; omega
  | .again p b r => by have := depth_above r; have := depth_above b; simp only [Body.depth, Body.above]; omega
  | .call _ ps _ r => by have := depth_above r; simp only [Body.depth, Body.above]; omega
  | .ret p r => by have := depth_above r; simp only [Body.depth, Body.above]; omega
theorem many_things : ∀ b : Body, b.many ≤ b.things
  | .nil => Nat.le_refl _
  | .set _ p r => by have := many_things r; simp only [Body.many, Body.things]; omega
  | .put _ p r => by have := many_things r; simp only [Body.many, Body.things]; omega
  | .say p r => by have := many_things r; simp only [Body.many, Body.things]; omega
  | .iff p a b r => by have := many_things r; have := many_things a; have := many_things b; simp only [Body.many, Body.things]; omega
  | .again p b r => by have := many_things r; have := many_things b; simp only [Body.many, Body.things]; omega
  | .call _ ps _ r => by have := many_things r; simp only [Body.many, Body.things]; omega
  | .ret p r => by have := many_things r; simp only [Body.many, Body.things]; omega
theorem manyAll_le : ∀ fs : List Fn, manyAll (fs.map Fn.body) ≤ (fs.map fun f => f.body.things).sum
  | [] => Nat.le_refl _
  | f :: fs => by
    have := manyAll_le fs
    have := many_things f.body
    show f.body.many + manyAll (fs.map Fn.body) ≤ f.body.things + (fs.map fun f => f.body.things).sum
    omega
theorem rd_Machine_init (T : Fx K) (vs : List V) (H : Hp) (Q : VK) (E : XK) (h : sp_Machine_init K vs H Q E) : t_Machine_init K { nx := fun _ H' => Q .non H', rt := Q } (start n_Machine_init vs) H := by
  obtain ⟨F, x, dx, a, P, rr, rfl, s0, hP, ok, q⟩ := h
  refine sq_drop ?_
  refine ⟨_, rfl, F, a, P, rfl, s0.fr, hP, ok, fun H1 e1 => ?_⟩
  have s1 := s0.grow e1
  obtain ⟨ca, fa, ha, fs, hpa, hca, hfa, hfs, hha⟩ := hP.ex
  refine st_seq (st_asgI ?_)
  refine ⟨_, rfl, a, _, rfl, same_seqT s1.fr hpa, rfl, _, _, rfl, _, _, rfl, _, _, rfl, rfl, ?_⟩
  dsimp only [List.set]
  have v0 : ∀ (H : Hp) (y : Option V), Val (tVar 0) [some (.ref x), some (.ref a), some (.ref ca), some (.ref fa), some (.ref ha), y] H (.ref x) := fun H y => val_var rfl
  refine ⟨_, rfl, fa, rfl, ⟨fs, same_seqT s1.fr hfa⟩, fun na hna => ?_⟩
  have s2 := s1.new (o := .lst []) hna
  have hnf : P.funs.length ≤ 4 := ok.funs.2
  refine lc_tup (K := K) (fun j H' => Sat F ((na, .lst ((P.funs.take j).map fun f => V.int (f.names : Nat))) :: (x, .ins (He.ga K "Machine") dx []) :: rr) H') s2 (fun j H' _ w => same_seqT w.fr hfa) ?_ ?_
  · rintro j v H2 hv w
    obtain ⟨f, hf, fa', ba, ys, rfl, h1, h2, h3⟩ := hfs.get hv
    refine ⟨rfl, ?_⟩
    unfold tYes
    refine Eq.mpr (if_pos rfl) ?_
    refine ⟨_, rfl, fa', _, 1, _, rfl, rfl, same_seqT w.fr h1, atI_nat (j := 1) rfl, ?_⟩
    refine ⟨_, w.get List.mem_cons_self, ?_, ?_⟩
    · rw [List.length_map, List.length_take]
      exact Nat.lt_of_le_of_lt (by omega : _ ≤ 4) (by decide)
    · have et : P.funs.take (j + 1) = P.funs.take j ++ [f] := by
        rw [List.take_succ, hf]
        rfl
      rw [et, List.map_append]
      exact w.put
  intro H2 w
  rw [hfs.length, List.take_length] at w
  have w1 := w.perm (List.Perm.swap _ _ _)
  refine ⟨_, rfl, x, _, dx, _, rfl, w1.get List.mem_cons_self, T.cls_Machine, T.na_Machine_names_of, (by show 0 < 1000; decide), ?_⟩
  have s3 := w1.put (u := .ins (He.ga K "Machine") dx [("names_of", .ref na)])
  have eO1 : (HO.ins (He.ga K "Machine") dx (putF "names_of" (.ref na) [])) = .ins (He.ga K "Machine") dx [("names_of", .ref na)] := rfl
  rw [eO1]
  generalize upd H2 x _ = H3 at s3 ⊢
  dsimp only
  refine ⟨_, rfl, ?_⟩
  intro lo lx hlo hlx ne
  have s4 := s3.make (x := lo) (dx := lx) (o := .ins (He.ga K "Layout") lx []) (u := .own lo) hlo hlx ne
  generalize upd (upd H3 lx _) lo _ = H4 at s4 ⊢
  have s5 : Sat F (((x, .ins (He.ga K "Machine") dx [("names_of", .ref na)]) :: (na, .lst (P.funs.map fun f => V.int (f.names : Nat))) :: rr) ++ [(lo, .ins (He.ga K "Layout") lx [])]) H4 := s4.perm (by (refine perm_sum fun f => ?_; simp only [List.map_append, List.map_cons, List.map_nil, List.sum_append, List.sum_cons, List.sum_nil]; omega))
  refine ⟨_, F, lo, lx, fa, fs, P.bodies, rfl, same_addR s5.init.off, s5.focus, hfa, by rw [hfs.length]; exact (List.length_map ..).symm, ?_, ?_, ?_, fun R nd dl bl ls H5 hL hLs w5 => ⟨rfl, ?_⟩⟩
  · intro i v b hv hb
    obtain ⟨f, hf, fa', ba, ys, rfl, h1, h2, h3⟩ := hfs.get hv
    have hb' : (P.funs.map Fn.body)[i]? = some b := hb
    rw [List.getElem?_map, hf] at hb'
    have eb : f.body = b := by simpa using hb'
    subst eb
    refine ⟨fa', ba, ys, _, _, rfl, h1, h2, h3, ?_⟩
    have h4 := ok.above f (List.mem_of_getElem? hf)
    have h5 := depth_above f.body
    omega
  · have h4 := manyAll_le P.funs
    have h5 := ok.things
    show manyAll (P.funs.map Fn.body) ≤ 10000
    omega
  · show (P.funs.map Fn.body).length ≤ 100
    rw [List.length_map]
    omega
  have s6 := s5.unfocus w5
  refine ⟨_, rfl, x, _, dx, _, rfl, s6.get (List.mem_append_left _ List.mem_cons_self), T.cls_Machine, T.na_Machine_layout, (by show 1 < 1000; decide), ?_⟩
  have s7 := Sat.put (u := .ins (He.ga K "Machine") dx [("names_of", .ref na), ("layout", .ref lo)]) (show Sat F ((x, _) :: (na, .lst (P.funs.map fun f => V.int (f.names : Nat))) :: (rr ++ ((lo, .ins (He.ga K "Layout") lx [("deeds", .ref dl), ("bodies", .ref bl)]) :: (dl, .lst (nd.map V.ref)) :: (bl, .lst (ls.map V.ref)) :: R))) H5 from s6)
  have eO2 : (HO.ins (He.ga K "Machine") dx (putF "layout" (.ref lo) [("names_of", .ref na)])) = .ins (He.ga K "Machine") dx [("names_of", .ref na), ("layout", .ref lo)] := rfl
  rw [eO2]
  generalize upd H5 x _ = H6 at s7 ⊢
  dsimp only
  refine ⟨_, rfl, ca, _, rfl, .inr (same_seqT s7.fr hca), fun he hhe => ?_⟩
  have s8 := (s7.new (o := .lst (P.cells.map V.int)) hhe).perm (List.Perm.swap _ _ _)
  refine ⟨_, rfl, x, _, dx, _, rfl, s8.get List.mem_cons_self, T.cls_Machine, T.na_Machine_held, (by show 2 < 1000; decide), ?_⟩
  have s9 := s8.put (u := .ins (He.ga K "Machine") dx [("names_of", .ref na), ("layout", .ref lo), ("held", .ref he)])
  have eO3 : (HO.ins (He.ga K "Machine") dx (putF "held" (.ref he) [("names_of", .ref na), ("layout", .ref lo)])) = .ins (He.ga K "Machine") dx [("names_of", .ref na), ("layout", .ref lo), ("held", .ref he)] := rfl
  rw [eO3]
  generalize upd (upd H6 he _) x _ = H7 at s9 ⊢
  dsimp only
  refine ⟨Nat.zero_le _, fun sp hsp => ?_⟩
  have s10 := (s9.new (o := .lst []) hsp).perm (List.Perm.swap _ _ _)
  refine ⟨_, rfl, x, _, dx, _, rfl, s10.get List.mem_cons_self, T.cls_Machine, T.na_Machine_spoken, (by show 3 < 1000; decide), ?_⟩
  have s11 := s10.put (u := .ins (He.ga K "Machine") dx [("names_of", .ref na), ("layout", .ref lo), ("held", .ref he), ("spoken", .ref sp)])
  have eO4 : (HO.ins (He.ga K "Machine") dx (putF "spoken" (.ref sp) [("names_of", .ref na), ("layout", .ref lo), ("held", .ref he)])) = .ins (He.ga K "Machine") dx [("names_of", .ref na), ("layout", .ref lo), ("held", .ref he), ("spoken", .ref sp)] := rfl
  rw [eO4]
  generalize upd (upd H7 sp _) x _ = H8 at s11 ⊢
  dsimp only
  have s12 : Sat F (((na, .lst (P.funs.map fun f => V.int (f.names : Nat))) :: (lo, .ins (He.ga K "Layout") lx [("deeds", .ref dl), ("bodies", .ref bl)]) :: (dl, .lst (nd.map V.ref)) :: (bl, .lst (ls.map V.ref)) :: R) ++
      ((x, .ins (He.ga K "Machine") dx [("names_of", .ref na), ("layout", .ref lo), ("held", .ref he), ("spoken", .ref sp)]) :: (he, .lst (P.cells.map V.int)) :: (sp, .lst []) :: rr)) H8 := s11.perm (by (refine perm_sum fun f => ?_; simp only [List.map_append, List.map_cons, List.map_nil, List.sum_append, List.sum_cons, List.sum_nil]; omega))
  generalize hLR : ((na, HO.lst (P.funs.map fun f => V.int (f.names : Nat))) :: (lo, .ins (He.ga K "Layout") lx [("deeds", .ref dl), ("bodies", .ref bl)]) :: (dl, .lst (nd.map V.ref)) :: (bl, .lst (ls.map V.ref)) :: R : Reg) = LR at s12
  have sub : Same F (addR F LR) := same_addR s12.init.off
  have ndL := s12.init.nd
  have s13 := s12.focus
  obtain ⟨F1, hF1⟩ : ∃ F1, F1 = addR F LR := ⟨_, rfl⟩
  rw [← hF1] at s13 sub
  have atF1 : ∀ e ∈ LR, F1 e.1 = some e.2 := fun e he => by
    rw [hF1]
    exact addR_at ndL he
  obtain ⟨da, hda⟩ : ∃ da : Nat → Addr, ∀ j a, nd[j]? = some a → da j = a := ⟨fun j => nd.getD j 0, fun j a h => by show nd.getD j 0 = a; rw [List.getD_eq_getElem?_getD, h]; rfl⟩
  have cpt : Cpt R 0 nd F F1 da := ⟨sub, fun e he => atF1 e (by rw [← hLR]; simp [he]), fun j a h => by rw [Nat.zero_add]; exact hda j a h⟩
  have env : EnvAt K F1 da P.env na lo := by
    refine ⟨?_, ⟨lx, dl, bl, ls, atF1 (lo, _) (by rw [← hLR]; simp), ?_, SqL.of (atF1 (bl, .lst (ls.map V.ref)) (by rw [← hLR]; simp)), hLs.1, hLs.2 F1 da cpt⟩, fun p i hi => ?_⟩
    · have := SqL.of (K := K) (atF1 (na, .lst (P.funs.map fun f => V.int (f.names : Nat))) (by rw [← hLR]; simp))
      show SqL K F1 na ((P.funs.map Fn.names).map fun n => V.int (n : Nat))
      rw [List.map_map]
      exact this
    · have := SqL.of (K := K) (atF1 (dl, .lst (nd.map V.ref)) (by rw [← hLR]; simp))
      have en : (List.range P.env.tbl.length).map (fun p => V.ref (da p)) = nd.map V.ref := by
        have hl : P.env.tbl.length = nd.length := hL.len.symm
        rw [hl]
        apply List.ext_getElem?
        intro j
        rw [List.getElem?_map, List.getElem?_map]
        by_cases hj : j < nd.length
        · rw [List.getElem?_range hj, List.getElem?_eq_getElem hj]
          simp [hda j nd[j] (List.getElem?_eq_getElem hj)]
        · have h1 : (List.range nd.length)[j]? = none := List.getElem?_eq_none (by simpa using hj)
          have h2 : nd[j]? = none := List.getElem?_eq_none (by omega)
          rw [h1, h2]
          rfl
      rw [en]
      exact this
    · have := hL.ok F1 da cpt p i hi
      rw [Nat.zero_add] at this
      exact this
  have eok := env_ok ok
  have hnh : P.hands.length ≤ 3 := ok.hands.2
  refine ⟨_, rfl, ha, rfl, ⟨_, same_seqT (sub.trans s13.fr) hha⟩, fun D hD => ?_⟩
  have s14 := s13.new (o := .lst []) hD
  generalize hMF : ([("names_of", .ref na), ("layout", .ref lo), ("held", .ref he), ("spoken", .ref sp)] : List (Str × V)) = mf at s14 ⊢
  have m1 : lk mf "names_of" = some (.ref na) := by rw [← hMF]; rfl
  have m2 : lk mf "layout" = some (.ref lo) := by rw [← hMF]; rfl
  have m3 : lk mf "_begun" = none := by rw [← hMF]; rfl
  refine lc_tup (K := K) (fun j H' => ∃ gs : List GH, Sat F1 ((D, .lst (gs.map fun h => V.ref h.a)) :: (x, .ins (He.ga K "Machine") dx mf) :: (he, .lst (P.cells.map V.int)) :: (sp, .lst []) :: (rr ++ gs.flatMap (GH.reg K))) H' ∧
      (∀ h ∈ gs, h.Wf K F1 da) ∧ gs.map GH.m = (P.hands.take j).map fun h => settleH P.env.tbl [P.env.begun h []])
    ⟨[], by simpa using s14, (fun h hh => nomatch hh), rfl⟩ (fun j H' _ ⟨_, w, _⟩ => same_seqT (sub.trans w.fr) hha) ?_ ?_
  · rintro j v H9 hv ⟨gs, w, wf, em⟩
    rw [List.getElem?_map] at hv
    cases eh : P.hands[j]? with
    | none =>
      rw [eh] at hv
      cases hv
    | some k =>
    rw [eh] at hv
    have ev : V.int (k : Nat) = v := by simpa using hv
    subst ev
    obtain ⟨fk, hfk, _⟩ := ok.hand k (List.mem_of_getElem? eh)
    have hkl : k < P.env.nms.length := by
      show k < (P.funs.map Fn.names).length
      rw [List.length_map]
      exact (List.getElem?_eq_some_iff.mp hfk).1
    refine ⟨rfl, ?_⟩
    unfold tYes
    refine Eq.mpr (if_pos rfl) ?_
    have hx9 : H9 x = some (.ins (He.ga K "Machine") dx mf) := w.get (List.mem_cons_of_mem _ List.mem_cons_self)
    have rest := w.off
    refine ⟨_, rfl, x, dx, mf, rfl, hx9, m3, ?_⟩
    refine ⟨_, rfl, Nat.zero_le _, fun hl hhl => ?_⟩
    have w1 := w.new (o := .lst []) hhl
    have w2 : Sat F1 (((D, .lst (gs.map fun h => V.ref h.a)) :: (x, .ins (He.ga K "Machine") dx mf) :: (he, .lst (P.cells.map V.int)) :: (sp, .lst []) :: (rr ++ gs.flatMap (GH.reg K))) ++ [(hl, .lst [])]) (upd H9 hl (.lst [])) := w1.perm (by (refine perm_sum fun f => ?_; simp only [List.map_append, List.map_cons, List.map_nil, List.sum_append, List.sum_cons, List.sum_nil]; omega))
    have sub2 := same_addR (F := F1) w2.init.off
    refine ⟨_, F1, da, P.env, x, na, lo, hl, mf, k, [], rfl, sub2, env, eok, ⟨⟨dx, addR_at w2.init.nd (by simp)⟩, m1, m2⟩, w2.focus, hkl, Nat.zero_le _, m3, fun f H10 ef wff w3 => ?_⟩
    intro y dy hy hdy ne2
    have w4 := w3.make (x := y) (dx := dy) (o := .ins (He.ga K "Hand") dy []) (u := .own y) hy hdy ne2
    refine ⟨_, F1, da, P.env.tbl, y, dy, f, rfl, sub2, env.tbl, w4, wff, fun g' H11 ea em' wf' w5 => ⟨rfl, ?_⟩⟩
    have w6 := w2.unfocus w5
    have hgl : gs.length ≤ 3 := by
      have h1 : (gs.map GH.m).length = ((P.hands.take j).map fun h => settleH P.env.tbl [P.env.begun h []]).length := by rw [em]
      rw [List.length_map, List.length_map, List.length_take] at h1
      omega
    refine ⟨_, w6.get (List.mem_append_left _ List.mem_cons_self), ?_, gs ++ [g'], ?_, fun h hh => ?_, ?_⟩
    · rw [List.length_map]
      exact Nat.lt_of_le_of_lt hgl (by decide)
    · have w7 := Sat.put (u := .lst ((gs.map fun h => V.ref h.a) ++ [V.ref y])) (show Sat F1 ((D, _) :: _) H11 from w6)
      have e7 : ((gs ++ [g']).map fun h => V.ref h.a) = (gs.map fun h => V.ref h.a) ++ [V.ref y] := by
        rw [List.map_append, ← ea]
        rfl
      rw [e7, List.flatMap_append, List.flatMap_cons, List.flatMap_nil, List.append_nil, ← List.append_assoc]
      exact w7
    · rcases List.mem_append.mp hh with z | z
      · exact wf h z
      · have : h = g' := by simpa using z
        rw [this]
        exact wf'
    · have et : P.hands.take (j + 1) = P.hands.take j ++ [k] := by
        rw [List.take_succ, eh]
        rfl
      rw [List.map_append, em, et, List.map_append]
      show _ ++ [g'.m] = _ ++ [_]
      rw [em', ef]
  intro H9 hw
  obtain ⟨gs, w, wf, em⟩ := hw
  rw [List.length_map, List.take_length] at em
  have w1 := w.perm (List.Perm.swap _ _ _)
  refine ⟨_, rfl, x, _, dx, _, rfl, w1.get List.mem_cons_self, T.cls_Machine, T.na_Machine_hands, (by rw [← hMF]; show 4 < 1000; decide), ?_⟩
  have w2 := w1.put (u := .ins (He.ga K "Machine") dx (putF "hands" (.ref D) mf))
  refine ⟨_, rfl, x, _, dx, _, rfl, w2.get List.mem_cons_self, T.cls_Machine, T.na_Machine_up, (by rw [← hMF]; show 5 < 1000; decide), ?_⟩
  have w3 := w2.put (u := .ins (He.ga K "Machine") dx (putF "up" (.int 0) (putF "hands" (.ref D) mf)))
  have eg : (HO.ins (He.ga K "Machine") dx (putF "up" (.int 0) (putF "hands" (.ref D) mf))) = mchO K ⟨x, dx, na, lo, he, sp, D, [], gs, P.cells, [], 0⟩ := by
    rw [← hMF]
    rfl
  have w4 := w3
  rw [eg] at w4
  refine q F1 F1 da ⟨x, dx, na, lo, he, sp, D, [], gs, P.cells, [], 0⟩ _ sub rfl ?_ (Same.refl _) env ⟨wf, rfl⟩ ?_
  · show Mch.mk (gs.map GH.m) _ _ _ = _
    rw [em]
    rfl
  · rw [eg]
    refine w4.perm ?_
    unfold GM.reg
    show List.Perm _ (((x, mchO K _) :: (he, HO.lst (P.cells.map V.int)) :: (sp, HO.lst []) :: (D, HO.lst (gs.map fun h => V.ref h.a)) :: (([] : Reg) ++ gs.flatMap (GH.reg K))) ++ rr)
    (refine perm_sum fun f => ?_; simp only [List.map_append, List.map_cons, List.map_nil, List.sum_append, List.sum_cons, List.sum_nil]; omega)
end
end S
set_option Elab.async false
set_option linter.all false
set_option maxRecDepth 100000
set_option maxHeartbeats 4000000
namespace S
open PySem PySem.Spec PyProof.Rows L2
section
variable {K : PySem.W.Frag}
theorem Sat.less {F F' H : Hp} {r : Reg} (s : Sat F' r H) (e : Same F F') : Sat F r H := ⟨e.trans s.fr, s.at_, fun x hx => e.free (s.off x hx), s.nd⟩
theorem runM_none {e : Env} {m : Mch} (h : m.next = none) : ∀ n, runM e n m = (m, 0)
  | 0 => rfl
  | n + 1 => by
    unfold runM
    rw [h]
theorem runM_some {e : Env} {m : Mch} {k : Nat} (h : m.next = some k) (n : Nat) : runM e (n + 1) m = ((runM e n (m.doNext e)).1, (runM e n (m.doNext e)).2 + 1) := by
  conv => lhs; unfold runM
  rw [h]
theorem rd_plain (T : Fx K) (vs : List V) (H : Hp) (Q : VK) (E : XK) (h : sp_plain K vs H Q E) : t_plain K { nx := fun _ H' => Q .non H', rt := Q } (start n_plain vs) H := by
  obtain ⟨F, a, P, n, rfl, s0, hP, ok, hn, q⟩ := h
  have eok := env_ok ok
  obtain ⟨sok, sbig⟩ := start_ok ok
  refine ⟨_, rfl, ?_⟩
  intro x dx hx hdx ne
  have s1 : Sat F [(x, .ins (He.ga K "Machine") dx [])] (upd (upd H dx (.own x)) x (.ins (He.ga K "Machine") dx [])) := (Sat.nil s0).make hx hdx ne
  refine ⟨F, x, dx, a, P, [], rfl, s1, hP, ok, fun F' G da g0 H1 eF ea em a1 a2 a3 a4 => ⟨rfl, ?_⟩⟩
  have A : MchAt K F' G da P.env g0 H1 := ⟨a1, a2, a3, by rw [List.append_nil] at a4; exact a4⟩
  refine ⟨_, rfl, n, rfl, hn, ?_⟩
  refine ⟨fun m σ H' => ∃ (g : GM) (k : Nat), σ = [some (.ref a), some (.int (n : Nat)), some (.ref x), some (.int (k : Nat))] ∧ g.a = x ∧ MchAt K F' G da P.env g H' ∧ g.m.Ok P.env ∧ g.m.Big (k + 1) ∧ k ≤ n ∧ m = n - k ∧
    runM P.env n P.start = ((runM P.env (n - k) g.m).1, (runM P.env (n - k) g.m).2 + k), ⟨_, g0, 0, rfl, ea, A, by rw [em]; exact sok, by rw [em]; exact sbig, Nat.zero_le _, rfl, by rw [em]; rfl⟩, ?_⟩
  rintro m σ H2 ⟨g, k, rfl, ea2, A2, mok, big, hk, rfl, hrun⟩
  have hz : g.gs.length ≤ 1000 := by
    have h1 := mok.many
    have h2 : g.m.hands.length = g.gs.length := List.length_map ..
    omega
  have s2 := A2.sat
  have vx : ∀ H, Val (tVar 2) [some (.ref a), some (.int (n : Nat)), some (.ref x), some (.int (k : Nat))] H (.ref g.a) := fun H => by rw [ea2]; exact val_var rfl
  have vend : Val (tMeth (He.ga K "Machine") "all_ended" (sp_Machine_all_ended K) [] E0 (tVar 2) tNil) [some (.ref a), some (.int (n : Nat)), some (.ref x), some (.int (k : Nat))] H2 (.bl g.m.next.isNone) := by
    intro Q q
    refine vx H2 _ ?_
    exact ⟨g.a, g.dx, _, rfl, s2.get regM_self, rfl, F', G, da, P.env, g, rfl, A2, hz, q⟩
  have test := ans_and2 (ans_lt (σ := [some (.ref a), some (.int (n : Nat)), some (.ref x), some (.int (k : Nat))]) (H := H2) (ta := tVar 3) (tb := tVar 1) (i := (k : Int)) (j := (n : Int)) (val_var rfl) (val_var rfl) rfl) (ans_not (ans_val vend))
  refine test _ ?_
  have fin : runM P.env (n - k) g.m = (g.m, 0) → tRet (tTup (tCons (tFld K (tVar 2) "spoken") (tCons (tFld K (tVar 2) "held") (tCons (tMeth (He.ga K "Machine") "all_ended" (sp_Machine_all_ended K) [] E0 (tVar 2) tNil) (tCons (tVar 3) tNil))))) { nx := fun _ H' => Q .non H', rt := Q } [some (.ref a), some (.int (n : Nat)), some (.ref x), some (.int (k : Nat))] H2 := by
    intro hr
    rw [hr, Nat.zero_add] at hrun
    have v1 := val_fld (vx H2) (s2.get regM_self) T.cls_Machine T.na_Machine_spoken rfl
    have v2 := val_fld (vx H2) (s2.get regM_self) T.cls_Machine T.na_Machine_held rfl
    refine st_retI (args_cons (v1 _ (args_cons (v2 _ (args_cons (vend _ (args_cons ((val_var rfl : Val (tVar 3) _ H2 (.int (k : Nat))) _ (args_nil ?_)))))))))
    refine ⟨(by show 4 ≤ sizeLine; decide), fun t ht => ?_⟩
    have q' := q t g.sp g.he g.ts
    rw [hrun] at q'
    have s3 : Sat F ((t, .tup [.ref g.sp, .ref g.he, .bl g.m.next.isNone, .int (k : Nat)]) :: g.reg K) (upd H2 t (.tup [.ref g.sp, .ref g.he, .bl g.m.next.isNone, .int (k : Nat)])) := (s2.less eF).new ht
    refine q' _ A2.wf.2 ?_
    have s4 : Sat F (((g.a, mchO K g) :: (g.ha, .lst (g.gs.map fun h => V.ref h.a)) :: g.gs.flatMap (GH.reg K)) ++ ((t, .tup [.ref g.sp, .ref g.he, .bl g.m.next.isNone, .int (k : Nat)]) :: (g.sp, .lst (g.ts.map V.ref)) :: (g.he, .lst (g.held.map V.int)) :: saidR g.ts g.said)) _ := s3.perm (by
      unfold GM.reg
      (refine perm_sum fun f => ?_; simp only [List.map_append, List.map_cons, List.map_nil, List.sum_append, List.sum_cons, List.sum_nil]; omega))
    exact s4.tail
  cases en : g.m.next with
  | none =>
    have e1 : (decide ((k : Int) < (n : Int)) && !(none : Option Nat).isNone) = false := by simp
    rw [e1]
    exact iteF (fin (runM_none en _))
  | some j =>
    by_cases hlt : k < n
    · have e1 : (decide ((k : Int) < (n : Int)) && !(some j).isNone) = true := by simp [hlt]
      rw [e1]
      refine iteT ⟨_, fun σ' H' h => h, ?_⟩
      refine st_seq (st_dropI ?_)
      refine vx H2 _ ?_
      refine ⟨g.a, g.dx, _, rfl, s2.get regM_self, rfl, F', G, da, P.env, g, rfl, A2, eok, mok, ⟨fun fs hfs f hf => Nat.le_trans (big.1 fs hfs f hf) (by omega), Nat.le_trans big.2 (by omega)⟩, by rw [en]; simp, fun g' H3 ea3 _ _ em3 A3 => ?_⟩
      obtain ⟨d1, d2⟩ := doNext_ok eok mok
      refine ⟨_, rfl, _, _, rfl, rfl, ?_⟩
      refine ⟨n - (k + 1), by omega, g', k + 1, ?_, ea3.trans ea2, A3, by rw [em3]; exact d1, by rw [em3]; exact d2 (k + 1) big, by omega, rfl, ?_⟩
      · have e3 : ((k : Int) + 1) = ((k + 1 : Nat) : Int) := by omega
        show [_, _, _, some (V.int ((k : Int) + 1))] = _
        rw [e3]
      · have e2 : n - k = (n - (k + 1)) + 1 := by omega
        rw [hrun, e2, runM_some en, em3]
        simp [Nat.add_assoc, Nat.add_comm 1]
    · have e1 : (decide ((k : Int) < (n : Int)) && !(some j).isNone) = false := by
        rw [decide_eq_false (by omega)]
        rfl
      rw [e1]
      refine iteF (fin ?_)
      have e2 : n - k = 0 := by omega
      rw [e2]
      rfl
end
end S
set_option Elab.async false
set_option linter.all false
set_option maxRecDepth 100000
set_option maxHeartbeats 4000000
namespace S
open PySem PySem.Spec PyProof.Rows L2
def tChain3 (r r' r2 : R2) (ta tb tc td : TE) : TE := fun σ H Q => ta σ H fun x H1 => tb σ H1 fun y H2 => r x y H2 fun z H3 => ∃ k, z = .bl k ∧
  (if k = true then tc σ H3 fun w H4 => r' y w H4 fun z H5 => ∃ k, z = .bl k ∧ (if k = true then td σ H5 fun v H6 => r2 w v H6 Q else Q (.bl false) H5) else Q (.bl false) H3)
theorem pe_chain3 {X : Cx} {a b c d : Expr} {pos : Pos} {ta tb tc td : TE} {op op' op2 : CmpOp} {r r' r2 : R2} (ho : OpR X (compareOp op) r) (ho' : OpR X (compareOp op') r') (ho2 : OpR X (compareOp op2) r2) (ha : PE X a ta) (hb : PE X b tb) (hc : PE X c tc) (hd : PE X d td)
    (hm : lastMarks [op, op', op2] [b, c, d] = false := by with_unfolding_all rfl) : PE X (.Compare a [op, op', op2] [b, c, d] pos) (tChain3 r r' r2 ta tb tc td) := by
  refine ⟨fun pins s σ H Q I h => ?_⟩
  refine Compare_chain (thn (ha.run pins s σ H _ I h) fun v s1 ⟨x, H1, I1, r1, q1⟩ => chain_link (thn (hb.run pins s1 σ H1 _ I1 q1) fun u s2 ⟨y, H2, I2, r2', q2⟩ =>
    thn (ho pins s2 σ H2 x y v u _ I2 r1 r2' q2) fun d1 s3 ⟨z, H3, I3, r3, k, e, q3⟩ => ?_)) hm
  subst e
  cases r3
  refine wpAny_truthy_bool ?_
  cases k with
  | false => exact ite_ff ⟨.bl false, H3, I3, rfl, q3⟩
  | true =>
    refine ite_tt (chain_link (thn (hc.run pins s3 σ H3 _ I3 q3) fun w' s4 ⟨z', H4, I4, r4, q4⟩ => thn (ho' pins s4 σ H4 y z' u w' _ I4 r2' r4 q4) fun d2 s5 ⟨z2, H5, I5, r5, k2, e2, q5⟩ => ?_))
    subst e2
    cases r5
    refine wpAny_truthy_bool ?_
    cases k2 with
    | false => exact ite_ff ⟨.bl false, H5, I5, rfl, q5⟩
    | true => exact ite_tt (chain_last (thn (hd.run pins s5 σ H5 _ I5 q5) fun w2 s6 ⟨z3, H6, I6, r6, q6⟩ => ho2 pins s6 σ H6 z' z3 w' w2 Q I6 r4 r6 q6))
end S
set_option Elab.async false
set_option linter.all false
set_option maxRecDepth 100000
set_option maxHeartbeats 4000000
namespace S
open PySem PySem.Spec PyProof.Rows L2
inductive Thing where
  | part (p : Part) | deed (b : Body)
def Body.deeds : Body → List Body
  | .nil => []
  | .set n p r => .set n p .nil :: r.deeds
  | .put n p r => .put n p .nil :: r.deeds
  | .say p r => .say p .nil :: r.deeds
  | .iff p a b r => .iff p a b .nil :: r.deeds
  | .again p b r => .again p b .nil :: r.deeds
  | .call f ps n r => .call f ps n .nil :: r.deeds
  | .ret p r => .ret p .nil :: r.deeds
inductive One : Body → Prop
  | set {n : Nat} {p : Part} : One (.set n p .nil)
  | put {n : Nat} {p : Part} : One (.put n p .nil)
  | say {p : Part} : One (.say p .nil)
  | iff {p : Part} {a b : Body} : One (.iff p a b .nil)
  | again {p : Part} {b : Body} : One (.again p b .nil)
  | call {f n : Nat} {ps : List Part} : One (.call f ps n .nil)
  | ret {p : Part} : One (.ret p .nil)
def Body.kids : Body → List Thing
  | .nil => []
  | .set _ p _ => [.part p]
  | .put _ p _ => [.part p]
  | .say p _ => [.part p]
  | .iff p a b _ => .part p :: (a.deeds.map .deed ++ b.deeds.map .deed)
  | .again p b _ => .part p :: b.deeds.map .deed
  | .call _ ps _ _ => ps.map .part
  | .ret p _ => [.part p]
def Thing.kids : Thing → List Thing
  | .part p => p.kids.map .part
  | .deed b => b.kids
def Thing.isDeed : Thing → Bool
  | .part _ => false
  | .deed _ => true
def Thing.size : Thing → Nat
  | .part p => p.size
  | .deed b => b.things
def Thing.above : Thing → Nat
  | .part p => p.deep
  | .deed b => b.above
def sizesT (ts : List Thing) : Nat := (ts.map Thing.size).sum
def Thing.One : Thing → Prop
  | .part _ => True
  | .deed b => S.One b
def Thing.ok (nms pms : List Nat) (nc n : Nat) : Thing → Prop
  | .part p => p.ok n nc
  | .deed b => b.ok nms pms nc n
def ThingAt (K : PySem.W.Frag) (G : Hp) (v : V) : Thing → Prop
  | .part p => ∃ a, v = .ref a ∧ PartAt K G a p
  | .deed b => DeedsAt K G [v] b
def sp__is_tuple_of (K : PySem.W.Frag) : Sp := fun vs H Q _ => ∃ (a : Addr) (xs : List V) (n : Nat), vs = [.ref a, .int (n : Nat)] ∧ SqT K H a xs ∧ 1 ≤ xs.length ∧ xs.length ≤ n ∧ Q (.bl true) H
def sp__is_fun (K : PySem.W.Frag) : Sp := fun vs H Q _ => ∃ (v : V) (f : Fn), vs = [v] ∧ FnAt K H v f ∧ Q (.bl true) H
def sp__has_names (K : PySem.W.Frag) : Sp := fun vs H Q _ => ∃ (v : V) (f : Fn), vs = [v] ∧ FnAt K H v f ∧ f.params ≤ f.names ∧ f.names ≤ 4 ∧ Q (.bl true) H
def sp__can_be_done (K : PySem.W.Frag) : Sp := fun vs H Q _ => ∃ (k : Nat) (fa : Addr) (fs : List V) (funs : List Fn) (f : Fn), vs = [.int (k : Nat), .ref fa] ∧ SqT K H fa fs ∧ FnsAt K H fs funs ∧ funs[k]? = some f ∧ f.params = 0 ∧ Q (.bl true) H
def sp__fault_of_head (K : PySem.W.Frag) : Sp := fun vs H Q _ => ∃ (F : Hp) (a : Addr) (P : Prog), vs = [.ref a] ∧ Same F H ∧ ProgAt K F a P ∧ P.Ok ∧ ∀ H', Same H H' → Q .non H'
def scO (K : PySem.W.Frag) (dx : Addr) (nc n : Nat) (l : Addr) : HO := .ins (He.ga K "Scope") dx [("many_cells", .int (nc : Nat)), ("many_names", .int (n : Nat)), ("params", .ref l)]
def sp_Scope_init (K : PySem.W.Frag) : Sp := fun vs H Q _ => ∃ (F : Hp) (x dx a : Addr) (k : Nat) (P : Prog) (f : Fn), vs = [.ref x, .ref a, .int (k : Nat)] ∧ Sat F [(x, .ins (He.ga K "Scope") dx [])] H ∧ ProgAt K F a P ∧ P.funs[k]? = some f ∧ P.funs.length ≤ 1000 ∧
  ∀ (l : Addr) (H' : Hp), Sat F [(x, scO K dx P.cells.length f.names l), (l, .lst (P.funs.map fun f => V.int (f.params : Nat)))] H' → Q .non H'
def sp__fault_by_limits (K : PySem.W.Frag) : Sp := fun vs H Q _ => ∃ i j : Nat, vs = [.int (i : Nat), .int (j : Nat)] ∧ i < 100 ∧ j ≤ 7 ∧ Q .non H
inductive KindAt (K : PySem.W.Frag) (H : Hp) : Str → V → Prop
  | part {v : V} : KindAt K H "part" v
  | parts {a : Addr} {xs : List V} : SqT K H a xs → KindAt K H "parts" (.ref a)
  | body {a : Addr} {xs : List V} : SqT K H a xs → KindAt K H "body" (.ref a)
  | other {k : Str} {i : Int} : k = "number" ∨ k = "name" ∨ k = "cell" ∨ k = "fun" → KindAt K H k (.int i)
def sp__is_of_kind (K : PySem.W.Frag) : Sp := fun vs H Q _ => ∃ (v : V) (k : Str), vs = [v, .str k] ∧ KindAt K H k v ∧ ∀ H', Same H H' → Q (.bl true) H'
inductive KindsAt (K : PySem.W.Frag) (H : Hp) : List Str → List V → Prop
  | nil : KindsAt K H [] []
  | cons {k : Str} {v : V} {ks : List Str} {vs : List V} : KindAt K H k v → KindsAt K H ks vs → KindsAt K H (k :: ks) (v :: vs)
def sp__has_shape (K : PySem.W.Frag) : Sp := fun vs H Q _ => ∃ (F : Hp) (a : Addr) (b : Bool) (z : Str) (ks : List Str) (xs : List V), vs = [.ref a, .bl b] ∧ Same F H ∧ SqT K F a (.str z :: xs) ∧ (z, ks) ∈ kindTab b ∧ KindsAt K F ks xs ∧ ∀ H', Same H H' → Q (.bl true) H'
inductive FitAt (K : PySem.W.Frag) (H : Hp) (nc n : Nat) (pms : List Nat) (first : Option Nat) : Str → V → Prop
  | part {v : V} : FitAt K H nc n pms first "part" v
  | body {v : V} : FitAt K H nc n pms first "body" v
  | number {i : Int} : 0 ≤ i → i < 10007 → FitAt K H nc n pms first "number" (.int i)
  | name {k : Nat} : k < n → FitAt K H nc n pms first "name" (.int (k : Nat))
  | cell {k : Nat} : k < nc → FitAt K H nc n pms first "cell" (.int (k : Nat))
  | fn {k : Nat} : k < pms.length → FitAt K H nc n pms first "fun" (.int (k : Nat))
  | parts {a : Addr} {xs : List V} {g : Nat} : SqT K H a xs → first = some g → pms[g]? = some xs.length → FitAt K H nc n pms first "parts" (.ref a)
inductive FitsAt (K : PySem.W.Frag) (H : Hp) (nc n : Nat) (pms : List Nat) (first : Option Nat) : List Str → List V → Prop
  | nil : FitsAt K H nc n pms first [] []
  | cons {k : Str} {v : V} {ks : List Str} {vs : List V} : FitAt K H nc n pms first k v → FitsAt K H nc n pms first ks vs → FitsAt K H nc n pms first (k :: ks) (v :: vs)
def firstN : List V → Option Nat
  | .int (.ofNat i) :: _ => some i
  | _ => none
def sp__fault_of (K : PySem.W.Frag) : Sp := fun vs H Q _ => ∃ (F : Hp) (a x dx l : Addr) (b : Bool) (z : Str) (ks : List Str) (xs : List V) (nc n : Nat) (pms : List Nat), vs = [.ref a, .bl b, .ref x] ∧ Same F H ∧ SqT K F a (.str z :: xs) ∧ (z, ks) ∈ kindTab b ∧ KindsAt K F ks xs ∧
  F x = some (scO K dx nc n l) ∧ SqL K F l (pms.map fun m => V.int (m : Nat)) ∧ FitsAt K F nc n pms (firstN xs) ks xs ∧ ∀ H', Same H H' → Q .non H'
def sp__check_body (K : PySem.W.Frag) : Sp := fun vs H Q _ => ∃ (F : Hp) (ba x dx l : Addr) (first : Nat) (ys : List V) (b : Body) (nms pms : List Nat) (nc n : Nat), vs = [.ref ba, .ref x, .int (first : Nat)] ∧ Same F H ∧ SqT K F ba ys ∧ DeedsAt K F ys b ∧
  F x = some (scO K dx nc n l) ∧ SqL K F l (pms.map fun m => V.int (m : Nat)) ∧ b.ok nms pms nc n ∧ nms.length = pms.length ∧ first + b.things ≤ 100 ∧ b.above ≤ 7 ∧ ∀ H', Same H H' → Q (.int ((first + b.things : Nat) : Int)) H'
end S
set_option Elab.async false
set_option linter.all false
set_option maxRecDepth 100000
namespace S
open PySem PySem.Spec PyProof.Rows L2
def n__is_tuple_of : List Str := ["what", "most"]
def t__is_tuple_of (K : PySem.W.Frag) : TS :=
    (tRet (tAndV (tCB (rIsi K) (tCons (tVar 0) (tCons (tC (.ty "tuple")) tNil))) (tChain (rI0 fun i j => .bl (decide (i ≤ j))) (rI0 fun i j => .bl (decide (i ≤ j))) (tC (.int 1)) (tCB (Evl.rLenS K) (tCons (tVar 0) tNil)) (tVar 1))))
def n__is_fun : List Str := ["fun"]
def t__is_fun (K : PySem.W.Frag) : TS :=
    (tRet (tAndV (tCB (rIsi K) (tCons (tVar 0) (tCons (tC (.ty "tuple")) tNil))) (tAndV (tOp rEq (tCB (Evl.rLenS K) (tCons (tVar 0) tNil)) (tC (.int 3))) (tCB (rIsi K) (tCons (tOp (rIxT K) (tVar 0) (tC (.int 2))) (tCons (tC (.ty "tuple")) tNil))))))
def n__has_names : List Str := ["fun", "params", "names", "_"]
def t__has_names (K : PySem.W.Frag) : TS :=
    (tSeq (tAsg (tVar 0) (gTup K 3 (gCons (gName 1) (gCons (gName 2) (gCons (gName 3) gNil)))))
    (tRet (tAndV (tCall (sp_is_number K) [] E0 (tCons (tVar 1) tNil)) (tAndV (tCall (sp_is_number K) [] E0 (tCons (tVar 2) tNil)) (tChain3 (rI0 fun i j => .bl (decide (i ≤ j))) (rI0 fun i j => .bl (decide (i ≤ j))) (rI0 fun i j => .bl (decide (i ≤ j))) (tC (.int 0)) (tVar 1) (tVar 2) (tC (.int 4)))))))
def n__can_be_done : List Str := ["fun", "funs"]
def t__can_be_done (K : PySem.W.Frag) : TS :=
    (tRet (tAndV (tCall (sp_is_number K) [] E0 (tCons (tVar 0) tNil)) (tAndV (tChain (rI0 fun i j => .bl (decide (i ≤ j))) (rI0 fun i j => .bl (decide (i < j))) (tC (.int 0)) (tVar 0) (tCB (Evl.rLenS K) (tCons (tVar 1) tNil))) (tOp rEq (tOp (rIxT K) (tOp (rIxT K) (tVar 1) (tVar 0)) (tC (.int 0))) (tC (.int 0))))))
def n__fault_of_head : List Str := ["program", "cells", "funs", "hands", "fun", "number"]
def t__fault_of_head (K : PySem.W.Frag) : TS :=
    (tSeq (tAsg (tVar 0) (gTup K 3 (gCons (gName 1) (gCons (gName 2) (gCons (gName 3) gNil)))))
    (tSeq (tIfS (tOr (tNot (tB (tCall (sp__is_tuple_of K) [] E0 (tCons (tVar 1) (tCons (tC (.int 8)) tNil))))) (tNot (tB (tCB (rAll K) (tCons (tLc (iTup K (tVar 1)) (gName 5) tYes (tCall (sp_can_be_held K) [] E0 (tCons (tVar 5) tNil)) [5]) tNil)))))
      (tRet (tC (.str "cells")))
      tNext)
    (tSeq (tIfS (tOr (tNot (tB (tCall (sp__is_tuple_of K) [] E0 (tCons (tVar 2) (tCons (tC (.int 4)) tNil))))) (tNot (tB (tCB (rAll K) (tCons (tLc (iTup K (tVar 2)) (gName 4) tYes (tCall (sp__is_fun K) [] E0 (tCons (tVar 4) tNil)) [4]) tNil)))))
      (tRet (tC (.str "funs")))
      tNext)
    (tSeq (tIfS (tNot (tB (tCB (rAll K) (tCons (tLc (iTup K (tVar 2)) (gName 4) tYes (tCall (sp__has_names K) [] E0 (tCons (tVar 4) tNil)) [4]) tNil))))
      (tRet (tC (.str "names")))
      tNext)
    (tSeq (tIfS (tOr (tNot (tB (tCall (sp__is_tuple_of K) [] E0 (tCons (tVar 3) (tCons (tC (.int 3)) tNil))))) (tNot (tB (tCB (rAll K) (tCons (tLc (iTup K (tVar 3)) (gName 4) tYes (tCall (sp__can_be_done K) [] E0 (tCons (tVar 4) (tCons (tVar 2) tNil))) [4]) tNil)))))
      (tRet (tC (.str "hands")))
      tNext)
    (tRet (tC .non)))))))
def n_Scope_init : List Str := ["self", "program", "fun", "cells", "funs", "_", "other"]
def t_Scope_init (K : PySem.W.Frag) : TS :=
    (tSeq (tAsg (tVar 1) (gTup K 3 (gCons (gName 3) (gCons (gName 4) (gCons (gName 5) gNil)))))
    (tSeq (sFld K (tVar 0) (tCB (Evl.rLenS K) (tCons (tVar 3) tNil)) "many_cells")
    (tSeq (sFld K (tVar 0) (tOp (rIxT K) (tOp (rIxT K) (tVar 4) (tVar 2)) (tC (.int 1))) "many_names")
    (sFld K (tVar 0) (tLc (iTup K (tVar 4)) (gName 6) tYes (tOp (rIxT K) (tVar 6) (tC (.int 0))) [6]) "params"))))
def n__fault_by_limits : List Str := ["at", "above"]
def t__fault_by_limits (K : PySem.W.Frag) : TS :=
    (tSeq (tIfS (tTest (tOp (rI0 fun i j => .bl (decide (j ≤ i))) (tVar 0) (tC (.int 100))))
      (tRet (tC (.str "many")))
      tNext)
    (tSeq (tIfS (tTest (tOp (rI0 fun i j => .bl (decide (j < i))) (tVar 1) (tC (.int 7))))
      (tRet (tC (.str "deep")))
      tNext)
    (tRet (tC .non))))
def n__is_of_kind : List Str := ["what", "kind"]
def t__is_of_kind (K : PySem.W.Frag) : TS :=
    (tSeq (tIfS (tTest (tOp rEq (tVar 1) (tC (.str "part"))))
      (tRet (tC (.bl true)))
      tNext)
    (tSeq (tIfS (tTest (tOp (rIn K false) (tVar 1) (tTup (tCons (tC (.str "body")) (tCons (tC (.str "parts")) tNil)))))
      (tRet (tCB (rIsi K) (tCons (tVar 0) (tCons (tC (.ty "tuple")) tNil))))
      tNext)
    (tRet (tCall (sp_is_number K) [] E0 (tCons (tVar 0) tNil)))))
def n__has_shape : List Str := ["thing", "is_deed", "kinds", "kind", "what"]
def t__has_shape (K : PySem.W.Frag) : TS :=
    (tSeq (tIfS (tOr (tNot (tB (tCB (rIsi K) (tCons (tVar 0) (tCons (tC (.ty "tuple")) tNil))))) (tOr (tNot (tTru K (tVar 0))) (tNot (tB (tCB (rIsi K) (tCons (tOp (rIxT K) (tVar 0) (tC (.int 0))) (tCons (tC (.ty "str")) tNil)))))))
      (tRet (tC (.bl false)))
      tNext)
    (tSeq (tAsg (tCall (sp_kinds_behind K) [] E0 (tCons (tOp (rIxT K) (tVar 0) (tC (.int 0))) (tCons (tVar 1) tNil))) (gName 2))
    (tSeq (tIfS (tOr (tTest (tOp rIsN (tVar 2) (tC .non))) (tTest (tOp rNe (tCB (Evl.rLenS K) (tCons (tVar 0) tNil)) (tOp (rI0 fun i j => .int (i + j)) (tCB (Evl.rLenS K) (tCons (tVar 2) tNil)) (tC (.int 1))))))
      (tRet (tC (.bl false)))
      tNext)
    (tRet (tCB (rAll K) (tCons (tLc (RZ.iZipA K (tCons (tVar 2) (tCons (tSl (rSlA K) (tVar 0) (tPart (tC (.int 1))) tNoPart) tNil))) (gTup K 2 (gCons (gName 3) (gCons (gName 4) gNil))) tYes (tCall (sp__is_of_kind K) [] E0 (tCons (tVar 4) (tCons (tVar 3) tNil))) [3, 4]) tNil))))))
def n__fault_of : List Str := ["thing", "is_deed", "scope", "kind", "what"]
def t__fault_of (K : PySem.W.Frag) : TS :=
    (tSeq (tIfS (tNot (tB (tCall (sp__has_shape K) [] E0 (tCons (tVar 0) (tCons (tVar 1) tNil)))))
      (tRet (tC (.str "shape")))
      tNext)
    (tSeq (tFor (RZ.iZipA K (tCons (tCall (sp_kinds_behind K) [] E0 (tCons (tOp (rIxT K) (tVar 0) (tC (.int 0))) (tCons (tVar 1) tNil))) (tCons (tSl (rSlA K) (tVar 0) (tPart (tC (.int 1))) tNoPart) tNil))) (gTup K 2 (gCons (gName 3) (gCons (gName 4) gNil)))
      (tSeq (tIfS (tAnd (tTest (tOp rEq (tVar 3) (tC (.str "number")))) (tNot (tB (tCall (sp_can_be_held K) [] E0 (tCons (tVar 4) tNil)))))
        (tRet (tC (.str "number")))
        tNext)
      (tSeq (tIfS (tAnd (tTest (tOp rEq (tVar 3) (tC (.str "name")))) (tNot (tTest (tChain (rI0 fun i j => .bl (decide (i ≤ j))) (rI0 fun i j => .bl (decide (i < j))) (tC (.int 0)) (tVar 4) (tFld K (tVar 2) "many_names")))))
        (tRet (tC (.str "name")))
        tNext)
      (tSeq (tIfS (tAnd (tTest (tOp rEq (tVar 3) (tC (.str "cell")))) (tNot (tTest (tChain (rI0 fun i j => .bl (decide (i ≤ j))) (rI0 fun i j => .bl (decide (i < j))) (tC (.int 0)) (tVar 4) (tFld K (tVar 2) "many_cells")))))
        (tRet (tC (.str "cell")))
        tNext)
      (tSeq (tIfS (tAnd (tTest (tOp rEq (tVar 3) (tC (.str "fun")))) (tNot (tTest (tChain (rI0 fun i j => .bl (decide (i ≤ j))) (rI0 fun i j => .bl (decide (i < j))) (tC (.int 0)) (tVar 4) (tCB (Evl.rLenS K) (tCons (tFld K (tVar 2) "params") tNil))))))
        (tRet (tC (.str "fun")))
        tNext)
      (tIfS (tAnd (tTest (tOp rEq (tVar 3) (tC (.str "parts")))) (tTest (tOp rNe (tCB (Evl.rLenS K) (tCons (tVar 4) tNil)) (tOp (rIxL K) (tFld K (tVar 2) "params") (tOp (rIxT K) (tVar 0) (tC (.int 1)))))))
        (tRet (tC (.str "params")))
        tNext))))))
    (tRet (tC .non))))
def n__check_body : List Str := ["body", "scope", "first", "at", "waiting", "why", "within", "thing", "is_deed", "above", "deed", "inner", "is_inner_deed"]
def t__check_body (K : PySem.W.Frag) : TS :=
    (tSeq (tAsg (tVar 2) (gName 3))
    (tSeq (tAsg (tLc (RT.iRevA K (tVar 0)) (gName 10) tYes (tTup (tCons (tVar 10) (tCons (tC (.bl true)) (tCons (tC (.int 0)) tNil)))) [10]) (gName 4))
    (tSeq (tWhile (tTru K (tVar 4))
      (tSeq (tAsg (tBM0 K "list" rPop (tVar 4)) (gTup K 3 (gCons (gName 7) (gCons (gName 8) (gCons (gName 9) gNil)))))
      (tSeq (tAsg (tCall (sp__fault_by_limits K) [] E0 (tCons (tVar 3) (tCons (tVar 9) tNil))) (gName 5))
      (tSeq (tIfS (tTest (tOp rIsN (tVar 5) (tC .non)))
        (tAsg (tCall (sp__fault_of K) [] E0 (tCons (tVar 7) (tCons (tVar 8) (tCons (tVar 1) tNil)))) (gName 5))
        tNext)
      (tSeq (tIfS (tTest (tOp rNotN (tVar 5) (tC .non)))
        tNever
        tNext)
      (tSeq (tAsg (tCall (sp_things_within K) [] E0 (tCons (tVar 7) (tCons (tVar 8) tNil))) (gName 6))
      (tSeq (tDrop (tBM K "list" rExtend (tVar 4) (tCons (tLc (iRev K (tCons (tVar 6) tNil)) (gTup K 2 (gCons (gName 11) (gCons (gName 12) gNil))) tYes (tTup (tCons (tVar 11) (tCons (tVar 12) (tCons (tOp (rI0 fun i j => .int (i + j)) (tVar 9) (tC (.int 1))) tNil)))) [11, 12]) tNil)))
      (tAug 3 (tC (.int 1)) (ipI fun i j => i + j)))))))))
    (tRet (tVar 3)))))
def n_check_program : List Str := ["program", "why", "funs", "at", "number", "fun"]
def t_check_program (K : PySem.W.Frag) : TS :=
    (tSeq (tAsg (tCall (sp__fault_of_head K) [] E0 (tCons (tVar 0) tNil)) (gName 1))
    (tSeq (tIfS (tTest (tOp rNotN (tVar 1) (tC .non)))
      tNever
      tNext)
    (tSeq (tAsg (tOp (rIxT K) (tVar 0) (tC (.int 1))) (gName 2))
    (tSeq (tAsg (tC (.int 0)) (gName 3))
    (tFor (iEnumT K (tCons (tVar 2) tNil)) (gTup K 2 (gCons (gName 4) (gCons (gName 5) gNil)))
      (tAsg (tCall (sp__check_body K) [] E0 (tCons (tOp (rIxT K) (tVar 5) (tC (.int 2))) (tCons (tMake (He.ga K "Scope") (sp_Scope_init K) [] E0 (tCons (tVar 0) (tCons (tVar 4) tNil))) (tCons (tVar 3) tNil)))) (gName 3)))))))
def n_check_count : List Str := ["many"]
def t_check_count (K : PySem.W.Frag) : TS :=
    (tIfS (tNot (tTest (tChain (rI0 fun i j => .bl (decide (i ≤ j))) (rI0 fun i j => .bl (decide (i ≤ j))) (tC (.int 0)) (tVar 0) (tC (.int 2000)))))
      tNever
      tNext)
end S
set_option Elab.async false
set_option linter.all false
set_option maxRecDepth 100000
set_option maxHeartbeats 4000000
namespace S
open PySem PySem.Spec PyProof.Rows L2
section
variable {K : PySem.W.Frag}
theorem val_lenT {σ : L2.St} {H : Hp} {ta : TE} {l : Addr} {xs : List V} (ha : Val ta σ H (.ref l)) (h : SqT K H l xs) : Val (tCB (Evl.rLenS K) (tCons ta tNil)) σ H (.int (xs.length : Nat)) := by
  intro Q q
  refine ha _ ?_
  exact ⟨l, xs, rfl, .inr h, q⟩
theorem val_isT {σ : L2.St} {H : Hp} {ta : TE} {l : Addr} {xs : List V} (ha : Val ta σ H (.ref l)) (h : SqT K H l xs) : Val (tCB (rIsi K) (tCons ta (tCons (tC (.ty "tuple")) tNil))) σ H (.bl true) := by
  intro Q q
  refine ha _ ?_
  exact ⟨_, _, _, _, true, rfl, .ty _, tyT h, kit_ty (by decide +kernel), q⟩
theorem val_andT {σ : L2.St} {H : Hp} {ta tb : TE} {v : V} (ha : Val ta σ H (.bl true)) (hb : Val tb σ H v) : Val (tAndV ta tb) σ H v := fun Q q => ha _ ⟨true, rfl, iteT (hb _ q)⟩
theorem val_chain {σ : L2.St} {H : Hp} {ta tb tc : TE} {p1 p2 : Int → Int → Bool} {i j k : Int} (ha : Val ta σ H (.int i)) (hb : Val tb σ H (.int j)) (hc : Val tc σ H (.int k)) (h1 : p1 i j = true) (h2 : p2 j k = true) :
    Val (tChain (rI0 fun i j => .bl (p1 i j)) (rI0 fun i j => .bl (p2 i j)) ta tb tc) σ H (.bl true) := fun Q q =>
  ha _ (hb _ ⟨i, j, rfl, rfl, true, congrArg V.bl h1, iteT (hc _ ⟨j, k, rfl, rfl, by show Q (V.bl (p2 j k)) H; rw [h2]; exact q⟩)⟩)
theorem rd_check_count (vs : List V) (H : Hp) (Q : VK) (E : XK) (h : sp_check_count K vs H Q E) : t_check_count K { nx := fun _ H' => Q .non H', rt := Q } (start n_check_count vs) H := by
  obtain ⟨n, rfl, hn, q⟩ := h
  have vc : Val (tChain (rI0 fun i j => .bl (decide (i ≤ j))) (rI0 fun i j => .bl (decide (i ≤ j))) (tC (.int 0)) (tVar 0) (tC (.int 2000))) [some (.int (n : Nat))] H (.bl true) := val_chain val_c (val_var rfl) val_c (decide_eq_true (by omega)) (decide_eq_true (by omega))
  have at1 : Ans (tTest (tChain (rI0 fun i j => .bl (decide (i ≤ j))) (rI0 fun i j => .bl (decide (i ≤ j))) (tC (.int 0)) (tVar 0) (tC (.int 2000)))) [some (.int (n : Nat))] H true := fun Q q => vc _ ⟨true, rfl, q⟩
  exact st_no (ans_not at1) q
theorem rd__fault_by_limits (vs : List V) (H : Hp) (Q : VK) (E : XK) (h : sp__fault_by_limits K vs H Q E) : t__fault_by_limits K { nx := fun _ H' => Q .non H', rt := Q } (start n__fault_by_limits vs) H := by
  obtain ⟨i, j, rfl, hi, hj, q⟩ := h
  refine sq_no (ans_ge (val_var rfl) (decide_eq_false (by omega))) ?_
  refine sq_no (ans_gt (val_var rfl) (decide_eq_false (by omega))) ?_
  exact st_ret val_c q
theorem rd__is_tuple_of (vs : List V) (H : Hp) (Q : VK) (E : XK) (h : sp__is_tuple_of K vs H Q E) : t__is_tuple_of K { nx := fun _ H' => Q .non H', rt := Q } (start n__is_tuple_of vs) H := by
  obtain ⟨a, xs, n, rfl, ha, h1, h2, q⟩ := h
  exact st_ret (val_andT (val_isT (val_var rfl) ha) (val_chain val_c (val_lenT (val_var rfl) ha) (val_var rfl) (decide_eq_true (by omega)) (decide_eq_true (by omega)))) q
theorem val_eqI {σ : L2.St} {H : Hp} {ta tb : TE} {i j : Int} (ha : Val ta σ H (.int i)) (hb : Val tb σ H (.int j)) (e : i = j) : Val (tOp rEq ta tb) σ H (.bl true) := by
  intro Q q
  subst e
  refine ha _ (hb _ ⟨rfl, ?_⟩)
  show Q (V.bl (decide (V.int i = V.int i))) H
  rw [decide_eq_true rfl]
  exact q
theorem rd__is_fun (vs : List V) (H : Hp) (Q : VK) (E : XK) (h : sp__is_fun K vs H Q E) : t__is_fun K { nx := fun _ H' => Q .non H', rt := Q } (start n__is_fun vs) H := by
  obtain ⟨v, f, rfl, ⟨a, ba, ys, rfl, h1, h2, h3⟩, q⟩ := h
  exact st_ret (val_andT (val_isT (val_var rfl) h1) (val_andT (val_eqI (val_lenT (val_var rfl) h1) val_c rfl) (val_isT (val_ixT (val_var rfl) val_c h1 (atI_nat (j := 2) rfl)) h2))) q
theorem rd__has_names (vs : List V) (H : Hp) (Q : VK) (E : XK) (h : sp__has_names K vs H Q E) : t__has_names K { nx := fun _ H' => Q .non H', rt := Q } (start n__has_names vs) H := by
  obtain ⟨v, f, rfl, ⟨a, ba, ys, rfl, h1, h2, h3⟩, hp, hn, q⟩ := h
  refine st_seq (st_asgI ?_)
  refine ⟨_, rfl, a, _, rfl, h1, rfl, _, _, rfl, _, _, rfl, _, _, rfl, rfl, ?_⟩
  have v1 : Val (tCall (sp_is_number K) [] E0 (tCons (tVar 1) tNil)) [some (.ref a), some (.int (f.params : Nat)), some (.int (f.names : Nat)), some (.ref ba)] H (.bl true) := fun Q q => ⟨_, rfl, _, rfl, .int _, q⟩
  have v2 : Val (tCall (sp_is_number K) [] E0 (tCons (tVar 2) tNil)) [some (.ref a), some (.int (f.params : Nat)), some (.int (f.names : Nat)), some (.ref ba)] H (.bl true) := fun Q q => ⟨_, rfl, _, rfl, .int _, q⟩
  have v3 : Val (tChain3 (rI0 fun i j => .bl (decide (i ≤ j))) (rI0 fun i j => .bl (decide (i ≤ j))) (rI0 fun i j => .bl (decide (i ≤ j))) (tC (.int 0)) (tVar 1) (tVar 2) (tC (.int 4))) [some (.ref a), some (.int (f.params : Nat)), some (.int (f.names : Nat)), some (.ref ba)] H (.bl true) := by
    intro Q q
    refine ⟨_, rfl, 0, _, rfl, rfl, true, congrArg V.bl (decide_eq_true (by omega)), iteT ?_⟩
    refine ⟨_, rfl, _, _, rfl, rfl, true, congrArg V.bl (decide_eq_true (by omega)), iteT ?_⟩
    refine ⟨_, _, rfl, rfl, ?_⟩
    show Q (V.bl (decide ((f.names : Int) ≤ 4))) H
    rw [decide_eq_true (by omega)]
    exact q
  exact st_ret (val_andT v1 (val_andT v2 v3)) q
theorem rd__can_be_done (vs : List V) (H : Hp) (Q : VK) (E : XK) (h : sp__can_be_done K vs H Q E) : t__can_be_done K { nx := fun _ H' => Q .non H', rt := Q } (start n__can_be_done vs) H := by
  obtain ⟨k, fa, fs, funs, f, rfl, h1, h2, hk, hz, q⟩ := h
  have lt := (List.getElem?_eq_some_iff.mp hk).1
  have lf := h2.length
  obtain ⟨v, hv⟩ : ∃ v, fs[k]? = some v := ⟨fs[k], by simp [show k < fs.length by omega]⟩
  obtain ⟨f', hf', a, ba, ys, rfl, g1, g2, g3⟩ := h2.get hv
  rw [hk] at hf'
  cases hf'
  have vis : Val (tCall (sp_is_number K) [] E0 (tCons (tVar 0) tNil)) [some (.int (k : Nat)), some (.ref fa)] H (.bl true) := fun Q q => ⟨_, rfl, _, rfl, .int _, q⟩
  refine st_ret (val_andT vis (val_andT (val_chain val_c (val_var rfl) (val_lenT (val_var rfl) h1) (decide_eq_true (by omega)) (decide_eq_true (by omega))) (val_eqI (val_ixT (val_ixT (val_var rfl) (val_var rfl) h1 (atI_nat hv)) val_c g1 (atI_nat (j := 0) rfl)) val_c ?_))) q
  omega
theorem all_true {σ : L2.St} {H : Hp} {ta te : TE} {i : Nat} {a : Addr} {xs : List V} (ha : Val ta σ H (.ref a)) (hx : SqT K H a xs) (hz : xs.length ≤ 1000) (hw : ∀ v : V, wipe ((wipe σ [i]).set i (some v)) [i] = wipe σ [i])
    (ht : ∀ (j : Nat) (v : V) (H' : Hp) (Q : VK), xs[j]? = some v → Same H H' → (∀ H'', Same H' H'' → Q (.bl true) H'') → te ((wipe σ [i]).set i (some v)) H' Q) :
    AnsH (tNot (tB (tCB (rAll K) (tCons (tLc (iTup K ta) (gName i) tYes te [i]) tNil)))) σ H false (Same H) := by
  intro Q q
  refine ha _ ⟨a, rfl, ⟨xs, hx⟩, fun D hD => ?_⟩
  have s1 : Sat H [(D, .lst (List.replicate 0 (V.bl true)))] (upd H D (.lst [])) := (Sat.nil (Same.refl H)).new hD
  refine lc_tup (K := K) (fun j H' => Sat H [(D, .lst (List.replicate j (V.bl true)))] H') s1 (fun j H' _ w => same_seqT w.fr hx) ?_ ?_
  · intro j v H' hv w
    refine ⟨hw v, ?_⟩
    unfold tYes
    refine Eq.mpr (if_pos rfl) ?_
    refine ht j v H' _ hv w.fr fun H'' e => ?_
    have w2 := w.grow e
    refine ⟨_, w2.get List.mem_cons_self, ?_, ?_⟩
    · rw [List.length_replicate]
      have := (List.getElem?_eq_some_iff.mp hv).1
      exact Nat.lt_of_le_of_lt (by omega : j ≤ 1000) (by decide)
    · have e2 : List.replicate j (V.bl true) ++ [V.bl true] = List.replicate (j + 1) (V.bl true) := by rw [List.replicate_succ']
      rw [e2]
      exact w2.put
  · intro H' w
    have hl := w.get List.mem_cons_self
    refine ⟨D, List.replicate xs.length true, rfl, ?_, true, ?_, q _ w.fr⟩
    · rw [List.map_replicate]
      exact SqL.of hl
    · simp
theorem ansH_or {σ : L2.St} {H : Hp} {t u : TT} {b : Bool} {P : Hp → Prop} (h1 : Ans t σ H false) (h2 : AnsH u σ H b P) : AnsH (tOr t u) σ H b P := by
  intro Q q
  refine h1 _ ?_
  rw [if_neg Bool.false_ne_true]
  exact h2 Q q
theorem rd__fault_of_head (vs : List V) (H : Hp) (Q : VK) (E : XK) (h : sp__fault_of_head K vs H Q E) : t__fault_of_head K { nx := fun _ H' => Q .non H', rt := Q } (start n__fault_of_head vs) H := by
  obtain ⟨F, a, P, rfl, sF, hP, ok, q⟩ := h
  obtain ⟨ca, fa, ha, fs, hpa, hca, hfa, hfs, hha⟩ := hP.ex
  refine st_seq (st_asgI ?_)
  refine ⟨_, rfl, a, _, rfl, same_seqT sF hpa, rfl, _, _, rfl, _, _, rfl, _, _, rfl, rfl, ?_⟩
  dsimp only [List.set]
  have hf4 : fs.length ≤ 4 := by rw [hfs.length]; exact ok.funs.2
  have hf1 : 1 ≤ fs.length := by rw [hfs.length]; exact ok.funs.1
  have it : ∀ (H : Hp) (i m : Nat) (x : Addr) (xs : List V), ([some (.ref a), some (.ref ca), some (.ref fa), some (.ref ha), none, none] : L2.St)[i]? = some (some (V.ref x)) → SqT K H x xs → 1 ≤ xs.length → xs.length ≤ m →
      Ans (tNot (tB (tCall (sp__is_tuple_of K) [] E0 (tCons (tVar i) (tCons (tC (.int (m : Nat))) tNil))))) [some (.ref a), some (.ref ca), some (.ref fa), some (.ref ha), none, none] H false := by
    intro H i m x xs hi hx h1 h2
    have v : Val (tCall (sp__is_tuple_of K) [] E0 (tCons (tVar i) (tCons (tC (.int (m : Nat))) tNil))) [some (.ref a), some (.ref ca), some (.ref fa), some (.ref ha), none, none] H (.bl true) := fun Q q => ⟨_, hi, x, xs, m, rfl, hx, h1, h2, q⟩
    exact ans_not (ans_val v)
  refine st_seq (st_noH (ansH_or (it H 1 8 ca _ rfl (same_seqT sF hca) (by rw [List.length_map]; exact ok.cells.1) (by rw [List.length_map]; exact ok.cells.2)) (all_true (K := K) (val_var rfl) (same_seqT sF hca) (by rw [List.length_map]; have := ok.cells.2; omega) (fun v => rfl) ?_)) ?_)
  · intro j v H' Q hv e q
    rw [List.getElem?_map] at hv
    cases ec : P.cells[j]? with
    | none =>
      rw [ec] at hv
      cases hv
    | some i =>
      rw [ec] at hv
      have ev : V.int i = v := by simpa using hv
      subst ev
      have hi := ok.held i (List.mem_of_getElem? ec)
      refine ⟨_, rfl, _, rfl, .int _, ?_⟩
      have eh : isHeld (.int i) = true := by
        show (decide (0 ≤ i) && decide (i < 10007)) = true
        rw [decide_eq_true hi.1, decide_eq_true hi.2]
        rfl
      rw [eh]
      exact q _ (Same.refl _)
  intro H1 e1
  refine st_seq (st_noH (ansH_or (it H1 2 4 fa _ rfl (same_seqT (sF.trans e1) hfa) hf1 hf4) (all_true (K := K) (val_var rfl) (same_seqT (sF.trans e1) hfa) (by omega) (fun v => rfl) ?_)) ?_)
  · intro j v H' Q hv e q
    obtain ⟨f, hf, hat⟩ := hfs.get hv
    exact ⟨_, rfl, v, f, rfl, hat.mono ((sF.trans e1).trans e), q _ (Same.refl _)⟩
  intro H2 e2
  have s2 := (sF.trans e1).trans e2
  refine st_seq (st_noH (all_true (K := K) (val_var rfl) (same_seqT s2 hfa) (by omega) (fun v => rfl) ?_) ?_)
  · intro j v H' Q hv e q
    obtain ⟨f, hf, hat⟩ := hfs.get hv
    obtain ⟨n1, n2⟩ := ok.names f (List.mem_of_getElem? hf)
    exact ⟨_, rfl, v, f, rfl, hat.mono (s2.trans e), n1, n2, q _ (Same.refl _)⟩
  intro H3 e3
  have s3 := s2.trans e3
  refine st_seq (st_noH (ansH_or (it H3 3 3 ha _ rfl (same_seqT s3 hha) (by rw [List.length_map]; exact ok.hands.1) (by rw [List.length_map]; exact ok.hands.2)) (all_true (K := K) (val_var rfl) (same_seqT s3 hha) (by rw [List.length_map]; have := ok.hands.2; omega) (fun v => rfl) ?_)) ?_)
  · intro j v H' Q hv e q
    rw [List.getElem?_map] at hv
    cases ec : P.hands[j]? with
    | none =>
      rw [ec] at hv
      cases hv
    | some k =>
      rw [ec] at hv
      have ev : V.int (k : Nat) = v := by simpa using hv
      subst ev
      obtain ⟨f, hf, hz⟩ := ok.hand k (List.mem_of_getElem? ec)
      exact ⟨_, rfl, _, rfl, k, fa, fs, P.funs, f, rfl, same_seqT (s3.trans e) hfa, hfs.mono (s3.trans e), hf, hz, q _ (Same.refl _)⟩
  intro H4 e4
  show Q V.non H4
  exact q _ (((e1.trans e2).trans e3).trans e4)
theorem rd_Scope_init (T : Fx K) (vs : List V) (H : Hp) (Q : VK) (E : XK) (h : sp_Scope_init K vs H Q E) : t_Scope_init K { nx := fun _ H' => Q .non H', rt := Q } (start n_Scope_init vs) H := by
  obtain ⟨F, x, dx, a, k, P, f, rfl, s0, hP, hf, hz, q⟩ := h
  obtain ⟨ca, fa, ha, fs, hpa, hca, hfa, hfs, hha⟩ := hP.ex
  have lt := (List.getElem?_eq_some_iff.mp hf).1
  have lf := hfs.length
  obtain ⟨v, hv⟩ : ∃ v, fs[k]? = some v := ⟨fs[k], by simp [show k < fs.length by omega]⟩
  obtain ⟨f', hf', a', ba, ys, rfl, g1, g2, g3⟩ := hfs.get hv
  rw [hf] at hf'
  cases hf'
  refine st_seq (st_asgI ?_)
  refine ⟨_, rfl, a, _, rfl, same_seqT s0.fr hpa, rfl, _, _, rfl, _, _, rfl, _, _, rfl, rfl, ?_⟩
  dsimp only [List.set]
  have v0 : ∀ H y, Val (tVar 0) [some (.ref x), some (.ref a), some (.int (k : Nat)), some (.ref ca), some (.ref fa), some (.ref ha), y] H (.ref x) := fun H y => val_var rfl
  have vl := val_lenT (K := K) (σ := [some (.ref x), some (.ref a), some (.int (k : Nat)), some (.ref ca), some (.ref fa), some (.ref ha), none]) (ta := tVar 3) (val_var rfl) (same_seqT s0.fr hca)
  rw [List.length_map] at vl
  refine sq_fld vl (v0 H none) (s0.get List.mem_cons_self) T.cls_Scope T.na_Scope_many_cells (by show 0 < 1000; decide) ?_
  have s1 := s0.put (u := .ins (He.ga K "Scope") dx (putF "many_cells" (.int (P.cells.length : Nat)) []))
  generalize upd H x _ = H1 at s1 ⊢
  have vn := val_ixT (K := K) (val_ixT (K := K) (σ := [some (.ref x), some (.ref a), some (.int (k : Nat)), some (.ref ca), some (.ref fa), some (.ref ha), none]) (ta := tVar 4) (tb := tVar 2) (val_var rfl) (val_var rfl) (same_seqT s1.fr hfa) (atI_nat hv)) (val_c (v := .int 1)) (same_seqT s1.fr g1) (atI_nat (j := 1) rfl)
  refine sq_fld vn (v0 H1 none) (s1.get List.mem_cons_self) T.cls_Scope T.na_Scope_many_names (by show 1 < 1000; decide) ?_
  have s2 := s1.put (u := .ins (He.ga K "Scope") dx [("many_cells", .int (P.cells.length : Nat)), ("many_names", .int (f.names : Nat))])
  have eO : (HO.ins (He.ga K "Scope") dx (putF "many_names" (.int (f.names : Nat)) (putF "many_cells" (.int (P.cells.length : Nat)) []))) = .ins (He.ga K "Scope") dx [("many_cells", .int (P.cells.length : Nat)), ("many_names", .int (f.names : Nat))] := rfl
  rw [eO]
  generalize upd H1 x _ = H2 at s2 ⊢
  refine ⟨_, rfl, fa, rfl, ⟨fs, same_seqT s2.fr hfa⟩, fun D hD => ?_⟩
  have s3 := s2.new (o := .lst []) hD
  refine lc_tup (K := K) (fun j H' => Sat F [(D, .lst ((P.funs.take j).map fun f => V.int (f.params : Nat))), (x, .ins (He.ga K "Scope") dx [("many_cells", .int (P.cells.length : Nat)), ("many_names", .int (f.names : Nat))])] H') s3 (fun j H' _ w => same_seqT w.fr hfa) ?_ ?_
  · rintro j v H3 hv w
    obtain ⟨f2, hf2, fa', ba2, ys2, rfl, h1, h2, h3⟩ := hfs.get hv
    refine ⟨rfl, ?_⟩
    unfold tYes
    refine Eq.mpr (if_pos rfl) ?_
    refine ⟨_, rfl, fa', _, 0, _, rfl, rfl, same_seqT w.fr h1, atI_nat (j := 0) rfl, ?_⟩
    refine ⟨_, w.get List.mem_cons_self, ?_, ?_⟩
    · rw [List.length_map, List.length_take]
      exact Nat.lt_of_le_of_lt (by omega : _ ≤ 1000) (by decide)
    · have et : P.funs.take (j + 1) = P.funs.take j ++ [f2] := by
        rw [List.take_succ, hf2]
        rfl
      rw [et, List.map_append]
      exact w.put
  intro H3 w
  rw [hfs.length, List.take_length] at w
  have w1 := w.perm (List.Perm.swap _ _ _)
  refine ⟨_, rfl, x, _, dx, _, rfl, w1.get List.mem_cons_self, T.cls_Scope, T.na_Scope_params, (by show 2 < 1000; decide), ?_⟩
  exact q D _ (w1.put (u := scO K dx P.cells.length f.names D))
theorem rd__is_of_kind (vs : List V) (H : Hp) (Q : VK) (E : XK) (h : sp__is_of_kind K vs H Q E) : t__is_of_kind K { nx := fun _ H' => Q .non H', rt := Q } (start n__is_of_kind vs) H := by
  obtain ⟨v, k, rfl, hk, q⟩ := h
  have v1 : ∀ H, Val (tVar 1) [some v, some (.str k)] H (.str k) := fun H => val_var rfl
  cases hk with
  | part =>
    refine sq_yes (fun Q q => tsEq (v1 H) val_c (b := true) (by decide +kernel) q) ?_
    exact st_ret val_c (q _ (Same.refl _))
  | @parts a xs ha =>
    refine sq_no (fun Q q => tsEq (v1 H) val_c (b := false) (by decide +kernel) q) ?_
    refine st_seq (st_yesH (ans_in2 (b := true) (v1 H) rfl rfl rfl (by rw [inV2]; decide +kernel)) ?_)
    rintro H2 ⟨p, hp, rfl⟩
    refine st_ret (val_isT (val_var rfl) (same_seqT (same_new hp) ha)) ?_
    exact q _ (same_new hp)
  | @body a xs ha =>
    refine sq_no (fun Q q => tsEq (v1 H) val_c (b := false) (by decide +kernel) q) ?_
    refine st_seq (st_yesH (ans_in2 (b := true) (v1 H) rfl rfl rfl (by rw [inV2]; decide +kernel)) ?_)
    rintro H2 ⟨p, hp, rfl⟩
    refine st_ret (val_isT (val_var rfl) (same_seqT (same_new hp) ha)) ?_
    exact q _ (same_new hp)
  | @other _ i hk =>
    have n1 : decide (k = "part") = false := by rcases hk with z | z | z | z <;> (rw [z]; decide +kernel)
    have n2 : inV (.str k) [.str "body", .str "parts"] = false := by
      rw [inV2]
      rcases hk with z | z | z | z <;> (rw [z]; decide +kernel)
    refine sq_no (fun Q q => tsEq (v1 H) val_c (b := false) n1 q) ?_
    refine st_seq (st_noH (ans_in2 (b := false) (v1 H) rfl rfl rfl n2) ?_)
    rintro H2 ⟨p, hp, rfl⟩
    refine ⟨_, rfl, _, rfl, .int i, ?_⟩
    exact q _ (same_new hp)
end
end S
set_option Elab.async false
set_option linter.all false
set_option maxRecDepth 100000
set_option maxHeartbeats 4000000
namespace S
open PySem PySem.Spec PyProof.Rows L2
section
variable {K : PySem.W.Frag}
theorem walk_zipT {a b : Addr} {xs ys : List V} (hl : xs.length = ys.length) : Walk (RZ.ItzT K a b) xs.length (fun H => SqT K H a xs ∧ SqT K H b ys) (YPair (fun i => xs[i]?) (fun i => ys[i]?)) := by
  refine ⟨fun i _ hi q => ?_, fun _ q => ⟨xs, ys, q.1, q.2, by omega⟩, fun i H v H' _ q y => ?_⟩
  · exact ⟨xs, ys, xs[i], ys[i]'(by omega), q.1, q.2, by simp [hi], by simp [show i < ys.length by omega]⟩
  · obtain ⟨T, x, z, h1, h2, h3, h4, h5⟩ := y
    exact ⟨T, x, z, h1, h2, h3, h4 xs q.1, h5 ys q.2⟩
theorem KindsAt.length {H : Hp} : ∀ {ks : List Str} {vs : List V}, KindsAt K H ks vs → ks.length = vs.length
  | _, _, .nil => rfl
  | _, _, .cons _ t => by rw [List.length_cons, List.length_cons, t.length]
theorem KindsAt.get {H : Hp} : ∀ {ks : List Str} {vs : List V} {i : Nat} {k : Str} {v : V}, KindsAt K H ks vs → ks[i]? = some k → vs[i]? = some v → KindAt K H k v
  | _, _, _, _, _, .nil, h, _ => by simp at h
  | _, _, 0, _, _, .cons h _, e1, e2 => by
    simp at e1 e2
    rw [← e1, ← e2]
    exact h
  | _, _, i + 1, _, _, .cons _ t, e1, e2 => by
    rw [List.getElem?_cons_succ] at e1 e2
    exact t.get e1 e2
theorem FitsAt.get {H : Hp} {nc n : Nat} {pms : List Nat} {fi : Option Nat} : ∀ {ks : List Str} {vs : List V} {i : Nat} {k : Str} {v : V}, FitsAt K H nc n pms fi ks vs → ks[i]? = some k → vs[i]? = some v → FitAt K H nc n pms fi k v
  | _, _, _, _, _, .nil, h, _ => by simp at h
  | _, _, 0, _, _, .cons h _, e1, e2 => by
    simp at e1 e2
    rw [← e1, ← e2]
    exact h
  | _, _, i + 1, _, _, .cons _ t, e1, e2 => by
    rw [List.getElem?_cons_succ] at e1 e2
    exact t.get e1 e2
theorem KindAt.mono {H H' : Hp} (e : Same H H') {k : Str} {v : V} : KindAt K H k v → KindAt K H' k v
  | .part => .part
  | .parts h => .parts (same_seqT e h)
  | .body h => .body (same_seqT e h)
  | .other h => .other h
theorem kindTab_len (b : Bool) : ∀ p ∈ kindTab b, p.2.length ≤ 3 := by cases b <;> decide
theorem rd__has_shape (vs : List V) (H : Hp) (Q : VK) (E : XK) (h : sp__has_shape K vs H Q E) : t__has_shape K { nx := fun _ H' => Q .non H', rt := Q } (start n__has_shape vs) H := by
  obtain ⟨F, a, b, z, ks, xs, rfl, sF, ht, hm, hk, q⟩ := h
  have hlen := hk.length
  have hks : ks.length ≤ 3 := kindTab_len b (z, ks) hm
  have v0 : ∀ (H : Hp) (x y w : Option V), Val (tVar 0) [some (.ref a), some (.bl b), x, y, w] H (.ref a) := fun H x y w => val_var rfl
  have htH := same_seqT sF ht
  have vz : Val (tOp (rIxT K) (tVar 0) (tC (.int 0))) [some (.ref a), some (.bl b), none, none, none] H (.str z) := val_ixT (v0 H none none none) val_c htH (atI_nat (j := 0) rfl)
  have c1 : Ans (tNot (tB (tCB (rIsi K) (tCons (tVar 0) (tCons (tC (.ty "tuple")) tNil))))) [some (.ref a), some (.bl b), none, none, none] H false := ans_not (ans_val (val_isT (v0 H none none none) htH))
  have c2 : Ans (tNot (tTru K (tVar 0))) [some (.ref a), some (.bl b), none, none, none] H false := ans_not (ans_tr (b := true) (v0 H none none none) (.inr (.inl ⟨_, htH, rfl⟩)))
  have vs3 : Val (tCB (rIsi K) (tCons (tOp (rIxT K) (tVar 0) (tC (.int 0))) (tCons (tC (.ty "str")) tNil))) [some (.ref a), some (.bl b), none, none, none] H (.bl true) := by
    intro Q q
    refine vz _ ?_
    exact ⟨_, _, _, _, true, rfl, .ty _, .base (.str z), kit_ty (by decide +kernel), q⟩
  have c3 := ans_not (ans_val vs3)
  refine sq_no (ans_or c1 (ans_or c2 c3)) ?_
  refine st_seq (st_asgI (call_args (args_cons (vz _ (args_cons ((val_var rfl : Val (tVar 1) _ H (.bl b)) _ (args_nil ?_)))))))
  refine ⟨z, b, ks, rfl, hm, fun t hkt => ?_⟩
  dsimp only [gName, List.set]
  have v0' := v0 H (some (.ref t)) none none
  have d1 : Ans (tTest (tOp rIsN (tVar 2) (tC .non))) [some (.ref a), some (.bl b), some (.ref t), none, none] H false := ans_isN (val_var rfl) (decide_eq_false (by simp))
  have vk := val_lenT (K := K) (σ := [some (.ref a), some (.bl b), some (.ref t), none, none]) (ta := tVar 2) (val_var rfl) (hkt H)
  have vl := val_lenT (K := K) v0' htH
  have d2 : Ans (tTest (tOp rNe (tCB (Evl.rLenS K) (tCons (tVar 0) tNil)) (tOp (rI0 fun i j => .int (i + j)) (tCB (Evl.rLenS K) (tCons (tVar 2) tNil)) (tC (.int 1))))) [some (.ref a), some (.bl b), some (.ref t), none, none] H false := by
    refine ans_ne vl (val_op vk val_c (z := .int (((ks.map V.str).length : Int) + 1)) fun Q q => ⟨_, _, rfl, rfl, q⟩) rfl ?_
    rw [decInt, List.length_cons, List.length_map, hlen, decide_eq_true (by omega)]
    rfl
  refine sq_no (ans_or d1 d2) ?_
  refine st_retI ?_
  refine ⟨_, rfl, _, rfl, _, rfl, a, _, rfl, htH, fun hc => absurd hc.1 (sIx_tail _ _), fun _ p hp => ?_⟩
  rw [show cutV (.str z :: xs) (some 1) none = xs from cut_tail _ _]
  have e1 : Same H (upd H p (.tup xs)) := same_new hp
  refine ⟨t, p, ks.map V.str, xs, rfl, .inr ⟨hkt _, .inl (.inl upd_same), fun D hD => ?_⟩⟩
  generalize hH2 : upd H p (.tup xs) = H2 at e1 hD ⊢
  have hp2 : SqT K H2 p xs := by rw [← hH2]; exact .inl (.inl upd_same)
  have s1 : Sat H2 [(D, .lst (List.replicate 0 (V.bl true)))] (upd H2 D (.lst [])) := (Sat.nil (Same.refl H2)).new hD
  refine lc_it (walk_zipT (K := K) (a := t) (b := p) (xs := ks.map V.str) (ys := xs) (by rw [List.length_map]; exact hlen)) (fun j H' => Sat H2 [(D, .lst (List.replicate j (V.bl true)))] H') s1 (fun j H' _ w => ⟨hkt _, same_seqT w.fr hp2⟩) ?_ ?_
  · rintro j v H' H'' hj w ⟨T', x, y, rfl, hT, rfl, ex, ey⟩
    have ex' : (ks.map V.str)[j]? = some x := ex
    rw [List.getElem?_map] at ex'
    cases ek : ks[j]? with
    | none =>
      rw [ek] at ex'
      cases ex'
    | some k =>
    rw [ek] at ex'
    have ev : V.str k = x := by simpa using ex'
    subst ev
    have hkd := hk.get ek ey
    have w1 := w.temp (o := .tup [.str k, y]) hT
    refine ⟨T', _, rfl, .inl (.inl upd_same), rfl, _, _, rfl, _, _, rfl, rfl, ?_⟩
    generalize upd H' T' _ = H3 at w1 ⊢
    refine ⟨rfl, ?_⟩
    unfold tYes
    refine Eq.mpr (if_pos rfl) ?_
    refine ⟨_, rfl, _, rfl, y, k, rfl, hkd.mono ((sF.trans e1).trans w1.fr), fun H4 e4 => ?_⟩
    have w2 := w1.grow e4
    refine ⟨_, w2.get List.mem_cons_self, ?_, ?_⟩
    · rw [List.length_replicate]
      rw [List.length_map] at hj
      exact Nat.lt_of_le_of_lt (by omega : j ≤ 3) (by decide)
    · have e2 : List.replicate j (V.bl true) ++ [V.bl true] = List.replicate (j + 1) (V.bl true) := by rw [List.replicate_succ']
      rw [e2]
      exact w2.put
  · intro H' w
    have hl := w.get List.mem_cons_self
    refine ⟨D, List.replicate (ks.map V.str).length true, rfl, ?_, ?_⟩
    · rw [List.map_replicate]
      exact SqL.of hl
    · have ea : (List.replicate (ks.map V.str).length true).all id = true := by simp
      rw [ea]
      exact q _ (e1.trans w.fr)
theorem firstN_some {xs : List V} {g : Nat} (h : firstN xs = some g) : ∃ r, xs = .int (g : Nat) :: r := by
  unfold firstN at h
  split at h
  · cases h
    exact ⟨_, rfl⟩
  · cases h
theorem rd__fault_of (T : Fx K) (vs : List V) (H : Hp) (Q : VK) (E : XK) (h : sp__fault_of K vs H Q E) : t__fault_of K { nx := fun _ H' => Q .non H', rt := Q } (start n__fault_of vs) H := by
  obtain ⟨F, a, x, dx, l, b, z, ks, xs, nc, n, pms, rfl, sF, ht, hm, hk, hx, hl, hfit, q⟩ := h
  have hlen := hk.length
  have hks : ks.length ≤ 3 := kindTab_len b (z, ks) hm
  have v0 : ∀ (H : Hp) (y w : Option V), Val (tVar 0) [some (.ref a), some (.bl b), some (.ref x), y, w] H (.ref a) := fun H y w => val_var rfl
  have hs : AnsH (tNot (tB (tCall (sp__has_shape K) [] E0 (tCons (tVar 0) (tCons (tVar 1) tNil))))) [some (.ref a), some (.bl b), some (.ref x), none, none] H false (Same H) := by
    intro Q q
    refine ⟨_, rfl, _, rfl, F, a, b, z, ks, xs, rfl, sF, ht, hm, hk, fun H' e => ⟨true, rfl, q _ e⟩⟩
  refine st_seq (st_noH hs ?_)
  intro H1 e1
  have s1 := sF.trans e1
  have htH := same_seqT s1 ht
  refine ⟨_, rfl, a, _, 0, .str z, rfl, rfl, htH, at_of (j := 0) rfl rfl, _, rfl, ?_⟩
  refine ⟨z, b, ks, rfl, hm, fun t hkt => ?_⟩
  refine ⟨_, rfl, _, rfl, a, _, rfl, htH, fun hc => absurd hc.1 (sIx_tail _ _), fun _ p hp => ?_⟩
  rw [show cutV (.str z :: xs) (some 1) none = xs from cut_tail _ _]
  have e2 : Same H1 (upd H1 p (.tup xs)) := same_new hp
  refine ⟨t, p, ks.map V.str, xs, rfl, .inr ⟨hkt _, .inl (.inl upd_same), ?_⟩⟩
  generalize hH2 : upd H1 p (.tup xs) = H2 at e2 ⊢
  have hp2 : SqT K H2 p xs := by rw [← hH2]; exact .inl (.inl upd_same)
  have s2 := s1.trans e2
  refine for_it (walk_zipT (K := K) (a := t) (b := p) (xs := ks.map V.str) (ys := xs) (by rw [List.length_map]; exact hlen)) (fun j σ H' => Same H2 H' ∧ ∃ v3 v4 : Option V, σ = [some (.ref a), some (.bl b), some (.ref x), v3, v4]) ⟨Same.refl _, none, none, rfl⟩ (fun j σ H' _ w => ⟨hkt _, same_seqT w.1 hp2⟩) ?_ ?_
  · rintro j v σ H' H'' hj ⟨w, v3, v4, rfl⟩ ⟨T', x', y, rfl, hT, rfl, ex, ey⟩
    have ex' : (ks.map V.str)[j]? = some x' := ex
    rw [List.getElem?_map] at ex'
    cases ek : ks[j]? with
    | none =>
      rw [ek] at ex'
      cases ex'
    | some k =>
    rw [ek] at ex'
    have ev : V.str k = x' := by simpa using ex'
    subst ev
    have hkd := hk.get ek ey
    have hft := hfit.get ek ey
    have w1 : Same H2 (upd H' T' (.tup [.str k, y])) := w.trans (same_new hT)
    refine ⟨T', _, rfl, .inl (.inl upd_same), rfl, _, _, rfl, _, _, rfl, rfl, ?_⟩
    generalize upd H' T' _ = H3 at w1 ⊢
    have s3 := s2.trans w1
    dsimp only [gName, List.set]
    have k3 : Val (tVar 3) [some (.ref a), some (.bl b), some (.ref x), some (.str k), some y] H3 (.str k) := val_var rfl
    have k4 : Val (tVar 4) [some (.ref a), some (.bl b), some (.ref x), some (.str k), some y] H3 y := val_var rfl
    have k2 : Val (tVar 2) [some (.ref a), some (.bl b), some (.ref x), some (.str k), some y] H3 (.ref x) := val_var rfl
    have hxo := s3 _ _ hx
    have word : ∀ (w : Str) (t2 : TT), (k = w → Ans t2 [some (.ref a), some (.bl b), some (.ref x), some (.str k), some y] H3 false) → Ans (tAnd (tTest (tOp rEq (tVar 3) (tC (.str w)))) t2) [some (.ref a), some (.bl b), some (.ref x), some (.str k), some y] H3 false := by
      intro w t2 ht2
      by_cases e : k = w
      · exact ans_and (b := false) (fun Q q => tsEq k3 val_c (b := true) (decide_eq_true e) q) (ht2 e)
      · exact ans_and0 fun Q q => tsEq k3 val_c (b := false) (decide_eq_false e) q
    have chain : ∀ (i m : Nat) (tc : TE), y = .int (i : Nat) → i < m → Val tc [some (.ref a), some (.bl b), some (.ref x), some (.str k), some y] H3 (.int (m : Nat)) →
        Ans (tNot (tTest (tChain (rI0 fun i j => .bl (decide (i ≤ j))) (rI0 fun i j => .bl (decide (i < j))) (tC (.int 0)) (tVar 4) tc))) [some (.ref a), some (.bl b), some (.ref x), some (.str k), some y] H3 false := by
      intro i m tc ey hi hc
      rw [ey] at k4
      have vc := val_chain (p1 := fun i j => decide (i ≤ j)) (p2 := fun i j => decide (i < j)) (val_c (v := .int 0)) (by rw [ey]; exact k4 : Val (tVar 4) [some (.ref a), some (.bl b), some (.ref x), some (.str k), some y] H3 (.int (i : Nat))) hc (decide_eq_true (by omega)) (decide_eq_true (by omega))
      exact ans_not (b := true) fun Q q => vc _ ⟨true, rfl, q⟩
    have vn := val_fld k2 hxo T.cls_Scope T.na_Scope_many_names rfl
    have vc := val_fld k2 hxo T.cls_Scope T.na_Scope_many_cells rfl
    have vp := val_fld k2 hxo T.cls_Scope T.na_Scope_params rfl
    have hl3 := s3.seq hl
    have vpl := val_len (K := K) vp hl3
    rw [List.length_map] at vpl
    refine sq_no (word "number" _ fun e => ?_) ?_
    · rw [e] at hft
      generalize hkk : ("number" : Str) = kk at hft
      cases hft with
      | part => exact absurd hkk (by decide +kernel)
      | body => exact absurd hkk (by decide +kernel)
      | @number i h1 h2 =>
        have vh : Val (tCall (sp_can_be_held K) [] E0 (tCons (tVar 4) tNil)) [some (.ref a), some (.bl b), some (.ref x), some (.str k), some (.int i)] H3 (.bl true) := by
          intro Q q
          refine ⟨_, rfl, _, rfl, .int i, ?_⟩
          have eh : isHeld (.int i) = true := by
            show (decide (0 ≤ i) && decide (i < 10007)) = true
            rw [decide_eq_true h1, decide_eq_true h2]
            rfl
          rw [eh]
          exact q
        exact ans_not (ans_val vh)
      | name => exact absurd hkk (by decide +kernel)
      | cell => exact absurd hkk (by decide +kernel)
      | fn => exact absurd hkk (by decide +kernel)
      | parts => exact absurd hkk (by decide +kernel)
    refine sq_no (word "name" _ fun e => ?_) ?_
    · rw [e] at hft
      generalize hkk : ("name" : Str) = kk at hft
      cases hft with
      | @name i h1 => exact chain i n _ rfl h1 vn
      | _ => exact absurd hkk (by decide +kernel)
    refine sq_no (word "cell" _ fun e => ?_) ?_
    · rw [e] at hft
      generalize hkk : ("cell" : Str) = kk at hft
      cases hft with
      | @cell i h1 => exact chain i nc _ rfl h1 vc
      | _ => exact absurd hkk (by decide +kernel)
    refine sq_no (word "fun" _ fun e => ?_) ?_
    · rw [e] at hft
      generalize hkk : ("fun" : Str) = kk at hft
      cases hft with
      | @fn i h1 => exact chain i pms.length _ rfl h1 vpl
      | _ => exact absurd hkk (by decide +kernel)
    refine st_no (word "parts" _ fun e => ?_) ⟨w1, _, _, rfl⟩
    rw [e] at hft
    generalize hkk : ("parts" : Str) = kk at hft
    cases hft with
    | @parts pa pxs g h1 h2 h3 =>
      have hx1 := firstN_some h2
      obtain ⟨r, hr⟩ := hx1
      have htH3 := same_seqT s3 ht
      rw [hr] at htH3
      have vi := val_ixT (K := K) (v0 H3 (some (.str k)) (some (.ref pa))) (val_c (v := .int 1)) htH3 (atI_nat (j := 1) rfl)
      have vq := val_ixL (K := K) vp vi hl3 (atI_nat (j := g) (by rw [List.getElem?_map, h3]; rfl))
      refine ans_ne (val_lenT k4 (same_seqT s3 h1)) vq rfl ?_
      rw [decInt, decide_eq_true rfl]
      rfl
    | _ => exact absurd hkk (by decide +kernel)
  · rintro σ H' ⟨w, v3, v4, rfl⟩
    show Q .non H'
    exact q _ ((e1.trans e2).trans w)
end
end S
set_option Elab.async false
set_option linter.all false
set_option maxRecDepth 100000
set_option maxHeartbeats 4000000
namespace S
open PySem PySem.Spec PyProof.Rows L2
section
variable {K : PySem.W.Frag}
inductive ThingsAt (K : PySem.W.Frag) (G : Hp) : List (V × Bool) → List Thing → Prop
  | nil : ThingsAt K G [] []
  | cons {v : V} {b : Bool} {ws : List (V × Bool)} {t : Thing} {ts : List Thing} : ThingAt K G v t → b = t.isDeed → ThingsAt K G ws ts → ThingsAt K G ((v, b) :: ws) (t :: ts)
theorem ThingsAt.append {G : Hp} : ∀ {ws us : List (V × Bool)} {ts rs : List Thing}, ThingsAt K G ws ts → ThingsAt K G us rs → ThingsAt K G (ws ++ us) (ts ++ rs)
  | _, _, _, _, .nil, s => s
  | _, _, _, _, .cons h e t, s => .cons h e (t.append s)
theorem ThingsAt.length {G : Hp} : ∀ {ws : List (V × Bool)} {ts : List Thing}, ThingsAt K G ws ts → ws.length = ts.length
  | _, _, .nil => rfl
  | _, _, .cons _ _ t => by rw [List.length_cons, List.length_cons, t.length]
theorem deeds_at {G : Hp} : ∀ {b : Body} {vs : List V}, DeedsAt K G vs b → ThingsAt K G (vs.map (·, true)) (b.deeds.map Thing.deed)
  | .nil, _, h => by
    cases h
    exact .nil
  | .set _ _ r, _, ⟨ta, vs', h, t, d⟩ => by
    subst h
    exact .cons ⟨ta, [], rfl, t, rfl⟩ rfl (deeds_at d)
  | .put _ _ r, _, ⟨ta, vs', h, t, d⟩ => by
    subst h
    exact .cons ⟨ta, [], rfl, t, rfl⟩ rfl (deeds_at d)
  | .say _ r, _, ⟨ta, vs', h, t, d⟩ => by
    subst h
    exact .cons ⟨ta, [], rfl, t, rfl⟩ rfl (deeds_at d)
  | .iff _ a b r, _, ⟨ta, vs', pa, xa, xb, ya, yb, h, t, p, h1, d1, h2, d2, d⟩ => by
    subst h
    exact .cons ⟨ta, [], pa, xa, xb, ya, yb, rfl, t, p, h1, d1, h2, d2, rfl⟩ rfl (deeds_at d)
  | .again _ b r, _, ⟨ta, vs', pa, xb, yb, h, t, p, h2, d2, d⟩ => by
    subst h
    exact .cons ⟨ta, [], pa, xb, yb, rfl, t, p, h2, d2, rfl⟩ rfl (deeds_at d)
  | .call _ _ _ r, _, ⟨ta, vs', h, t, d⟩ => by
    subst h
    exact .cons ⟨ta, [], rfl, t, rfl⟩ rfl (deeds_at d)
  | .ret _ r, _, ⟨ta, vs', h, t, d⟩ => by
    subst h
    exact .cons ⟨ta, [], rfl, t, rfl⟩ rfl (deeds_at d)
theorem parts_at {G : Hp} : ∀ {vs : List V} {ps : List Part}, PartsAt K G vs ps → ThingsAt K G (vs.map (·, false)) (ps.map Thing.part)
  | _, _, .nil => .nil
  | _, _, .cons h t => .cons ⟨_, rfl, h⟩ rfl (parts_at t)
theorem deeds_one : ∀ (b : Body), ∀ d ∈ b.deeds, One d
  | .nil, d, h => by cases h
  | .set _ _ r, d, h => by
    rcases List.mem_cons.mp h with z | z
    · rw [z]; exact .set
    · exact deeds_one r d z
  | .put _ _ r, d, h => by
    rcases List.mem_cons.mp h with z | z
    · rw [z]; exact .put
    · exact deeds_one r d z
  | .say _ r, d, h => by
    rcases List.mem_cons.mp h with z | z
    · rw [z]; exact .say
    · exact deeds_one r d z
  | .iff _ _ _ r, d, h => by
    rcases List.mem_cons.mp h with z | z
    · rw [z]; exact .iff
    · exact deeds_one r d z
  | .again _ _ r, d, h => by
    rcases List.mem_cons.mp h with z | z
    · rw [z]; exact .again
    · exact deeds_one r d z
  | .call _ _ _ r, d, h => by
    rcases List.mem_cons.mp h with z | z
    · rw [z]; exact .call
    · exact deeds_one r d z
  | .ret _ r, d, h => by
    rcases List.mem_cons.mp h with z | z
    · rw [z]; exact .ret
    · exact deeds_one r d z
theorem deeds_size : ∀ b : Body, sizesT (b.deeds.map Thing.deed) = b.things
  | .nil => rfl
  | .set _ p r => by
    have := deeds_size r
    simp only [Body.deeds, List.map_cons, sizesT, List.sum_cons, Thing.size, Body.things] at this ⊢
    omega
  | .put _ p r => by
    have := deeds_size r
    simp only [Body.deeds, List.map_cons, sizesT, List.sum_cons, Thing.size, Body.things] at this ⊢
    omega
  | .say p r => by
    have := deeds_size r
    simp only [Body.deeds, List.map_cons, sizesT, List.sum_cons, Thing.size, Body.things] at this ⊢
    omega
  | .iff p a b r => by
    have := deeds_size r
    simp only [Body.deeds, List.map_cons, sizesT, List.sum_cons, Thing.size, Body.things] at this ⊢
    omega
  | .again p b r => by
    have := deeds_size r
    simp only [Body.deeds, List.map_cons, sizesT, List.sum_cons, Thing.size, Body.things] at this ⊢
    omega
  | .call _ ps _ r => by
    have := deeds_size r
    simp only [Body.deeds, List.map_cons, sizesT, List.sum_cons, Thing.size, Body.things] at this ⊢
    omega
  | .ret p r => by
    have := deeds_size r
    simp only [Body.deeds, List.map_cons, sizesT, List.sum_cons, Thing.size, Body.things] at this ⊢
    omega
theorem sizesT_append (as bs : List Thing) : sizesT (as ++ bs) = sizesT as + sizesT bs := by
  unfold sizesT
  rw [List.map_append, List.sum_append]
theorem parts_size : ∀ ps : List Part, sizesT (ps.map Thing.part) = (ps.map Part.size).sum
  | [] => rfl
  | p :: ps => by
    have := parts_size ps
    simp only [List.map_cons, sizesT, List.sum_cons, Thing.size] at this ⊢
    omega
theorem deeds_all {nms pms : List Nat} {nc n : Nat} : ∀ b : Body, b.ok nms pms nc n → ∀ d ∈ b.deeds, d.ok nms pms nc n ∧ d.above ≤ b.above
  | .nil, _, d, h => by cases h
  | .set _ p r, o, d, h => by
    rcases List.mem_cons.mp h with z | z
    · rw [z]; exact ⟨⟨o.1, o.2.1, trivial⟩, by simp only [Body.above]; omega⟩
    · have := deeds_all r o.2.2 d z
      exact ⟨this.1, Nat.le_trans this.2 (Nat.le_max_right _ _)⟩
  | .put _ p r, o, d, h => by
    rcases List.mem_cons.mp h with z | z
    · rw [z]; exact ⟨⟨o.1, o.2.1, trivial⟩, by simp only [Body.above]; omega⟩
    · have := deeds_all r o.2.2 d z
      exact ⟨this.1, Nat.le_trans this.2 (Nat.le_max_right _ _)⟩
  | .say p r, o, d, h => by
    rcases List.mem_cons.mp h with z | z
    · rw [z]; exact ⟨⟨o.1, trivial⟩, by simp only [Body.above]; omega⟩
    · have := deeds_all r o.2 d z
      exact ⟨this.1, Nat.le_trans this.2 (Nat.le_max_right _ _)⟩
  | .iff p a b r, o, d, h => by
    rcases List.mem_cons.mp h with z | z
    · rw [z]; exact ⟨⟨o.1, o.2.1, o.2.2.1, trivial⟩, by simp only [Body.above]; omega⟩
    · have := deeds_all r o.2.2.2 d z
      exact ⟨this.1, Nat.le_trans this.2 (Nat.le_max_right _ _)⟩
  | .again p b r, o, d, h => by
    rcases List.mem_cons.mp h with z | z
    · rw [z]; exact ⟨⟨o.1, o.2.1, trivial⟩, by simp only [Body.above]; omega⟩
    · have := deeds_all r o.2.2 d z
      exact ⟨this.1, Nat.le_trans this.2 (Nat.le_max_right _ _)⟩
  | .call _ ps _ r, o, d, h => by
    rcases List.mem_cons.mp h with z | z
    · rw [z]; exact ⟨⟨o.1, o.2.1, o.2.2.1, o.2.2.2.1, trivial⟩, by simp only [Body.above]; omega⟩
    · have := deeds_all r o.2.2.2.2 d z
      exact ⟨this.1, Nat.le_trans this.2 (Nat.le_max_right _ _)⟩
  | .ret p r, o, d, h => by
    rcases List.mem_cons.mp h with z | z
    · rw [z]; exact ⟨⟨o.1, trivial⟩, by simp only [Body.above]; omega⟩
    · have := deeds_all r o.2 d z
      exact ⟨this.1, Nat.le_trans this.2 (Nat.le_max_right _ _)⟩
end
end S
set_option Elab.async false
set_option linter.all false
set_option maxRecDepth 100000
set_option maxHeartbeats 4000000
namespace S
open PySem PySem.Spec PyProof.Rows L2
section
variable {K : PySem.W.Frag}
theorem le_foldr : ∀ {l : List Nat} {x : Nat}, x ∈ l → x ≤ l.foldr max 0
  | y :: l, x, h => by
    rw [List.foldr_cons]
    rcases List.mem_cons.mp h with z | z
    · rw [z]; exact Nat.le_max_left _ _
    · exact Nat.le_trans (le_foldr z) (Nat.le_max_right _ _)
theorem kids_size : ∀ {th : Thing}, th.One → sizesT th.kids + 1 = th.size
  | .part (.num _), _ => rfl
  | .part (.name _), _ => rfl
  | .part (.cell _), _ => rfl
  | .part (.bin o a b), _ => by simp [Thing.kids, Part.kids, sizesT, Thing.size, Part.size]
  | .deed _, .set => by simp [Thing.kids, Body.kids, sizesT, Thing.size, Body.things]
  | .deed _, .put => by simp [Thing.kids, Body.kids, sizesT, Thing.size, Body.things]
  | .deed _, .say => by simp [Thing.kids, Body.kids, sizesT, Thing.size, Body.things]
  | .deed _, .ret => by simp [Thing.kids, Body.kids, sizesT, Thing.size, Body.things]
  | .deed _, @One.iff p a b => by
    show sizesT ([Thing.part p] ++ (a.deeds.map Thing.deed ++ b.deeds.map Thing.deed)) + 1 = _
    rw [sizesT_append, sizesT_append, deeds_size, deeds_size]
    simp [sizesT, Thing.size, Body.things]
    omega
  | .deed _, @One.again p b => by
    show sizesT ([Thing.part p] ++ b.deeds.map Thing.deed) + 1 = _
    rw [sizesT_append, deeds_size]
    simp [sizesT, Thing.size, Body.things]
  | .deed _, @One.call f n ps => by
    show sizesT (ps.map Thing.part) + 1 = _
    rw [parts_size]
    simp [Thing.size, Body.things]
theorem thing_pos : ∀ {th : Thing}, th.One → 1 ≤ th.size := fun h => by have := kids_size h; omega
theorem kids_ok {nms pms : List Nat} {nc n : Nat} : ∀ {th : Thing}, th.One → th.ok nms pms nc n → ∀ k ∈ th.kids, k.One ∧ k.ok nms pms nc n ∧ k.above + 1 ≤ th.above
  | .part (.num _), _, _, k, h => by cases h
  | .part (.name _), _, _, k, h => by cases h
  | .part (.cell _), _, _, k, h => by cases h
  | .part (.bin o a b), _, ho, k, h => by
    have e : k = .part a ∨ k = .part b := by simpa [Thing.kids, Part.kids] using h
    rcases e with z | z
    · rw [z]; exact ⟨trivial, ho.1, by simp only [Thing.above, Part.deep]; omega⟩
    · rw [z]; exact ⟨trivial, ho.2, by simp only [Thing.above, Part.deep]; omega⟩
  | .deed _, @One.set i p, ho, k, h => by
    have e : k = .part p := by simpa [Thing.kids, Body.kids] using h
    rw [e]; exact ⟨trivial, ho.2.1, by simp only [Thing.above, Body.above]; omega⟩
  | .deed _, @One.put i p, ho, k, h => by
    have e : k = .part p := by simpa [Thing.kids, Body.kids] using h
    rw [e]; exact ⟨trivial, ho.2.1, by simp only [Thing.above, Body.above]; omega⟩
  | .deed _, @One.say p, ho, k, h => by
    have e : k = .part p := by simpa [Thing.kids, Body.kids] using h
    rw [e]; exact ⟨trivial, ho.1, by simp only [Thing.above, Body.above]; omega⟩
  | .deed _, @One.ret p, ho, k, h => by
    have e : k = .part p := by simpa [Thing.kids, Body.kids] using h
    rw [e]; exact ⟨trivial, ho.1, by simp only [Thing.above, Body.above]; omega⟩
  | .deed _, @One.iff p a b, ho, k, h => by
    have h' : k ∈ Thing.part p :: (a.deeds.map Thing.deed ++ b.deeds.map Thing.deed) := h
    rcases List.mem_cons.mp h' with z | z
    · rw [z]; exact ⟨trivial, ho.1, by simp only [Thing.above, Body.above]; omega⟩
    · rcases List.mem_append.mp z with z | z
      · obtain ⟨d, hd, rfl⟩ := List.mem_map.mp z
        have h1 := deeds_all a ho.2.1 d hd
        have h2 := h1.2
        exact ⟨deeds_one a d hd, h1.1, by simp only [Thing.above, Body.above]; omega⟩
      · obtain ⟨d, hd, rfl⟩ := List.mem_map.mp z
        have h1 := deeds_all b ho.2.2.1 d hd
        have h2 := h1.2
        exact ⟨deeds_one b d hd, h1.1, by simp only [Thing.above, Body.above]; omega⟩
  | .deed _, @One.again p b, ho, k, h => by
    have h' : k ∈ Thing.part p :: b.deeds.map Thing.deed := h
    rcases List.mem_cons.mp h' with z | z
    · rw [z]; exact ⟨trivial, ho.1, by simp only [Thing.above, Body.above]; omega⟩
    · obtain ⟨d, hd, rfl⟩ := List.mem_map.mp z
      have h1 := deeds_all b ho.2.1 d hd
      have h2 := h1.2
      exact ⟨deeds_one b d hd, h1.1, by simp only [Thing.above, Body.above]; omega⟩
  | .deed _, @One.call f i ps, ho, k, h => by
    have h' : k ∈ ps.map Thing.part := h
    obtain ⟨p, hp, rfl⟩ := List.mem_map.mp h'
    have h1 := le_foldr (List.mem_map.mpr ⟨p, hp, rfl⟩ : p.deep + 1 ∈ ps.map fun p => p.deep + 1)
    exact ⟨trivial, ho.2.2.2.1 p hp, by simp only [Thing.above, Body.above]; omega⟩
theorem deeds_len {G : Hp} {b : Body} {vs : List V} (h : DeedsAt K G vs b) : vs.length ≤ b.things := by
  have h1 := (deeds_at h).length
  rw [List.length_map, List.length_map] at h1
  have h2 := deeds_size b
  have h3 : ∀ ds : List Body, (∀ d ∈ ds, One d) → ds.length ≤ sizesT (ds.map Thing.deed) := by
    intro ds
    induction ds with
    | nil => exact fun _ => Nat.le_refl _
    | cons d ds ih =>
      intro hd
      have i1 := ih fun x hx => hd x (List.mem_cons_of_mem _ hx)
      have i2 := thing_pos (th := .deed d) (hd d List.mem_cons_self)
      simp only [List.map_cons, sizesT, List.sum_cons, List.length_cons] at i1 ⊢
      omega
  have h4 := h3 b.deeds (deeds_one b)
  omega
def Shape (K : PySem.W.Frag) (G : Hp) (nc n : Nat) (pms : List Nat) (v : V) (d : Bool) (kids : List Thing) : Prop :=
  ∃ a z ks xs ws, v = .ref a ∧ SqT K G a (.str z :: xs) ∧ (z, ks) ∈ kindTab d ∧ KindsAt K G ks xs ∧ FitsAt K G nc n pms (firstN xs) ks xs ∧ Withins K G ks xs ws ∧ ThingsAt K G ws kids
theorem shape_part {G : Hp} {nms pms : List Nat} {nc n : Nat} {p : Part} {v : V} (h : ThingAt K G v (.part p)) (ho : p.ok n nc) : Shape K G nc n pms v false (Thing.part p).kids := by
  obtain ⟨a, e, h⟩ := h
  cases p with
  | num i => exact ⟨a, _, _, _, [], e, h, (by decide : (("num", ["number"]) : Str × List Str) ∈ kindTab false), .cons (.other (.inl rfl)) .nil, .cons (.number ho.1 ho.2) .nil, .other (.inl rfl) .nil, .nil⟩
  | name i => exact ⟨a, _, _, _, [], e, h, (by decide : (("name", ["name"]) : Str × List Str) ∈ kindTab false), .cons (.other (.inr (.inl rfl))) .nil, .cons (.name ho) .nil, .other (.inr (.inl rfl)) .nil, .nil⟩
  | cell i => exact ⟨a, _, _, _, [], e, h, (by decide : (("cell", ["cell"]) : Str × List Str) ∈ kindTab false), .cons (.other (.inr (.inr (.inl rfl)))) .nil, .cons (.cell ho) .nil, .other (.inr (.inr (.inl rfl))) .nil, .nil⟩
  | bin o x y =>
    obtain ⟨b, c, h, h1, h2⟩ := h
    exact ⟨a, o.str, ["part", "part"], _, [(.ref b, false), (.ref c, false)], e, h, kind_mem o, .cons .part (.cons .part .nil), .cons .part (.cons .part .nil), .part (.part .nil), .cons ⟨b, rfl, h1⟩ rfl (.cons ⟨c, rfl, h2⟩ rfl .nil)⟩
theorem parts_len (ps : List Part) : ps.length ≤ (ps.map Part.size).sum := by
  induction ps with
  | nil => exact Nat.le_refl _
  | cons p ps ih =>
    have := thing_pos (th := .part p) trivial
    simp only [List.map_cons, List.sum_cons, List.length_cons, Thing.size] at this ⊢
    omega
end
end S
set_option Elab.async false
set_option linter.all false
set_option maxRecDepth 100000
set_option maxHeartbeats 1000000
namespace S
open PySem PySem.Spec PyProof.Rows L2
section
variable {K : PySem.W.Frag}
theorem shape_deed {G : Hp} {nms pms : List Nat} {nc n : Nat} (hlen : nms.length = pms.length) {b : Body} {v : V} (h : ThingAt K G v (.deed b)) (one : One b) (ho : b.ok nms pms nc n) (hz : b.things ≤ 100) : Shape K G nc n pms v true b.kids := by
  have hd : DeedsAt K G [v] b := h
  cases one with
  | @set i p =>
    obtain ⟨ta, vs', e, ht, _⟩ := hd
    obtain ⟨pa, t, hp⟩ := ht
    cases e
    exact ⟨ta, _, ["name", "part"], _, [(.ref pa, false)], rfl, t, (by decide : (("set", ["name", "part"]) : Str × List Str) ∈ kindTab true), .cons (.other (.inr (.inl rfl))) (.cons .part .nil), .cons (.name ho.1) (.cons .part .nil), .other (.inr (.inl rfl)) (.part .nil), .cons ⟨pa, rfl, hp⟩ rfl .nil⟩
  | @put i p =>
    obtain ⟨ta, vs', e, ht, _⟩ := hd
    obtain ⟨pa, t, hp⟩ := ht
    cases e
    exact ⟨ta, _, ["cell", "part"], _, [(.ref pa, false)], rfl, t, (by decide : (("put", ["cell", "part"]) : Str × List Str) ∈ kindTab true), .cons (.other (.inr (.inr (.inl rfl)))) (.cons .part .nil), .cons (.cell ho.1) (.cons .part .nil), .other (.inr (.inr (.inl rfl))) (.part .nil), .cons ⟨pa, rfl, hp⟩ rfl .nil⟩
  | @say p =>
    obtain ⟨ta, vs', e, ht, _⟩ := hd
    obtain ⟨pa, t, hp⟩ := ht
    cases e
    exact ⟨ta, _, ["part"], _, [(.ref pa, false)], rfl, t, (by decide : (("say", ["part"]) : Str × List Str) ∈ kindTab true), .cons .part .nil, .cons .part .nil, .part .nil, .cons ⟨pa, rfl, hp⟩ rfl .nil⟩
  | @ret p =>
    obtain ⟨ta, vs', e, ht, _⟩ := hd
    obtain ⟨pa, t, hp⟩ := ht
    cases e
    exact ⟨ta, _, ["part"], _, [(.ref pa, false)], rfl, t, (by decide : (("return", ["part"]) : Str × List Str) ∈ kindTab true), .cons .part .nil, .cons .part .nil, .part .nil, .cons ⟨pa, rfl, hp⟩ rfl .nil⟩
  | @iff p a b =>
    obtain ⟨ta, vs', pa, xa, xb, ya, yb, e, t, hp, h1, d1, h2, d2, _⟩ := hd
    cases e
    have l1 := deeds_len d1
    have l2 := deeds_len d2
    simp only [Body.things] at hz
    refine ⟨ta, _, ["part", "body", "body"], _, (.ref pa, false) :: (ya.map (·, true) ++ (yb.map (·, true) ++ [])), rfl, t, (by decide : (("if", ["part", "body", "body"]) : Str × List Str) ∈ kindTab true), .cons .part (.cons (.body h1) (.cons (.body h2) .nil)), .cons .part (.cons .body (.cons .body .nil)),
      .part (.body h1 (by omega) (.body h2 (by omega) .nil)), .cons ⟨pa, rfl, hp⟩ rfl ?_⟩
    rw [List.append_nil]
    exact (deeds_at d1).append (deeds_at d2)
  | @again p b =>
    obtain ⟨ta, vs', pa, xb, yb, e, t, hp, h2, d2, _⟩ := hd
    cases e
    have l2 := deeds_len d2
    simp only [Body.things] at hz
    refine ⟨ta, _, ["part", "body"], _, (.ref pa, false) :: (yb.map (·, true) ++ []), rfl, t, (by decide : (("again", ["part", "body"]) : Str × List Str) ∈ kindTab true), .cons .part (.cons (.body h2) .nil), .cons .part (.cons .body .nil),
      .part (.body h2 (by omega) .nil), .cons ⟨pa, rfl, hp⟩ rfl ?_⟩
    rw [List.append_nil]
    exact deeds_at d2
  | @call f i ps =>
    obtain ⟨ta, vs', e, ht, _⟩ := hd
    obtain ⟨pt, xs, t, hx, hp⟩ := ht
    cases e
    have l1 := hp.length
    have l3 := parts_len ps
    simp only [Body.things] at hz
    have hfl : f < pms.length := by rw [← hlen]; exact ho.1
    have hpm : pms[f]? = some xs.length := by
      rw [l1, ho.2.1, List.getD_eq_getElem?_getD, List.getElem?_eq_getElem hfl]
      rfl
    refine ⟨ta, _, ["fun", "parts", "name"], _, xs.map (·, false) ++ [], rfl, t, (by decide : (("call", ["fun", "parts", "name"]) : Str × List Str) ∈ kindTab true), .cons (.other (.inr (.inr (.inr rfl)))) (.cons (.parts hx) (.cons (.other (.inr (.inl rfl))) .nil)),
      .cons (.fn hfl) (.cons (.parts (g := f) hx rfl hpm) (.cons (.name ho.2.2.1) .nil)),
      .other (.inr (.inr (.inr rfl))) (.parts hx (by omega) (.other (.inr (.inl rfl)) .nil)), ?_⟩
    rw [List.append_nil]
    exact parts_at hp
theorem thing_shape {G : Hp} {nms pms : List Nat} {nc n : Nat} (hlen : nms.length = pms.length) {th : Thing} {v : V} (h : ThingAt K G v th) (one : th.One) (ho : th.ok nms pms nc n) (hz : th.size ≤ 100) : Shape K G nc n pms v th.isDeed th.kids := by
  cases th with
  | part p => exact shape_part (nms := nms) h ho
  | deed b => exact shape_deed hlen h one ho hz
end
end S
set_option Elab.async false
set_option linter.all false
set_option maxRecDepth 100000
set_option maxHeartbeats 1000000
namespace S
open PySem PySem.Spec PyProof.Rows L2
section
variable {K : PySem.W.Frag}
abbrev Ent := V × Bool × Nat
def entO (e : Ent) : HO := .tup [e.1, .bl e.2.1, .int (e.2.2 : Nat)]
def triR (es : List Ent) (as : List Addr) : Reg := as.zip (es.map entO)
theorem triR_cons {e : Ent} {es : List Ent} {a : Addr} {as : List Addr} : triR (e :: es) (a :: as) = (a, entO e) :: triR es as := rfl
theorem triR_append : ∀ {es fs : List Ent} {as bs : List Addr}, es.length = as.length → triR (es ++ fs) (as ++ bs) = triR es as ++ triR fs bs
  | [], fs, [], bs, _ => rfl
  | e :: es, fs, a :: as, bs, h => by
    show (a, entO e) :: triR (es ++ fs) (as ++ bs) = (a, entO e) :: (triR es as ++ triR fs bs)
    rw [triR_append (by simpa using h)]
inductive StkAt (K : PySem.W.Frag) (F : Hp) : List Ent → List (Thing × Nat) → Prop
  | nil : StkAt K F [] []
  | cons {v : V} {b : Bool} {n : Nat} {t : Thing} {es : List Ent} {sts : List (Thing × Nat)} : ThingAt K F v t → b = t.isDeed → StkAt K F es sts → StkAt K F ((v, b, n) :: es) ((t, n) :: sts)
theorem StkAt.append {F : Hp} : ∀ {es fs : List Ent} {ss ts : List (Thing × Nat)}, StkAt K F es ss → StkAt K F fs ts → StkAt K F (es ++ fs) (ss ++ ts)
  | _, _, _, _, .nil, s => s
  | _, _, _, _, .cons h e t, s => .cons h e (t.append s)
theorem StkAt.length {F : Hp} : ∀ {es : List Ent} {ss : List (Thing × Nat)}, StkAt K F es ss → es.length = ss.length
  | _, _, .nil => rfl
  | _, _, .cons _ _ t => by rw [List.length_cons, List.length_cons, t.length]
theorem stk_of {F : Hp} (n : Nat) : ∀ {ws : List (V × Bool)} {ts : List Thing}, ThingsAt K F ws ts → StkAt K F (ws.map fun w => (w.1, w.2, n)) (ts.map fun t => (t, n))
  | _, _, .nil => .nil
  | _, _, .cons h e t => .cons h e (stk_of n t)
theorem walk_revT {a : Addr} {xs : List V} : Walk (RT.ItvT K a xs.length) xs.length (fun H => SqT K H a xs) (fun i H x H' => H' = H ∧ xs[xs.length - 1 - i]? = some x) :=
  ⟨fun i _ hi q => ⟨hi, xs, xs[xs.length - 1 - i]'(by omega), q, by simp [show xs.length - 1 - i < xs.length by omega]⟩, fun _ _ => Nat.le_refl _, fun _ _ _ _ _ q y => ⟨y.1, y.2 xs q⟩⟩
theorem things_len : ∀ {ts : List Thing}, (∀ t ∈ ts, t.One) → ts.length ≤ sizesT ts
  | [], _ => Nat.le_refl _
  | t :: ts, h => by
    have i1 := things_len fun x hx => h x (List.mem_cons_of_mem t hx)
    have i2 := thing_pos (h t List.mem_cons_self)
    simp only [List.map_cons, sizesT, List.sum_cons, List.length_cons] at i1 ⊢
    omega
theorem drop_one {α : Type} {es : List α} {j : Nat} {e : α} (hj : j < es.length) (h : es[es.length - 1 - j]? = some e) : es.drop (es.length - (j + 1)) = e :: es.drop (es.length - j) := by
  have lt : es.length - 1 - j < es.length := by omega
  have e1 : es.length - (j + 1) = es.length - 1 - j := by omega
  rw [e1, List.drop_eq_getElem_cons lt, (List.getElem?_eq_some_iff.mp h).2]
  congr 2
  omega
theorem lc_first {σ : L2.St} {H : Hp} {i : Nat} {ba : Addr} {ys : List V} {Q : VK} (hi : σ[i]? = some (some (.ref ba))) (hb : SqT K H ba ys) (hz : ys.length ≤ 1000) {k : Nat} (hj : ∀ v : V, ((wipe σ [k]).set k (some v))[k]? = some (some v)) (hw : ∀ v : V, wipe ((wipe σ [k]).set k (some v)) [k] = wipe σ [k])
    (q : ∀ (D : Addr) (as : List Addr) (H' : Hp), as.length = ys.length → Sat H ((D, .lst (as.reverse.map V.ref)) :: triR (ys.map fun v => (v, true, 0)) as) H' → Q (.ref D) H') :
    tLc (RT.iRevA K (tVar i)) (gName k) tYes (tTup (tCons (tVar k) (tCons (tC (.bl true)) (tCons (tC (.int 0)) tNil)))) [k] σ H Q := by
  refine ⟨_, hi, ba, ys, rfl, .inr ⟨hb, fun D hD => ?_⟩⟩
  have s1 : Sat H [(D, .lst [])] (upd H D (.lst [])) := (Sat.nil (Same.refl H)).new hD
  refine lc_it (walk_revT (K := K) (a := ba) (xs := ys)) (fun j H' => ∃ as : List Addr, as.length = j ∧ Sat H ((D, .lst (as.reverse.map V.ref)) :: triR ((ys.map fun v => ((v, true, 0) : Ent)).drop (ys.length - j)) as) H')
    ⟨[], rfl, s1⟩ (fun j H' _ ⟨_, _, w⟩ => same_seqT w.fr hb) ?_ ?_
  · rintro j v H' H'' hj2 ⟨as, hl, w⟩ ⟨rfl, hv⟩
    refine ⟨hw v, ?_⟩
    unfold tYes
    refine Eq.mpr (if_pos rfl) ?_
    refine ⟨_, hj v, (by show 3 ≤ sizeLine; decide), fun t ht => ?_⟩
    have w2 := (w.new (o := entO (v, true, 0)) ht).perm (List.Perm.swap _ _ _)
    refine ⟨_, w2.get List.mem_cons_self, ?_, t :: as, by rw [List.length_cons, hl], ?_⟩
    · rw [List.length_map, List.length_reverse, hl]
      exact Nat.lt_of_le_of_lt (by omega : j ≤ 1000) (by decide)
    · have w3 := w2.put (u := .lst (as.reverse.map V.ref ++ [V.ref t]))
      have hle : (ys.map fun v => ((v, true, 0) : Ent)).length = ys.length := List.length_map ..
      have hd := drop_one (es := ys.map fun v => ((v, true, 0) : Ent)) (j := j) (e := (v, true, 0)) (by omega) (by rw [hle, List.getElem?_map, hv]; rfl)
      rw [hle] at hd
      rw [hd, triR_cons, List.reverse_cons, List.map_append]
      exact w3
  · rintro H' ⟨as, hl, w⟩
    rw [Nat.sub_self, List.drop_zero] at w
    exact q D as H' hl w
theorem lc_next {σ : L2.St} {F H : Hp} {i a1 j k : Nat} {l : Addr} {ts : List Addr} {ws : List (V × Bool)} {ab : Nat} {Q : VK} (hi : σ[i]? = some (some (.ref l)))
    (hv : ∀ v u : V, (((wipe σ [j, k]).set j (some v)).set k (some u))[j]? = some (some v)) (hu : ∀ v u : V, (((wipe σ [j, k]).set j (some v)).set k (some u))[k]? = some (some u)) (ha : ∀ v u : V, (((wipe σ [j, k]).set j (some v)).set k (some u))[a1]? = some (some (.int (ab : Nat))))
    (hw : ∀ v u : V, wipe (((wipe σ [j, k]).set j (some v)).set k (some u)) [j, k] = wipe σ [j, k]) (hl : ts.length = ws.length) (hz : ws.length ≤ 5000) (s : Sat F ((l, .lst (ts.map V.ref)) :: pairsR ws ts) H)
    (q : ∀ (D : Addr) (as : List Addr) (H' : Hp), as.length = ws.length → Sat F (((D, .lst (as.reverse.map V.ref)) :: triR (ws.map fun w => (w.1, w.2, ab + 1)) as) ++ ((l, .lst (ts.map V.ref)) :: pairsR ws ts)) H' → Q (.ref D) H') :
    tLc (iRev K (tCons (tVar i) tNil)) (gTup K 2 (gCons (gName j) (gCons (gName k) gNil))) tYes (tTup (tCons (tVar j) (tCons (tVar k) (tCons (tOp (rI0 fun i j => .int (i + j)) (tVar a1) (tC (.int 1))) tNil)))) [j, k] σ H Q := by
  have hL : ∀ {r : Reg} {H' : Hp}, Sat F (r ++ ((l, .lst (ts.map V.ref)) :: pairsR ws ts)) H' → SqL K H' l (ts.map V.ref) := fun s => SqL.of (s.tail.get List.mem_cons_self)
  refine ⟨_, hi, l, ts.map V.ref, rfl, hL (r := []) s, fun D hD => ?_⟩
  refine lc_Itv (K := K) (a := l) (xs := ts.map V.ref) (fun n H' => ∃ as : List Addr, as.length = n ∧ Sat F (((D, .lst (as.reverse.map V.ref)) :: triR ((ws.map fun w => ((w.1, w.2, ab + 1) : Ent)).drop (ws.length - n)) as) ++ ((l, .lst (ts.map V.ref)) :: pairsR ws ts)) H')
    ⟨[], rfl, s.new hD⟩ (fun n H' ⟨_, _, w⟩ => hL w) ?_ ?_
  · rintro n x H' hn hx ⟨as, hln, w⟩
    rw [List.length_map] at hn hx
    rw [List.getElem?_map] at hx
    obtain ⟨t, ht, rfl⟩ : ∃ t, ts[ts.length - 1 - n]? = some t ∧ x = V.ref t := by
      cases e : ts[ts.length - 1 - n]? with
      | none =>
        rw [e] at hx
        cases hx
      | some t =>
        rw [e] at hx
        exact ⟨t, rfl, (Option.some.inj hx).symm⟩
    obtain ⟨v, hv2, hm⟩ := pairsR_get hl ht
    refine ⟨t, _, rfl, SqT.of (w.get (List.mem_append_right _ (List.mem_cons_of_mem _ hm))), rfl, _, _, rfl, _, _, rfl, rfl, hw _ _, ?_⟩
    unfold tYes
    refine Eq.mpr (if_pos rfl) ?_
    refine ⟨_, hv _ _, _, hu _ _, ?_⟩
    have va : Val (tOp (rI0 fun i j => .int (i + j)) (tVar a1) (tC (.int 1))) (((wipe σ [j, k]).set j (some v.1)).set k (some (V.bl v.2))) H' (.int ((ab + 1 : Nat) : Int)) := val_op (val_var (ha _ _)) val_c fun Q q => ⟨_, _, rfl, rfl, q⟩
    refine args_cons (va _ (args_nil ?_))
    refine ⟨(by show 3 ≤ sizeLine; decide), fun t2 ht2 => ?_⟩
    have w2 : Sat F ((D, .lst (as.reverse.map V.ref)) :: (t2, entO (v.1, v.2, ab + 1)) :: (triR ((ws.map fun w => ((w.1, w.2, ab + 1) : Ent)).drop (ws.length - n)) as ++ ((l, .lst (ts.map V.ref)) :: pairsR ws ts))) _ := (w.new (o := entO (v.1, v.2, ab + 1)) ht2).perm (List.Perm.swap _ _ _)
    refine ⟨_, w2.get List.mem_cons_self, ?_, t2 :: as, by rw [List.length_cons, hln], ?_⟩
    · rw [List.length_map, List.length_reverse, hln]
      exact Nat.lt_of_le_of_lt (by omega : n ≤ 5000) (by decide)
    · have w3 := w2.put (u := .lst (as.reverse.map V.ref ++ [V.ref t2]))
      have hle : (ws.map fun w => ((w.1, w.2, ab + 1) : Ent)).length = ws.length := List.length_map ..
      have hd := drop_one (es := ws.map fun w => ((w.1, w.2, ab + 1) : Ent)) (j := n) (e := (v.1, v.2, ab + 1)) (by omega) (by rw [hle, List.getElem?_map, ← hl, hv2]; rfl)
      rw [hle] at hd
      rw [hd, triR_cons, List.reverse_cons, List.map_append]
      exact w3
  · rintro H' ⟨as, hln, w⟩
    rw [List.length_map] at hln w
    rw [hl, Nat.sub_self, List.drop_zero] at w
    exact q D as H' (by rw [hln, hl]) w
end
end S
set_option Elab.async false
set_option linter.all false
set_option maxRecDepth 100000
set_option maxHeartbeats 1000000
namespace S
open PySem PySem.Spec PyProof.Rows L2
section
variable {K : PySem.W.Frag}
theorem FitAt.mono {H H' : Hp} (e : Same H H') {nc n : Nat} {pms : List Nat} {fi : Option Nat} {k : Str} {v : V} : FitAt K H nc n pms fi k v → FitAt K H' nc n pms fi k v
  | .part => .part
  | .body => .body
  | .number a b => .number a b
  | .name a => .name a
  | .cell a => .cell a
  | .fn a => .fn a
  | .parts h a b => .parts (same_seqT e h) a b
theorem rd__check_body (vs : List V) (H : Hp) (Q : VK) (E : XK) (h : sp__check_body K vs H Q E) : t__check_body K { nx := fun _ H' => Q .non H', rt := Q } (start n__check_body vs) H := by
  obtain ⟨F, ba, x, dx, l, first, ys, b, nms, pms, nc, n, rfl, sF, hba, hys, hx, hl, hok, hlen, hsz, hab, q⟩ := h
  have hyl := deeds_len hys
  refine sq_set (val_var rfl) ?_
  refine st_seq (st_asgI ?_)
  refine lc_first (K := K) (i := 0) (k := 10) rfl (same_seqT sF hba) (by omega) (fun v => rfl) (fun v => rfl) fun D as0 H1 hl0 s1 => ?_
  dsimp only [gName, List.set]
  have hst0 : StkAt K F (ys.map fun v => (v, true, 0)) ((b.deeds.map Thing.deed).map fun t => (t, 0)) := by
    have := stk_of (K := K) 0 (deeds_at hys)
    rw [List.map_map] at this
    exact this
  have fst0 : ((b.deeds.map Thing.deed).map fun t => (t, 0)).map Prod.fst = b.deeds.map Thing.deed := by
    rw [List.map_map]
    exact List.map_id _
  refine ⟨fun m σ H' => ∃ (es : List Ent) (sts : List (Thing × Nat)) (as : List Addr) (k : Nat) (v5 v6 v7 v8 v9 v10 v11 v12 : Option V), σ = [some (.ref ba), some (.ref x), some (.int (first : Nat)), some (.int ((first + k : Nat) : Int)), some (.ref D), v5, v6, v7, v8, v9, v10, v11, v12] ∧
    StkAt K F es sts ∧ as.length = es.length ∧ k + sizesT (sts.map Prod.fst) = b.things ∧ (∀ s ∈ sts, s.1.One ∧ s.1.ok nms pms nc n ∧ s.2 + s.1.above ≤ 7) ∧ Sat H ((D, .lst (as.reverse.map V.ref)) :: triR es as) H' ∧ m = sizesT (sts.map Prod.fst),
    ⟨_, ys.map fun v => (v, true, 0), (b.deeds.map Thing.deed).map fun t => (t, 0), as0, 0, none, none, none, none, none, none, none, none, rfl, hst0, by rw [hl0, List.length_map], by rw [fst0, deeds_size]; omega, ?_, s1, rfl⟩, ?_⟩
  · intro s hs
    obtain ⟨t, ht, rfl⟩ := List.mem_map.mp hs
    obtain ⟨d, hd, rfl⟩ := List.mem_map.mp ht
    have h1 := deeds_all b hok d hd
    have h2 := h1.2
    exact ⟨deeds_one b d hd, h1.1, by show 0 + d.above ≤ 7; omega⟩
  rintro m σ H2 ⟨es, sts, as, k, v5, v6, v7, v8, v9, v10, v11, v12, rfl, hst, hal, hk, hall, s, rfl⟩
  have hD : H2 D = some (.lst (as.reverse.map V.ref)) := s.get List.mem_cons_self
  cases hst with
  | nil =>
    have ea : as = [] := List.eq_nil_of_length_eq_zero hal
    subst ea
    refine ans_lst (val_var rfl) (SqL.of hD) rfl _ ?_
    refine iteF ?_
    have ek : k = b.things := by
      have : sizesT (List.map Prod.fst ([] : List (Thing × Nat))) = 0 := rfl
      omega
    subst ek
    exact st_ret (val_var rfl) (q _ s.fr)
  | @cons v bd ab th es' sts' hth hbd hst' =>
    cases as with
    | nil => simp at hal
    | cons t as' =>
    rw [triR_cons] at s
    have er : ((t :: as').reverse.map V.ref) = as'.reverse.map V.ref ++ [V.ref t] := by rw [List.reverse_cons, List.map_append]; rfl
    rw [er] at s hD
    refine ans_lst (b := true) (val_var rfl) (SqL.of (s.get List.mem_cons_self)) (by simp) _ ?_
    refine iteT ⟨_, fun σ' H' h => h, ?_⟩
    obtain ⟨one, tok, tab⟩ := hall (th, ab) List.mem_cons_self
    dsimp only at one tok tab
    have hks := kids_size one
    have hsum : sizesT (List.map Prod.fst ((th, ab) :: sts')) = th.size + sizesT (sts'.map Prod.fst) := rfl
    rw [hsum] at hk
    refine st_seq (st_asgI ?_)
    refine ⟨_, rfl, .inl ⟨rfl, _, SqL.of hD⟩, D, _, _, rfl, rfl, hD, get_last _ _, ?_⟩
    rw [List.dropLast_concat]
    have s3 := s.put (u := .lst (as'.reverse.map V.ref))
    generalize upd H2 D _ = H3 at s3 ⊢
    have htt : H3 t = some (entO (v, bd, ab)) := s3.get (List.mem_cons_of_mem _ List.mem_cons_self)
    refine ⟨t, _, rfl, SqT.of htt, rfl, _, _, rfl, _, _, rfl, _, _, rfl, rfl, ?_⟩
    have s4 : Sat H ((D, .lst (as'.reverse.map V.ref)) :: triR es' as') H3 := (s3.perm (r1 := [(t, entO (v, bd, ab))] ++ ((D, .lst (as'.reverse.map V.ref)) :: triR es' as')) (by (refine perm_sum fun f => ?_; simp only [List.map_append, List.map_cons, List.map_nil, List.sum_append, List.sum_cons, List.sum_nil]; omega))).tail
    dsimp only [gName, List.set]
    obtain ⟨a, z, ks, xs, ws, rfl, h1, h2, h3, h4, h5, h6⟩ := thing_shape hlen hth one tok (by omega)
    have sFH3 := sF.trans s4.fr
    refine st_seq (st_asgI ?_)
    refine ⟨_, rfl, _, rfl, first + k, ab, rfl, by omega, by omega, ?_⟩
    dsimp only [gName, List.set]
    refine st_seq (st_yes (ans_isN (val_var rfl) (decide_eq_true rfl)) ?_)
    refine st_asgI ?_
    refine ⟨_, rfl, _, rfl, _, rfl, F, a, x, dx, l, bd, z, ks, xs, nc, n, pms, rfl, sFH3, h1, by rw [hbd]; exact h2, h3, hx, hl, h4, fun H4 e4 => ?_⟩
    dsimp only [gName, List.set]
    refine sq_no (ans_notN (val_var rfl) (by simp)) ?_
    have s5 := s4.grow e4
    have s6 : Sat H (((D, .lst (as'.reverse.map V.ref)) :: triR es' as') ++ []) H4 := by rw [List.append_nil]; exact s5
    have sub := same_addR (F := H) s6.init.off
    have hkl : th.kids.length ≤ sizesT th.kids := things_len fun t ht => (kids_ok one tok t ht).1
    have hwl := h6.length
    refine st_seq (st_asgI ?_)
    refine ⟨_, rfl, _, rfl, _, a, bd, z, ks, xs, ws, rfl, s6.focus.fr, same_seqT (sF.trans sub) h1, by rw [hbd]; exact h2, h3.length, h5.mono (sF.trans sub), by omega, fun l2 ts H5 htl w5 => ?_⟩
    dsimp only [gName, List.set]
    have s7 := s6.unfocus w5
    have hD5 : H5 D = some (.lst (as'.reverse.map V.ref)) := s7.get (List.mem_append_left _ List.mem_cons_self)
    refine st_seq (st_dropI ?_)
    refine ⟨_, rfl, .inl ⟨rfl, _, SqL.of hD5⟩, args_cons ?_⟩
    refine lc_next (K := K) (i := 6) (a1 := 9) (j := 11) (k := 12) (ab := ab) rfl (fun _ _ => rfl) (fun _ _ => rfl) (fun _ _ => rfl) (fun _ _ => rfl) htl (by omega) w5 fun C cs H6 hcl w6 => args_nil ?_
    have s8 := s6.unfocus w6
    have hD6 : H6 D = some (.lst (as'.reverse.map V.ref)) := s8.get (List.mem_append_left _ List.mem_cons_self)
    have hC6 : H6 C = some (.lst (cs.reverse.map V.ref)) := s8.get (List.mem_append_right _ (List.mem_append_left _ List.mem_cons_self))
    have hal' : as'.length = es'.length := by simpa using hal
    have hsl := hst'.length
    have hone' : ∀ t ∈ sts'.map Prod.fst, t.One := fun t ht => by
      obtain ⟨s, hs, rfl⟩ := List.mem_map.mp ht
      exact (hall s (List.mem_cons_of_mem _ hs)).1
    have hsl2 := things_len hone'
    rw [List.length_map] at hsl2
    refine ⟨D, C, _, _, rfl, rfl, hD6, hC6, ?_, ?_⟩
    · rw [List.length_map, List.length_map, List.length_reverse, List.length_reverse, hcl]
      exact Nat.le_trans (by omega : _ ≤ 1000) (by decide)
    have s9 : Sat H (((l2, .lst (ts.map V.ref)) :: (C, .lst (cs.reverse.map V.ref)) :: pairsR ws ts) ++ ((D, .lst (as'.reverse.map V.ref)) :: (triR (ws.map fun w => (w.1, w.2, ab + 1)) cs ++ triR es' as'))) H6 := s8.perm (by (refine perm_sum fun f => ?_; simp only [List.map_append, List.map_cons, List.map_nil, List.sum_append, List.sum_cons, List.sum_nil]; omega))
    have s10 := s9.tail.put (u := .lst (as'.reverse.map V.ref ++ cs.reverse.map V.ref))
    rw [← triR_append (by rw [List.length_map, hcl])] at s10
    have er2 : as'.reverse.map V.ref ++ cs.reverse.map V.ref = ((cs ++ as').reverse.map V.ref) := by rw [List.reverse_append, List.map_append]
    rw [er2] at s10 ⊢
    dsimp only
    refine ⟨_, rfl, _, _, rfl, rfl, ?_⟩
    have fstK : (th.kids.map fun t => (t, ab + 1)).map Prod.fst = th.kids := by
      rw [List.map_map]
      exact List.map_id _
    have fsum : sizesT (((th.kids.map fun t => (t, ab + 1)) ++ sts').map Prod.fst) = sizesT th.kids + sizesT (sts'.map Prod.fst) := by rw [List.map_append, fstK, sizesT_append]
    refine ⟨sizesT (((th.kids.map fun t => (t, ab + 1)) ++ sts').map Prod.fst), by rw [fsum, hsum]; omega, (ws.map fun w => (w.1, w.2, ab + 1)) ++ es', (th.kids.map fun t => (t, ab + 1)) ++ sts', cs ++ as', k + 1, some .non, some (.ref l2), some (.ref a), some (.bl bd), some (.int (ab : Nat)), v10, v11, v12, ?_, (stk_of (ab + 1) h6).append hst', ?_, ?_, fun s' hs' => ?_, s10, rfl⟩
    · have e3 : ((first + k : Nat) : Int) + 1 = ((first + (k + 1) : Nat) : Int) := by omega
      dsimp only [List.set]
      rw [e3]
    · rw [List.length_append, List.length_append, List.length_map, hcl, hal']
    · rw [fsum]
      omega
    · rcases List.mem_append.mp hs' with z | z
      · obtain ⟨t', ht', rfl⟩ := List.mem_map.mp z
        obtain ⟨k1, k2, k3⟩ := kids_ok one tok t' ht'
        exact ⟨k1, k2, by show ab + 1 + t'.above ≤ 7; omega⟩
      · exact hall s' (List.mem_cons_of_mem _ z)
end
end S
set_option Elab.async false
set_option linter.all false
set_option maxRecDepth 100000
set_option maxHeartbeats 1000000
namespace S
open PySem PySem.Spec PyProof.Rows L2
section
variable {K : PySem.W.Frag}
theorem sum_take : ∀ (l : List Nat) (j : Nat) (x : Nat), l[j]? = some x → (l.take (j + 1)).sum = (l.take j).sum + x ∧ (l.take j).sum + x ≤ l.sum
  | [], j, x, h => by simp at h
  | y :: l, 0, x, h => by
    have e : y = x := by simpa using h
    subst e
    simp
  | y :: l, j + 1, x, h => by
    rw [List.getElem?_cons_succ] at h
    have := sum_take l j x h
    simp only [List.take_succ_cons, List.sum_cons] at this ⊢
    omega
theorem rd_check_program (T : Fx K) (vs : List V) (H : Hp) (Q : VK) (E : XK) (h : sp_check_program K vs H Q E) : t_check_program K { nx := fun _ H' => Q .non H', rt := Q } (start n_check_program vs) H := by
  obtain ⟨F, a, P, rfl, sF, hP, ok, q⟩ := h
  refine st_seq (st_asgI ?_)
  refine ⟨_, rfl, F, a, P, rfl, sF, hP, ok, fun H1 e1 => ?_⟩
  dsimp only [gName, List.set]
  refine sq_no (ans_notN (val_var rfl) (by simp)) ?_
  obtain ⟨ca, fa, ha, fs, hpa, hca, hfa, hfs, hha⟩ := hP.ex
  have s1 := sF.trans e1
  refine sq_set (val_ixT (val_var rfl) val_c (same_seqT s1 hpa) (atI_nat (j := 1) rfl)) ?_
  refine sq_set val_c ?_
  refine ⟨_, rfl, fa, fs, rfl, same_seqT s1 hfa, ?_⟩
  refine for_it (walk_enumT (K := K) (a := fa) (xs := fs)) (fun j σ H' => Same H1 H' ∧ ∃ v4 v5 : Option V, σ = [some (.ref a), some .non, some (.ref fa), some (.int ((((P.funs.map fun f => f.body.things).take j).sum : Nat) : Int)), v4, v5])
    ⟨Same.refl _, none, none, rfl⟩ (fun j σ H' _ w => same_seqT (s1.trans w.1) hfa) ?_ ?_
  · rintro j v σ H2 H3 hj ⟨w, v4, v5, rfl⟩ ⟨T', y1, y2, rfl, hT, rfl, e2, e3⟩
    cases e2
    have e3' : fs[j]? = some y2 := e3
    obtain ⟨f, hf, fa', ba, ys, rfl, h1, h2, h3⟩ := hfs.get e3'
    have hm := List.mem_of_getElem? hf
    have w2 : Same H1 (upd H2 T' (.tup [.int (j : Nat), .ref fa'])) := w.trans (same_new hT)
    refine ⟨T', _, rfl, .inl (.inl upd_same), rfl, _, _, rfl, _, _, rfl, rfl, ?_⟩
    generalize upd H2 T' _ = H3 at w2 ⊢
    dsimp only [gName, List.set]
    have s3 := s1.trans w2
    refine st_asgI ?_
    refine ⟨_, rfl, fa', _, 2, _, rfl, rfl, same_seqT s3 h1, atI_nat (j := 2) rfl, ?_⟩
    refine ⟨_, rfl, _, rfl, ?_⟩
    intro x dx hx hdx ne
    have s4 : Sat H3 [(x, .ins (He.ga K "Scope") dx [])] (upd (upd H3 dx (.own x)) x (.ins (He.ga K "Scope") dx [])) := (Sat.nil (Same.refl H3)).make hx hdx ne
    refine ⟨H3, x, dx, a, j, P, f, rfl, s4, hP.mono s3, hf, by have := ok.funs.2; omega, fun l H4 s5 => ⟨rfl, ?_⟩⟩
    refine ⟨_, rfl, ?_⟩
    have s6 := s3.trans s5.fr
    have hst := sum_take (P.funs.map fun f => f.body.things) j f.body.things (by rw [List.getElem?_map, hf]; rfl)
    have htot := ok.things
    refine ⟨H4, ba, x, dx, l, ((P.funs.map fun f => f.body.things).take j).sum, ys, f.body, P.funs.map Fn.names, P.funs.map Fn.params, P.cells.length, f.names, rfl, Same.refl _, same_seqT s6 h2, h3.mono s6, s5.get List.mem_cons_self, ?_, ok.bodies f hm, by rw [List.length_map, List.length_map], by omega, ok.above f hm, fun H5 e5 => ?_⟩
    · rw [List.map_map]
      exact SqL.of (s5.get (List.mem_cons_of_mem _ List.mem_cons_self))
    · refine ⟨(w2.trans s5.fr).trans e5, some (.int (j : Nat)), some (.ref fa'), ?_⟩
      rw [hst.1]
      rfl
  · rintro σ H2 ⟨w, v4, v5, rfl⟩
    exact q _ (e1.trans w)
end
end S
set_option Elab.async false
set_option linter.all false
set_option maxRecDepth 100000
set_option maxHeartbeats 1000000
namespace S
open PySem PySem.Spec PyProof.Rows L2
def sp_is_part (K : PySem.W.Frag) : Sp := fun vs H Q _ => ∃ (F : Hp) (a x dx l : Addr) (p : Part) (nc n : Nat) (pms : List Nat), vs = [.ref a, .ref x] ∧ Same F H ∧ PartAt K F a p ∧ F x = some (scO K dx nc n l) ∧ SqL K F l (pms.map fun m => V.int (m : Nat)) ∧ p.ok n nc ∧ p.size ≤ 5000 ∧
  ∀ H', Same H H' → Q (.bl true) H'
end S
set_option Elab.async false
set_option linter.all false
set_option maxRecDepth 100000
namespace S
open PySem PySem.Spec PyProof.Rows L2
def n_is_part : List Str := ["part", "scope", "waiting", "thing", "inner", "_"]
def t_is_part (K : PySem.W.Frag) : TS :=
    (tSeq (tAsg (tLst (tCons (tVar 0) tNil)) (gName 2))
    (tSeq (tWhile (tTru K (tVar 2))
      (tSeq (tAsg (tBM0 K "list" rPop (tVar 2)) (gName 3))
      (tSeq (tIfS (tTest (tOp rNotN (tCall (sp__fault_of K) [] E0 (tCons (tVar 3) (tCons (tC (.bl false)) (tCons (tVar 1) tNil)))) (tC .non)))
        (tRet (tC (.bl false)))
        tNext)
      (tDrop (tBM K "list" rExtend (tVar 2) (tCons (tLc (iList K (tCall (sp_things_within K) [] E0 (tCons (tVar 3) (tCons (tC (.bl false)) tNil)))) (gTup K 2 (gCons (gName 4) (gCons (gName 5) gNil))) tYes (tVar 4) [4, 5]) tNil))))))
    (tRet (tC (.bl true)))))
end S
set_option Elab.async false
set_option linter.all false
set_option maxRecDepth 100000
set_option maxHeartbeats 1000000
namespace S
open PySem PySem.Spec PyProof.Rows L2
section
variable {K : PySem.W.Frag}
theorem parts_of {G : Hp} : ∀ {ws : List (V × Bool)} {ps : List Part}, ThingsAt K G ws (ps.map Thing.part) → PartsAt K G (ws.map Prod.fst) ps
  | [], [], _ => .nil
  | [], _ :: _, h => by cases h
  | _ :: _, [], h => by cases h
  | (v, b) :: ws, p :: ps, h => by
    cases h with
    | cons h1 e t =>
      obtain ⟨a, rfl, hp⟩ := h1
      exact .cons hp (parts_of t)
theorem PartsAt.reverse {G : Hp} : ∀ {vs : List V} {ps : List Part}, PartsAt K G vs ps → PartsAt K G vs.reverse ps.reverse
  | _, _, .nil => .nil
  | _, _, .cons h t => by
    rw [List.reverse_cons, List.reverse_cons]
    exact t.reverse.append (.cons h .nil)
theorem psum_append (as bs : List Part) : ((as ++ bs).map Part.size).sum = (as.map Part.size).sum + (bs.map Part.size).sum := by rw [List.map_append, List.sum_append]
theorem psum_reverse : ∀ as : List Part, (as.reverse.map Part.size).sum = (as.map Part.size).sum
  | [] => rfl
  | a :: as => by
    rw [List.reverse_cons, psum_append, psum_reverse as]
    simp
    omega
theorem lst_I' {σ : L2.St} {H : Hp} {Q : VK} {t : TA} (h : t σ H fun xs H1 => xs.length ≤ sizeLine ∧ ∀ p, H1 p = none → Q (.ref p) (upd H1 p (.lst xs))) : tLst t σ H Q := h
theorem rd_is_part (vs : List V) (H : Hp) (Q : VK) (E : XK) (h : sp_is_part K vs H Q E) : t_is_part K { nx := fun _ H' => Q .non H', rt := Q } (start n_is_part vs) H := by
  obtain ⟨F, a0, x, dx, l, p0, nc, n, pms, rfl, sF, hp0, hx, hl, hok, hz, q⟩ := h
  refine st_seq (st_asgI (lst_I' (args_cons ((val_var rfl : Val (tVar 0) [some (.ref a0), some (.ref x), none, none, none, none] H (.ref a0)) _ (args_nil ⟨(by show 1 ≤ sizeLine; decide), fun D hD => ?_⟩)))))
  have s0 := (Sat.nil (Same.refl H)).new (o := .lst [.ref a0]) hD
  generalize upd H D _ = H1 at s0 ⊢
  refine ⟨fun m σ H' => ∃ (vs : List V) (ps : List Part) (v3 v4 v5 : Option V), σ = [some (.ref a0), some (.ref x), some (.ref D), v3, v4, v5] ∧ PartsAt K F vs ps ∧ (∀ p ∈ ps, p.ok n nc) ∧ (ps.map Part.size).sum ≤ 5000 ∧ Sat H [(D, .lst vs.reverse)] H' ∧ m = (ps.map Part.size).sum,
    ⟨_, [.ref a0], [p0], none, none, none, rfl, .cons hp0 .nil, fun p hp => by
      have : p = p0 := by simpa using hp
      rw [this]
      exact hok, by simpa using hz, s0, rfl⟩, ?_⟩
  rintro m σ H2 ⟨vs, ps, v3, v4, v5, rfl, hps, hall, hsz, s, rfl⟩
  have hD2 : H2 D = some (.lst vs.reverse) := s.get List.mem_cons_self
  cases hps with
  | nil =>
    refine ans_lst (val_var rfl) (SqL.of hD2) rfl _ ?_
    exact iteF (show Q (.bl true) H2 from q _ s.fr)
  | @cons a vs' p ps' hp hps' =>
    rw [List.reverse_cons] at s hD2
    refine ans_lst (b := true) (val_var rfl) (SqL.of hD2) (by simp) _ ?_
    refine iteT ⟨_, fun σ' H' h => h, ?_⟩
    refine st_seq (st_asgI ?_)
    refine ⟨_, rfl, .inl ⟨rfl, _, SqL.of hD2⟩, D, _, _, rfl, rfl, hD2, get_last _ _, ?_⟩
    rw [List.dropLast_concat]
    have s3 := s.put (u := .lst vs'.reverse)
    generalize upd H2 D _ = H3 at s3 ⊢
    dsimp only [gName, List.set]
    obtain ⟨a', z, ks, xs, ws, ea, h1, h2, h3, h4, h5, h6⟩ := shape_part (K := K) (nms := []) (nc := nc) (n := n) (pms := pms) (p := p) (v := .ref a) ⟨a, rfl, hp⟩ (hall p List.mem_cons_self)
    cases ea
    have sFH3 := sF.trans s3.fr
    have tst : AnsH (tTest (tOp rNotN (tCall (sp__fault_of K) [] E0 (tCons (tVar 3) (tCons (tC (.bl false)) (tCons (tVar 1) tNil)))) (tC .non))) [some (.ref a0), some (.ref x), some (.ref D), some (.ref a), v4, v5] H3 false (Same H3) := by
      intro Q q
      refine ⟨_, rfl, _, rfl, F, a, x, dx, l, false, z, ks, xs, nc, n, pms, rfl, sFH3, h1, h2, h3, hx, hl, h4, fun H4 e4 => ?_⟩
      exact ⟨rfl, false, rfl, q _ e4⟩
    refine st_seq (st_noH tst ?_)
    intro H4 e4
    have s5 := s3.grow e4
    have s6 : Sat H ([(D, .lst vs'.reverse)] ++ []) H4 := by rw [List.append_nil]; exact s5
    have sub := same_addR (F := H) s6.init.off
    have hwl := h6.length
    have hkl : (p.kids.map Thing.part).length ≤ 2 := by cases p <;> simp [Part.kids]
    have hkw : ws.length ≤ 2 := by
      have e : (Thing.part p).kids = p.kids.map Thing.part := rfl
      rw [e] at hwl
      omega
    refine st_next ?_
    dsimp only
    refine st_dropI ?_
    have hD4 : H4 D = some (.lst vs'.reverse) := s5.get List.mem_cons_self
    refine ⟨_, rfl, .inl ⟨rfl, _, SqL.of hD4⟩, args_cons ?_⟩
    refine ⟨_, rfl, _, a, false, z, ks, xs, ws, rfl, s6.focus.fr, same_seqT (sF.trans sub) h1, h2, h3.length, h5.mono (sF.trans sub), by omega, fun l2 ts H5 htl w5 => ?_⟩
    have hL : ∀ {r : Reg} {H' : Hp}, Sat (addR H [(D, .lst vs'.reverse)]) (r ++ ((l2, .lst (ts.map V.ref)) :: pairsR ws ts)) H' → SqL K H' l2 (ts.map V.ref) := fun s => SqL.of (s.tail.get List.mem_cons_self)
    refine ⟨l2, rfl, ⟨_, hL (r := []) w5⟩, fun C hC => ?_⟩
    refine lc_list (K := K) (a := l2) (xs := ts.map V.ref) (fun j H' => Sat (addR H [(D, .lst vs'.reverse)]) ([(C, .lst ((ws.take j).map Prod.fst))] ++ ((l2, .lst (ts.map V.ref)) :: pairsR ws ts)) H') (w5.new hC) (fun j H' _ w => hL w) ?_ ?_
    · intro j v H' hv w
      rw [List.getElem?_map] at hv
      obtain ⟨t, ht, rfl⟩ : ∃ t, ts[j]? = some t ∧ v = V.ref t := by
        cases e : ts[j]? with
        | none =>
          rw [e] at hv
          cases hv
        | some t =>
          rw [e] at hv
          exact ⟨t, rfl, (Option.some.inj hv).symm⟩
      obtain ⟨w', hw', hm⟩ := pairsR_get htl ht
      refine ⟨t, _, rfl, SqT.of (w.get (List.mem_append_right _ (List.mem_cons_of_mem _ hm))), rfl, _, _, rfl, _, _, rfl, rfl, rfl, ?_⟩
      unfold tYes
      refine Eq.mpr (if_pos rfl) ?_
      refine ⟨_, rfl, _, w.get List.mem_cons_self, ?_, ?_⟩
      · rw [List.length_map, List.length_take]
        exact Nat.lt_of_le_of_lt (by omega : _ ≤ 2) (by decide)
      · have et : ws.take (j + 1) = ws.take j ++ [w'] := by
          rw [List.take_succ, hw']
          rfl
        rw [et, List.map_append]
        exact Sat.put w
    · intro H6 w6
      rw [List.length_map, htl, List.take_length] at w6
      refine args_nil ?_
      have s8 := s6.unfocus w6
      have hlv := hps'.length
      have hpl : ps'.length ≤ 5000 := by
        have := parts_len ps'
        simp only [List.map_cons, List.sum_cons] at hsz
        omega
      refine ⟨D, C, _, _, rfl, rfl, s8.get (List.mem_append_left _ List.mem_cons_self), s8.get (List.mem_append_right _ (List.mem_append_left _ List.mem_cons_self)), ?_, ?_⟩
      · rw [List.length_reverse, List.length_map]
        exact Nat.le_trans (by omega : _ ≤ 6000) (by decide)
      have s9 : Sat H (((l2, .lst (ts.map V.ref)) :: (C, .lst (ws.map Prod.fst)) :: pairsR ws ts) ++ [(D, .lst vs'.reverse)]) H6 := s8.perm (by (refine perm_sum fun f => ?_; simp only [List.map_append, List.map_cons, List.map_nil, List.sum_append, List.sum_cons, List.sum_nil]; omega))
      have s10 := s9.tail.put (u := .lst (vs'.reverse ++ ws.map Prod.fst))
      have er : vs'.reverse ++ ws.map Prod.fst = ((ws.map Prod.fst).reverse ++ vs').reverse := by simp
      rw [er] at s10 ⊢
      have hkp : PartsAt K F (ws.map Prod.fst) p.kids := parts_of h6
      have hks : (p.kids.map Part.size).sum + 1 = p.size := by
        have := kids_size (th := .part p) trivial
        rw [show (Thing.part p).kids = p.kids.map Thing.part from rfl, parts_size] at this
        exact this
      have fsum : ((p.kids.reverse ++ ps').map Part.size).sum + 1 = ((p :: ps').map Part.size).sum := by
        rw [psum_append, psum_reverse, List.map_cons, List.sum_cons]
        omega
      refine ⟨((p.kids.reverse ++ ps').map Part.size).sum, by omega, (ws.map Prod.fst).reverse ++ vs', p.kids.reverse ++ ps', _, _, _, rfl, hkp.reverse.append hps', fun r hr => ?_, by omega, s10, rfl⟩
      rcases List.mem_append.mp hr with z | z
      · have hr' : r ∈ p.kids := List.mem_reverse.mp z
        exact (kids_ok (nms := []) (pms := pms) (nc := nc) (n := n) (th := .part p) trivial (hall p List.mem_cons_self) (.part r) (List.mem_map.mpr ⟨r, hr', rfl⟩)).2.1
      · exact hall r (List.mem_cons_of_mem _ z)
end
end S
set_option Elab.async false
set_option linter.all false
set_option maxRecDepth 100000
set_option maxHeartbeats 1000000
namespace S
open PySem PySem.Spec PyProof.Rows L2
structure Stp where
  place : Nat
  hand : Option Nat
  wish : Option Part
def optI : Option Nat → V
  | none => .non
  | some k => .int (k : Nat)
def stpO (K : PySem.W.Frag) (dx : Addr) (s : Stp) (wv : V) : HO := .ins (He.ga K "Stop") dx [("place", .int (s.place : Nat)), ("hand", optI s.hand), ("wish", wv)]
def WishAt (K : PySem.W.Frag) (G : Hp) (wv : V) : Option Part → Prop
  | none => wv = .non
  | some p => ∃ a, wv = .ref a ∧ PartAt K G a p
def StopAt (K : PySem.W.Frag) (G : Hp) (a : Addr) (s : Stp) : Prop := ∃ dx wv, G a = some (stpO K dx s wv) ∧ WishAt K G wv s.wish
def wishMet (ns cs : List Int) : Option Part → Bool
  | none => true
  | some p => !decide (p.val ns cs = 0)
def handMet (k : Nat) : Option Nat → Bool
  | none => true
  | some j => decide (j = k)
def Stp.met (s : Stp) (k p : Nat) (ns cs : List Int) : Bool := decide (p = s.place) && (handMet k s.hand && wishMet ns cs s.wish)
def sp_Stop_init (K : PySem.W.Frag) : Sp := fun vs H Q _ => ∃ (F : Hp) (x dx : Addr) (s : Stp) (wv : V), vs = [.ref x, .int (s.place : Nat), optI s.hand, wv] ∧ Sat F [(x, .ins (He.ga K "Stop") dx [])] H ∧ ∀ H', Sat F [(x, stpO K dx s wv)] H' → Q .non H'
def sp_Stop_is_met (K : PySem.W.Frag) : Sp := fun vs H Q _ => ∃ (G : Hp) (da : Nat → Addr) (e : Env) (a he : Addr) (s : Stp) (k p : Nat) (i : DInfo) (f : GF) (held : List Int), vs = [.ref a, .int (k : Nat), .ref f.a, .ref he] ∧ Same G H ∧ TblAt K G da e.tbl ∧ StopAt K H a s ∧
  (∀ x ∈ f.reg K, H x.1 = some x.2) ∧ f.Wf K G da ∧ f.m.deed e.tbl = some (p, i) ∧ FrmOk e f.m ∧ H he = some (.lst (held.map V.int)) ∧ Held held ∧ held.length = e.nc ∧ (p = s.place → ∀ w ∈ s.wish, e.part f.fn w) ∧
  ∀ H', Same H H' → Q (.bl (s.met k p f.names held)) H'
end S
set_option Elab.async false
set_option linter.all false
set_option maxRecDepth 100000
namespace S
open PySem PySem.Spec PyProof.Rows L2
def n_Stop_init : List Str := ["self", "place", "hand", "wish"]
def t_Stop_init (K : PySem.W.Frag) : TS :=
    (tSeq (sFld K (tVar 0) (tVar 1) "place")
    (tSeq (sFld K (tVar 0) (tVar 2) "hand")
    (sFld K (tVar 0) (tVar 3) "wish")))
def n_Stop_is_met : List Str := ["self", "hand", "frame", "cells"]
def t_Stop_is_met (K : PySem.W.Frag) : TS :=
    (tSeq (tIfS (tTest (tOp rNe (tFld K (tMeth (He.ga K "Frame") "deed" (sp_Frame_deed K) [] E0 (tVar 2) tNil) "place") (tFld K (tVar 0) "place")))
      (tRet (tC (.bl false)))
      tNext)
    (tSeq (tIfS (tAnd (tTest (tOp rNotN (tFld K (tVar 0) "hand") (tC .non))) (tTest (tOp rNe (tFld K (tVar 0) "hand") (tVar 1))))
      (tRet (tC (.bl false)))
      tNext)
    (tRet (tOrV (tOp rIsN (tFld K (tVar 0) "wish") (tC .non)) (tOp rNe (tCall (sp_reckoned K) [] E0 (tCons (tFld K (tVar 0) "wish") (tCons (tFld K (tVar 2) "names") (tCons (tVar 3) tNil)))) (tC (.int 0)))))))
end S
set_option Elab.async false
set_option linter.all false
set_option maxRecDepth 100000
set_option maxHeartbeats 1000000
namespace S
open PySem PySem.Spec PyProof.Rows L2
section
variable {K : PySem.W.Frag}
theorem rd_Stop_init (T : Gx K) (vs : List V) (H : Hp) (Q : VK) (E : XK) (h : sp_Stop_init K vs H Q E) : t_Stop_init K { nx := fun _ H' => Q .non H', rt := Q } (start n_Stop_init vs) H := by
  obtain ⟨F, x, dx, s, wv, rfl, w, q⟩ := h
  refine ⟨_, rfl, _, rfl, x, _, dx, [], rfl, w.get List.mem_cons_self, T.cls_Stop, T.na_Stop_place, (by show 0 < 1000; decide), ?_⟩
  have s1 := w.put (u := .ins (He.ga K "Stop") dx (putF "place" (.int (s.place : Nat)) []))
  refine ⟨_, rfl, _, rfl, x, _, dx, _, rfl, upd_same, T.cls_Stop, T.na_Stop_hand, (by show 1 < 1000; decide), ?_⟩
  have s2 := s1.put (u := .ins (He.ga K "Stop") dx (putF "hand" (optI s.hand) (putF "place" (.int (s.place : Nat)) [])))
  refine ⟨_, rfl, _, rfl, x, _, dx, _, rfl, upd_same, T.cls_Stop, T.na_Stop_wish, (by show 2 < 1000; decide), ?_⟩
  exact q _ (s2.put (u := stpO K dx s wv))
theorem rd_Stop_is_met (T : Fx K) (U : Gx K) (vs : List V) (H : Hp) (Q : VK) (E : XK) (h : sp_Stop_is_met K vs H Q E) : t_Stop_is_met K { nx := fun _ H' => Q .non H', rt := Q } (start n_Stop_is_met vs) H := by
  obtain ⟨G, da, e, a, he, s, k, p, i, f, held, rfl, sG, tb, hst, hreg, wf, hd, fok, hhe, hH, hnc, hw, q⟩ := h
  obtain ⟨dx, wv, hs, hwv⟩ := hst
  obtain ⟨b, bs, eb, hb, hdl, hp, ht⟩ := deed_at (F := H) sG wf hreg hd
  obtain ⟨ddx, ta, ba, hda, _⟩ := tb p i ht
  have hfa : H f.a = some (frmO K f) := hreg (f.a, _) (List.mem_cons_of_mem _ List.mem_cons_self)
  have hfb : H f.bl = some (bsL f.bs) := hreg (f.bl, _) List.mem_cons_self
  have hfm : H f.nm = some (.lst (f.names.map V.int)) := hreg (f.nm, _) (by simp [GF.reg])
  have v0 : Val (tVar 0) [some (.ref a), some (.int (k : Nat)), some (.ref f.a), some (.ref he)] H (.ref a) := val_var rfl
  have v2 : Val (tVar 2) [some (.ref a), some (.int (k : Nat)), some (.ref f.a), some (.ref he)] H (.ref f.a) := val_var rfl
  have vd : Val (tMeth (He.ga K "Frame") "deed" (sp_Frame_deed K) [] E0 (tVar 2) tNil) [some (.ref a), some (.int (k : Nat)), some (.ref f.a), some (.ref he)] H (.ref (da p)) := by
    intro Q q
    exact ⟨_, rfl, f.a, f.dx, _, rfl, hfa, rfl, da, f, b, bs, p, rfl, hfa, hfb, eb, hb, hdl, hp, q⟩
  have vpl := val_fld vd (sG _ _ hda) T.cls_Deed T.na_Deed_place rfl
  have vsp := val_fld v0 hs U.cls_Stop U.na_Stop_place rfl
  have vsh := val_fld v0 hs U.cls_Stop U.na_Stop_hand rfl
  have vsw := val_fld v0 hs U.cls_Stop U.na_Stop_wish rfl
  have t1 : ∀ c, (!decide (p = s.place)) = c → Ans (tTest (tOp rNe (tFld K (tMeth (He.ga K "Frame") "deed" (sp_Frame_deed K) [] E0 (tVar 2) tNil) "place") (tFld K (tVar 0) "place"))) [some (.ref a), some (.int (k : Nat)), some (.ref f.a), some (.ref he)] H c := by
    intro c hc
    refine ans_ne vpl vsp rfl ?_
    rw [decInt, ← hc]
    congr 1
    by_cases z : p = s.place
    · rw [decide_eq_true z, decide_eq_true (by omega)]
    · rw [decide_eq_false z, decide_eq_false (by omega)]
  by_cases hpl : p = s.place
  · refine sq_no (t1 false (by rw [decide_eq_true hpl]; rfl)) ?_
    have t2 : Ans (tAnd (tTest (tOp rNotN (tFld K (tVar 0) "hand") (tC .non))) (tTest (tOp rNe (tFld K (tVar 0) "hand") (tVar 1)))) [some (.ref a), some (.int (k : Nat)), some (.ref f.a), some (.ref he)] H (!handMet k s.hand) := by
      cases eh : s.hand with
      | none =>
        rw [eh] at vsh
        exact ans_and0 (ans_notN vsh rfl)
      | some j =>
        rw [eh] at vsh
        refine ans_and (b := !decide (j = k)) (ans_notN vsh rfl) (ans_ne vsh (val_var rfl) rfl ?_)
        show (!decide (V.int (j : Int) = V.int (k : Int))) = _
        rw [decInt]
        congr 1
        by_cases z : j = k
        · rw [decide_eq_true z, decide_eq_true (by omega)]
        · rw [decide_eq_false z, decide_eq_false (by omega)]
    unfold Stp.met at q
    rw [decide_eq_true hpl, Bool.true_and] at q
    cases hm : handMet k s.hand with
    | false =>
      rw [hm] at t2 q
      refine sq_yes t2 (st_ret val_c ?_)
      exact q _ (Same.refl _)
    | true =>
      rw [hm] at t2 q
      rw [Bool.true_and] at q
      refine sq_no t2 (st_retI ?_)
      cases ew : s.wish with
      | none =>
        rw [ew] at hwv q
        have ewv : wv = .non := hwv
        rw [ewv] at vsw
        have vis : Val (tOp rIsN (tFld K (tVar 0) "wish") (tC .non)) [some (.ref a), some (.int (k : Nat)), some (.ref f.a), some (.ref he)] H (.bl true) := val_op vsw val_c fun Q q => ⟨rfl, q⟩
        refine vis _ ⟨true, rfl, iteT ?_⟩
        exact q _ (Same.refl _)
      | some w =>
        rw [ew] at hwv q
        obtain ⟨wa, ewv, hwp⟩ := hwv
        rw [ewv] at vsw
        have vis : Val (tOp rIsN (tFld K (tVar 0) "wish") (tC .non)) [some (.ref a), some (.int (k : Nat)), some (.ref f.a), some (.ref he)] H (.bl false) := val_op vsw val_c fun Q q => ⟨rfl, q⟩
        refine vis _ ⟨false, rfl, iteF ?_⟩
        have vnm := val_fld v2 hfa T.cls_Frame T.na_Frame_names rfl
        refine call_args (args_cons (vsw _ (args_cons (vnm _ (args_cons ((val_var rfl : Val (tVar 3) [some (.ref a), some (.int (k : Nat)), some (.ref f.a), some (.ref he)] H (.ref he)) _ (args_nil ?_)))))))
        refine run_reck (e := e) (fn := f.fn) hwp (hw hpl w (by rw [ew]; rfl)) fok.len hnc fok.held hH (SqL.of hfm) (SqL.of hhe) fun H' e' => ?_
        refine ⟨rfl, ?_⟩
        show Q (V.bl (!decide (V.int (w.val f.names held) = V.int 0))) H'
        rw [decInt]
        exact q _ e'
  · refine sq_yes (t1 true (by rw [decide_eq_false hpl]; rfl)) (st_ret val_c ?_)
    unfold Stp.met at q
    rw [decide_eq_false hpl, Bool.false_and] at q
    exact q _ (Same.refl _)
end
end S
set_option Elab.async false
set_option linter.all false
set_option maxRecDepth 100000
set_option maxHeartbeats 1000000
namespace S
open PySem PySem.Spec PyProof.Rows L2
inductive Way where | in_ | over | out
  deriving DecidableEq
def Way.str : Way → Str
  | .in_ => "in" | .over => "over" | .out => "out"
def optW : Option Way → V
  | none => .non
  | some w => .str w.str
structure Gn where
  hand : Option Nat
  way : Option Way
  many : Nat
  done : Nat
  byHand : Nat
  depth : Nat
def goO (K : PySem.W.Frag) (dx ma sd : Addr) (g : Gn) : HO := .ins (He.ga K "Going") dx [("machine", .ref ma), ("stops", .ref sd), ("hand", optI g.hand), ("way", optW g.way), ("many", .int (g.many : Nat)), ("done", .int (g.done : Nat)), ("done_by_hand", .int (g.byHand : Nat)), ("depth", .int (g.depth : Nat))]
def depthOf (m : Mch) : Option Nat → Nat
  | none => 0
  | some k => (m.stk k).length
def Gn.new (m : Mch) (hand : Option Nat) (way : Option Way) (many : Nat) : Gn := ⟨hand, way, many, 0, 0, depthOf m hand⟩
def Gn.did (g : Gn) (m : Mch) : Gn := { g with done := g.done + 1, byHand := if m.next = g.hand then g.byHand + 1 else g.byHand }
def Gn.stepped (g : Gn) (m : Mch) : Bool := if g.byHand = 0 then false else match g.way with
  | some .over => decide (depthOf m g.hand ≤ g.depth)
  | some .out => decide (depthOf m g.hand < g.depth)
  | _ => true
structure GoAt (K : PySem.W.Frag) (F G : Hp) (da : Nat → Addr) (e : Env) (x dx sd : Addr) (n : Gn) (g : GM) (H : Hp) : Prop where
  sub : Same G F
  env : EnvAt K G da e g.na g.lo
  wf : g.Wf K G da
  sat : Sat F ((x, goO K dx g.a sd n) :: g.reg K) H
def sp_Going_init (K : PySem.W.Frag) : Sp := fun vs H Q _ => ∃ (F G : Hp) (da : Nat → Addr) (e : Env) (x dx sd : Addr) (g : GM) (hand : Option Nat) (way : Option Way) (many : Nat), vs = [.ref x, .ref g.a, .ref sd, optI hand, optW way, .int (many : Nat)] ∧ Same G F ∧ EnvAt K G da e g.na g.lo ∧ g.Wf K G da ∧
  Sat F ((x, .ins (He.ga K "Going") dx []) :: g.reg K) H ∧ (∀ k ∈ hand, k < g.gs.length) ∧ ∀ H', GoAt K F G da e x dx sd (Gn.new g.m hand way many) g H' → Q .non H'
def sp_Going__has_stepped (K : PySem.W.Frag) : Sp := fun vs H Q _ => ∃ (F G : Hp) (da : Nat → Addr) (e : Env) (x dx sd : Addr) (n : Gn) (g : GM) (k : Nat), vs = [.ref x] ∧ GoAt K F G da e x dx sd n g H ∧ n.hand = some k ∧ k < g.gs.length ∧ Q (.bl (n.stepped g.m)) H
def sp_Going_do_deed (K : PySem.W.Frag) : Sp := fun vs H Q _ => ∃ (F G : Hp) (da : Nat → Addr) (e : Env) (x dx sd : Addr) (n : Gn) (g : GM), vs = [.ref x] ∧ GoAt K F G da e x dx sd n g H ∧ e.Ok ∧ g.m.Ok e ∧ g.m.Big 15000000 ∧ g.m.next ≠ none ∧
  ∀ (g' : GM) (H' : Hp), g'.a = g.a → g'.na = g.na → g'.lo = g.lo → g'.m = g.m.doNext e → GoAt K F G da e x dx sd (n.did g.m) g' H' → Q .non H'
end S
set_option Elab.async false
set_option linter.all false
set_option maxRecDepth 100000
namespace S
open PySem PySem.Spec PyProof.Rows L2
def n_Going_init : List Str := ["self", "machine", "stops", "hand", "way", "many"]
def t_Going_init (K : PySem.W.Frag) : TS :=
    (tSeq (sFld K (tVar 0) (tVar 1) "machine")
    (tSeq (sFld K (tVar 0) (tVar 2) "stops")
    (tSeq (sFld K (tVar 0) (tVar 3) "hand")
    (tSeq (sFld K (tVar 0) (tVar 4) "way")
    (tSeq (sFld K (tVar 0) (tVar 5) "many")
    (tSeq (sFld K (tVar 0) (tC (.int 0)) "done")
    (tSeq (sFld K (tVar 0) (tC (.int 0)) "done_by_hand")
    (sFld K (tVar 0) (tIf (tTest (tOp rIsN (tVar 3) (tC .non))) (tC (.int 0)) (tCB (Evl.rLenS K) (tCons (tFld K (tOp (rIxL K) (tFld K (tVar 1) "hands") (tVar 3)) "frames") tNil))) "depth"))))))))
def n_Going__has_stepped : List Str := ["self", "depth"]
def t_Going__has_stepped (K : PySem.W.Frag) : TS :=
    (tSeq (tAsg (tCB (Evl.rLenS K) (tCons (tFld K (tOp (rIxL K) (tFld K (tFld K (tVar 0) "machine") "hands") (tFld K (tVar 0) "hand")) "frames") tNil)) (gName 1))
    (tSeq (tIfS (tTest (tOp rEq (tFld K (tVar 0) "done_by_hand") (tC (.int 0))))
      (tRet (tC (.bl false)))
      tNext)
    (tSeq (tIfS (tTest (tOp rEq (tFld K (tVar 0) "way") (tC (.str "over"))))
      (tRet (tOp (rI0 fun i j => .bl (decide (i ≤ j))) (tVar 1) (tFld K (tVar 0) "depth")))
      tNext)
    (tSeq (tIfS (tTest (tOp rEq (tFld K (tVar 0) "way") (tC (.str "out"))))
      (tRet (tOp (rI0 fun i j => .bl (decide (i < j))) (tVar 1) (tFld K (tVar 0) "depth")))
      tNext)
    (tRet (tC (.bl true)))))))
def n_Going_do_deed : List Str := ["self"]
def t_Going_do_deed (K : PySem.W.Frag) : TS :=
    (tSeq (tIfS (tTest (tOp rEq (tMeth (He.ga K "Machine") "next_hand" (sp_Machine_next_hand K) [] E0 (tFld K (tVar 0) "machine") tNil) (tFld K (tVar 0) "hand")))
      (sFldAug K (tVar 0) (tC (.int 1)) rAdd "done_by_hand")
      tNext)
    (tSeq (tDrop (tMeth (He.ga K "Machine") "do_next" (sp_Machine_do_next K) [] E0 (tFld K (tVar 0) "machine") tNil))
    (sFldAug K (tVar 0) (tC (.int 1)) rAdd "done")))
end S
set_option Elab.async false
set_option linter.all false
set_option maxRecDepth 100000
set_option maxHeartbeats 1000000
namespace S
open PySem PySem.Spec PyProof.Rows L2
section
variable {K : PySem.W.Frag}
theorem decI (a b : Nat) : decide (V.int (a : Int) = V.int (b : Int)) = decide (a = b) := by
  rw [decInt]
  by_cases z : a = b
  · rw [decide_eq_true z, decide_eq_true (by omega)]
  · rw [decide_eq_false z, decide_eq_false (by omega)]
theorem val_depth {σ : L2.St} {H : Hp} {tm th : TE} {F : Hp} {r : Reg} {g : GM} {k : Nat} (T : Fx K) (s : Sat F (r ++ g.reg K) H) (hm : Val tm σ H (.ref g.a)) (hh : Val th σ H (.int (k : Nat))) (hk : k < g.gs.length) :
    Val (tCB (Evl.rLenS K) (tCons (tFld K (tOp (rIxL K) (tFld K tm "hands") th) "frames") tNil)) σ H (.int (depthOf g.m (some k) : Nat)) := by
  obtain ⟨h, hh2⟩ : ∃ h, g.gs[k]? = some h := ⟨g.gs[k], by simp [hk]⟩
  have hmem := List.mem_of_getElem? hh2
  have vh := val_ixL (K := K) (val_fld hm (s.tail.get regM_self) T.cls_Machine T.na_Machine_hands rfl) hh (SqL.of (s.tail.get regM_ha)) (atI_nat (j := k) (v := .ref h.a) (by rw [List.getElem?_map, hh2]; rfl))
  have vf := val_fld vh (s.tail.get (regM_hand hmem)) T.cls_Hand T.na_Hand_frames rfl
  have vl := val_len (K := K) vf (SqL.of (s.tail.get (regM_fl hmem)))
  have e : depthOf g.m (some k) = ((h.fs.map GF.a).reverse.map V.ref).length := by
    show (g.m.stk k).length = _
    rw [stk_get hh2, List.length_map, List.length_reverse, List.length_map]
    exact List.length_map ..
  rw [e]
  exact vl
theorem rd_Going_init (T : Fx K) (U : Gx K) (vs : List V) (H : Hp) (Q : VK) (E : XK) (h : sp_Going_init K vs H Q E) : t_Going_init K { nx := fun _ H' => Q .non H', rt := Q } (start n_Going_init vs) H := by
  obtain ⟨F, G, da, e, x, dx, sd, g, hand, way, many, rfl, sG, A, wf, s, hk, q⟩ := h
  refine ⟨_, rfl, _, rfl, x, _, dx, [], rfl, s.get List.mem_cons_self, U.cls_Going, U.na_Going_machine, (by show 0 < 1000; decide), ?_⟩
  have s1 := s.put (u := .ins (He.ga K "Going") dx [("machine", .ref g.a)])
  refine ⟨_, rfl, _, rfl, x, _, dx, _, rfl, upd_same, U.cls_Going, U.na_Going_stops, (by show 1 < 1000; decide), ?_⟩
  have s2 := s1.put (u := .ins (He.ga K "Going") dx [("machine", .ref g.a), ("stops", .ref sd)])
  refine ⟨_, rfl, _, rfl, x, _, dx, _, rfl, upd_same, U.cls_Going, U.na_Going_hand, (by show 2 < 1000; decide), ?_⟩
  have s3 := s2.put (u := .ins (He.ga K "Going") dx [("machine", .ref g.a), ("stops", .ref sd), ("hand", optI hand)])
  refine ⟨_, rfl, _, rfl, x, _, dx, _, rfl, upd_same, U.cls_Going, U.na_Going_way, (by show 3 < 1000; decide), ?_⟩
  have s4 := s3.put (u := .ins (He.ga K "Going") dx [("machine", .ref g.a), ("stops", .ref sd), ("hand", optI hand), ("way", optW way)])
  refine ⟨_, rfl, _, rfl, x, _, dx, _, rfl, upd_same, U.cls_Going, U.na_Going_many, (by show 4 < 1000; decide), ?_⟩
  have s5 := s4.put (u := .ins (He.ga K "Going") dx [("machine", .ref g.a), ("stops", .ref sd), ("hand", optI hand), ("way", optW way), ("many", .int (many : Nat))])
  refine ⟨_, rfl, x, _, dx, _, rfl, upd_same, U.cls_Going, U.na_Going_done, (by show 5 < 1000; decide), ?_⟩
  have s6 := s5.put (u := .ins (He.ga K "Going") dx [("machine", .ref g.a), ("stops", .ref sd), ("hand", optI hand), ("way", optW way), ("many", .int (many : Nat)), ("done", .int 0)])
  refine ⟨_, rfl, x, _, dx, _, rfl, upd_same, U.cls_Going, U.na_Going_done_by_hand, (by show 6 < 1000; decide), ?_⟩
  have s7 := s6.put (u := .ins (He.ga K "Going") dx [("machine", .ref g.a), ("stops", .ref sd), ("hand", optI hand), ("way", optW way), ("many", .int (many : Nat)), ("done", .int 0), ("done_by_hand", .int 0)])
  have vd : ∀ (H : Hp) (o : HO), Sat F ((x, o) :: g.reg K) H → Val (tIf (tTest (tOp rIsN (tVar 3) (tC .non))) (tC (.int 0)) (tCB (Evl.rLenS K) (tCons (tFld K (tOp (rIxL K) (tFld K (tVar 1) "hands") (tVar 3)) "frames") tNil))) [some (.ref x), some (.ref g.a), some (.ref sd), some (optI hand), some (optW way), some (.int (many : Nat))] H (.int (depthOf g.m hand : Nat)) := by
    intro H o s7 Q q
    cases eh : hand with
    | none =>
      rw [eh] at q
      refine ans_isN (b := true) (x := .non) (val_var rfl) rfl _ (iteT ?_)
      exact q
    | some k =>
      rw [eh] at q
      refine ans_isN (b := false) (x := .int (k : Nat)) (val_var rfl) (decide_eq_false (by simp)) _ (iteF ?_)
      exact val_depth T (r := [_]) s7 (val_var rfl) (val_var rfl) (hk k (by rw [eh]; rfl)) _ q
  refine vd _ _ s7 _ ?_
  refine ⟨_, rfl, x, _, dx, _, rfl, upd_same, U.cls_Going, U.na_Going_depth, (by show 7 < 1000; decide), ?_⟩
  exact q _ ⟨sG, A, wf, s7.put (u := goO K dx g.a sd (Gn.new g.m hand way many))⟩
theorem rd_Going__has_stepped (T : Fx K) (U : Gx K) (vs : List V) (H : Hp) (Q : VK) (E : XK) (h : sp_Going__has_stepped K vs H Q E) : t_Going__has_stepped K { nx := fun _ H' => Q .non H', rt := Q } (start n_Going__has_stepped vs) H := by
  obtain ⟨F, G, da, e, x, dx, sd, n, g, k, rfl, A, eh, hk, q⟩ := h
  have s := A.sat
  have hx : H x = some (goO K dx g.a sd n) := s.get List.mem_cons_self
  have v0 : ∀ y, Val (tVar 0) [some (.ref x), y] H (.ref x) := fun y => val_var rfl
  have vm := val_fld (v0 none) hx U.cls_Going U.na_Going_machine rfl
  have vh := val_fld (v0 none) hx U.cls_Going U.na_Going_hand rfl
  rw [eh] at vh
  refine sq_set (val_depth T (r := [_]) s vm vh hk) ?_
  have vb := val_fld (v0 (some (.int (depthOf g.m (some k) : Nat)))) hx U.cls_Going U.na_Going_done_by_hand rfl
  have vw := val_fld (v0 (some (.int (depthOf g.m (some k) : Nat)))) hx U.cls_Going U.na_Going_way rfl
  have vdp := val_fld (v0 (some (.int (depthOf g.m (some k) : Nat)))) hx U.cls_Going U.na_Going_depth rfl
  unfold Gn.stepped at q
  have tb : Ans (tTest (tOp rEq (tFld K (tVar 0) "done_by_hand") (tC (.int 0)))) [some (.ref x), some (.int (depthOf g.m (some k) : Nat))] H (decide (n.byHand = 0)) := ans_eq vb val_c rfl (decI n.byHand 0)
  by_cases hb : n.byHand = 0
  · rw [if_pos hb] at q
    rw [decide_eq_true hb] at tb
    exact sq_yes tb (st_ret val_c q)
  · rw [if_neg hb] at q
    rw [decide_eq_false hb] at tb
    refine sq_no tb ?_
    rw [eh] at q
    have tw : ∀ (z : Str) (c : Bool), decide (optW n.way = .str z) = c → Ans (tTest (tOp rEq (tFld K (tVar 0) "way") (tC (.str z)))) [some (.ref x), some (.int (depthOf g.m (some k) : Nat))] H c := by
      intro z c hc
      refine ans_eq vw val_c ?_ hc
      cases n.way <;> rfl
    have i0 : decide (((depthOf g.m (some k) : Nat) : Int) ≤ (n.depth : Nat)) = decide (depthOf g.m (some k) ≤ n.depth) ∧ decide (((depthOf g.m (some k) : Nat) : Int) < (n.depth : Nat)) = decide (depthOf g.m (some k) < n.depth) := by
      constructor
      · by_cases z : depthOf g.m (some k) ≤ n.depth
        · rw [decide_eq_true z, decide_eq_true (by omega)]
        · rw [decide_eq_false z, decide_eq_false (by omega)]
      · by_cases z : depthOf g.m (some k) < n.depth
        · rw [decide_eq_true z, decide_eq_true (by omega)]
        · rw [decide_eq_false z, decide_eq_false (by omega)]
    cases ew : n.way with
    | none =>
      rw [ew] at q tw
      exact sq_no (tw "over" false (by decide +kernel)) (sq_no (tw "out" false (by decide +kernel)) (st_ret val_c q))
    | some w =>
      rw [ew] at q tw
      cases w with
      | in_ => exact sq_no (tw "over" false (by decide +kernel)) (sq_no (tw "out" false (by decide +kernel)) (st_ret val_c q))
      | over =>
        refine sq_yes (tw "over" true (by decide +kernel)) ?_
        refine st_ret (val_op (val_var rfl) vdp fun Q q => ⟨_, _, rfl, rfl, q⟩) ?_
        show Q (V.bl (decide _)) H
        rw [i0.1]
        exact q
      | out =>
        refine sq_no (tw "over" false (by decide +kernel)) (sq_yes (tw "out" true (by decide +kernel)) ?_)
        refine st_ret (val_op (val_var rfl) vdp fun Q q => ⟨_, _, rfl, rfl, q⟩) ?_
        show Q (V.bl (decide _)) H
        rw [i0.2]
        exact q
theorem GoAt.mch {F G H : Hp} {da : Nat → Addr} {e : Env} {x dx sd : Addr} {n : Gn} {g : GM} (A : GoAt K F G da e x dx sd n g H) : MchAt K (addR F [(x, goO K dx g.a sd n)]) G da e g H :=
  ⟨A.sub.trans (same_addR (Sat.init (r1 := [(x, goO K dx g.a sd n)]) A.sat).off), A.env, A.wf, Sat.focus (r1 := [(x, goO K dx g.a sd n)]) A.sat⟩
theorem rd_Going_do_deed (T : Fx K) (U : Gx K) (vs : List V) (H : Hp) (Q : VK) (E : XK) (h : sp_Going_do_deed K vs H Q E) : t_Going_do_deed K { nx := fun _ H' => Q .non H', rt := Q } (start n_Going_do_deed vs) H := by
  obtain ⟨F, G, da, e, x, dx, sd, n, g, rfl, A, ok, mok, big, hnx, q⟩ := h
  have hx : H x = some (goO K dx g.a sd n) := A.sat.get List.mem_cons_self
  have v0 : ∀ H, Val (tVar 0) [some (.ref x)] H (.ref x) := fun H => val_var rfl
  have vm := val_fld (v0 H) hx U.cls_Going U.na_Going_machine rfl
  have vh := val_fld (v0 H) hx U.cls_Going U.na_Going_hand rfl
  have hz : g.gs.length ≤ 1000 := by
    have h1 := mok.many
    have h2 : g.m.hands.length = g.gs.length := List.length_map ..
    omega
  have vn : Val (tMeth (He.ga K "Machine") "next_hand" (sp_Machine_next_hand K) [] E0 (tFld K (tVar 0) "machine") tNil) [some (.ref x)] H (optI g.m.next) := by
    intro Q q
    refine vm _ ⟨g.a, g.dx, _, rfl, A.sat.get (List.mem_cons_of_mem _ regM_self), rfl, _, G, da, e, g, rfl, A.mch, hz, ?_⟩
    cases en : g.m.next with
    | none => rw [en] at q; exact q
    | some k => rw [en] at q; exact q
  have tst : Ans (tTest (tOp rEq (tMeth (He.ga K "Machine") "next_hand" (sp_Machine_next_hand K) [] E0 (tFld K (tVar 0) "machine") tNil) (tFld K (tVar 0) "hand"))) [some (.ref x)] H (decide (g.m.next = n.hand)) := by
    refine ans_eq vn vh ?_ ?_
    · cases g.m.next <;> cases n.hand <;> rfl
    · cases en : g.m.next with
      | none =>
        cases eh : n.hand with
        | none => rfl
        | some j => exact decide_eq_false (fun z => by cases z)
      | some k =>
        cases eh : n.hand with
        | none => exact decide_eq_false (fun z => by cases z)
        | some j =>
          show decide (V.int (k : Int) = V.int (j : Int)) = _
          rw [decI]
          simp
  have deed : ∀ (n' : Gn) (H1 : Hp), n' = { n with byHand := if g.m.next = n.hand then n.byHand + 1 else n.byHand } → GoAt K F G da e x dx sd n' g H1 →
      tSeq (tDrop (tMeth (He.ga K "Machine") "do_next" (sp_Machine_do_next K) [] E0 (tFld K (tVar 0) "machine") tNil)) (sFldAug K (tVar 0) (tC (.int 1)) L2.rAdd "done") { nx := fun _ H' => Q .non H', rt := Q } [some (.ref x)] H1 := by
    intro n' H1 en A1
    have hx1 : H1 x = some (goO K dx g.a sd n') := A1.sat.get List.mem_cons_self
    refine sq_drop ?_
    refine val_fld (v0 H1) hx1 U.cls_Going U.na_Going_machine rfl _ ?_
    refine ⟨g.a, g.dx, _, rfl, A1.sat.get (List.mem_cons_of_mem _ regM_self), rfl, _, G, da, e, g, rfl, A1.mch, ok, mok, big, hnx, fun g' H2 ea ena elo em A2 => ?_⟩
    have s3 : Sat F ([(x, goO K dx g.a sd n')] ++ g'.reg K) H2 := Sat.unfocus (r1 := [(x, goO K dx g.a sd n')]) A1.sat A2.sat
    have hx2 : H2 x = some (goO K dx g.a sd n') := s3.get List.mem_cons_self
    refine st_aug (v0 H2) hx2 U.cls_Going U.na_Going_done rfl val_c (fun Q q => ⟨_, _, rfl, rfl, q⟩) (by show 8 < 1000; decide) ?_
    refine q g' _ ea ena elo em ⟨A.sub, A2.env, A2.wf, ?_⟩
    have s4 := Sat.put (u := goO K dx g'.a sd (n.did g.m)) (show Sat F ((x, _) :: g'.reg K) H2 from s3)
    have eo : (HO.ins (He.ga K "Going") dx (putF "done" (.int (((n'.done : Nat) : Int) + 1)) [("machine", .ref g.a), ("stops", .ref sd), ("hand", optI n'.hand), ("way", optW n'.way), ("many", .int (n'.many : Nat)), ("done", .int (n'.done : Nat)), ("done_by_hand", .int (n'.byHand : Nat)), ("depth", .int (n'.depth : Nat))])) = goO K dx g'.a sd (n.did g.m) := by
      rw [en, ea]
      have e3 : ((n.done : Nat) : Int) + 1 = ((n.done + 1 : Nat) : Int) := by omega
      dsimp only
      rw [e3]
      rfl
    show Sat F _ (upd H2 x (HO.ins (He.ga K "Going") dx (putF "done" (.int (((n'.done : Nat) : Int) + 1)) _)))
    rw [eo]
    exact s4
  by_cases hc : g.m.next = n.hand
  · rw [decide_eq_true hc] at tst
    refine st_seq (st_yes tst ?_)
    refine st_aug (v0 H) hx U.cls_Going U.na_Going_done_by_hand rfl val_c (fun Q q => ⟨_, _, rfl, rfl, q⟩) (by show 8 < 1000; decide) ?_
    refine deed { n with byHand := n.byHand + 1 } _ (by rw [if_pos hc]) ⟨A.sub, A.env, A.wf, ?_⟩
    have s4 := A.sat.put (u := goO K dx g.a sd { n with byHand := n.byHand + 1 })
    have eo : (HO.ins (He.ga K "Going") dx (putF "done_by_hand" (.int (((n.byHand : Nat) : Int) + 1)) [("machine", .ref g.a), ("stops", .ref sd), ("hand", optI n.hand), ("way", optW n.way), ("many", .int (n.many : Nat)), ("done", .int (n.done : Nat)), ("done_by_hand", .int (n.byHand : Nat)), ("depth", .int (n.depth : Nat))])) = goO K dx g.a sd { n with byHand := n.byHand + 1 } := by
      have e3 : ((n.byHand : Nat) : Int) + 1 = ((n.byHand + 1 : Nat) : Int) := by omega
      rw [e3]
      rfl
    show Sat F _ (upd H x (HO.ins (He.ga K "Going") dx (putF "done_by_hand" (.int (((n.byHand : Nat) : Int) + 1)) _)))
    rw [eo]
    exact s4
  · rw [decide_eq_false hc] at tst
    refine st_seq (st_no tst ?_)
    exact deed n H (by rw [if_neg hc]) A
end
end S
set_option Elab.async false
set_option linter.all false
set_option maxRecDepth 100000
set_option maxHeartbeats 1000000
namespace S
open PySem PySem.Spec PyProof.Rows L2 PySem.W
def minI : Int → List Int → Int
  | x, [] => x
  | x, y :: ys => minI (if y < x then y else x) ys
def rMinD (K : PySem.W.Frag) : List V → List V → Hp → VK → Prop := fun vs zs H Q => ∃ (a : Addr) (ns : List Int) (z : V), vs = [.ref a] ∧ zs = [z] ∧ SqL K H a (ns.map V.int) ∧ Q (match ns with | [] => z | n :: ms => .int (minI n ms)) H
theorem minOf_int (x : Int) (xs : List Int) : minOf x xs = minI x xs := by
  unfold minOf
  induction xs generalizing x with
  | nil => rfl
  | cons y ys ih =>
    rw [List.foldl_cons, ih]
    show minI (if decide (y < x) = true then y else x) ys = minI (if y < x then y else x) ys
    congr 1
    by_cases h : y < x <;> simp [h]
theorem hold_ints {h : Heap} : ∀ {ns : List Int} {its : List Value}, Vals (ns.map V.int) its → HoldAll h its ns
  | [], _, r => by
    cases r
    exact HoldAll.nil
  | n :: ns, _, r => by
    cases r with
    | cons r rs =>
      obtain ⟨t, rfl⟩ := r
      exact HoldAll.cons ⟨_, Reads.int n t⟩ (hold_ints rs)
theorem cr_minD {X : Cx} (hc : X.calm = true) (hu : X.A.units + 1 + 8 < cLine) : CallRK X (.builtin "min") ["default"] (rMinD X.K) := by
  intro pins s σ H xs zs us ws Q I r rz h
  obtain ⟨a, ns, z, rfl, rfl, hs, q⟩ := h
  obtain ⟨its, rv, hl, _⟩ := I.list hs
  rw [Vals.ref1 r]
  obtain ⟨d, rfl, rd⟩ := rz.one
  have hd : Datum.depth Int ≤ 8 := by decide
  refine min_list_datum_default (xs := ns) (I.ok.hd hc) hl.isList (hold_ints (by simpa using rv)) (by omega) (fun e h' tk k => ?_) fun y ys i v h' tk e hi hv k => ?_
  · subst e
    exact ⟨z, H, I.kept k, rd, q⟩
  · subst e
    obtain ⟨as, hr⟩ := hv
    rw [minOf_int] at hr
    have : ∃ t, v = .int (minI y ys) t := by
      cases hr
      exact ⟨_, rfl⟩
    obtain ⟨t, rfl⟩ := this
    exact ⟨.int (minI y ys), H, I.kept k, ⟨t, rfl⟩, q⟩
theorem hu8 {A : Around} {k : Nat} (hr : Room k A) : A.units + 1 + 8 < cLine := by
  have := hr.units
  omega
end S
set_option Elab.async false
set_option linter.all false
set_option maxRecDepth 100000
set_option maxHeartbeats 1000000
namespace S
open PySem PySem.Spec PyProof.Rows L2
structure GS where
  n : Nat
  a : Addr
  dx : Addr
  wv : V
  s : Stp
def stR (K : PySem.W.Frag) (ss : List GS) : Reg := ss.map fun g => (g.a, stpO K g.dx g.s g.wv)
def stK (ss : List GS) : List (Key × V) := ss.map fun g => (Sum.inl (g.n : Int), V.ref g.a)
def metI (ss : List GS) (k p : Nat) (ns cs : List Int) : List Int := (ss.filter fun g => g.s.met k p ns cs).map fun g => (g.n : Int)
def leastV : List Int → V
  | [] => .non
  | n :: ns => .int (minI n ns)
def stopV (done : Nat) (ss : List GS) (k p : Nat) (ns cs : List Int) : V := if done = 0 then .non else leastV (metI ss k p ns cs)
structure GoAt2 (K : PySem.W.Frag) (F G : Hp) (da : Nat → Addr) (e : Env) (x dx sd : Addr) (n : Gn) (ss : List GS) (g : GM) (H : Hp) : Prop where
  sub : Same G F
  env : EnvAt K G da e g.na g.lo
  wf : g.Wf K G da
  wish : ∀ s ∈ ss, WishAt K F s.wv s.s.wish
  sat : Sat F ((x, goO K dx g.a sd n) :: (sd, .dK (stK ss)) :: (stR K ss ++ g.reg K)) H
def sp_Going__stop_met (K : PySem.W.Frag) : Sp := fun vs H Q _ => ∃ (F G : Hp) (da : Nat → Addr) (e : Env) (x dx sd : Addr) (n : Gn) (ss : List GS) (g : GM) (k p : Nat) (h : GH) (f : GF) (fs : List GF) (i : DInfo), vs = [.ref x] ∧ GoAt2 K F G da e x dx sd n ss g H ∧ g.gs.length ≤ 1000 ∧ ss.length ≤ 20 ∧
  g.m.next = some k ∧ g.gs[k]? = some h ∧ h.fs = f :: fs ∧ f.m.deed e.tbl = some (p, i) ∧ FrmOk e f.m ∧ Held g.held ∧ g.held.length = e.nc ∧ (∀ s ∈ ss, p = s.s.place → ∀ w ∈ s.s.wish, e.part f.fn w) ∧
  ∀ H', GoAt2 K F G da e x dx sd n ss g H' → Q (stopV n.done ss k p f.names g.held) H'
end S
set_option Elab.async false
set_option linter.all false
set_option maxRecDepth 100000
namespace S
open PySem PySem.Spec PyProof.Rows L2
def n_Going__stop_met : List Str := ["self", "hand", "frame", "cells", "met", "number", "stop"]
def t_Going__stop_met (K : PySem.W.Frag) : TS :=
    (tSeq (tIfS (tTest (tOp rEq (tFld K (tVar 0) "done") (tC (.int 0))))
      (tRet (tC .non))
      tNext)
    (tSeq (tAsg (tMeth (He.ga K "Machine") "next_hand" (sp_Machine_next_hand K) [] E0 (tFld K (tVar 0) "machine") tNil) (gName 1))
    (tSeq (tAsg (tMeth (He.ga K "Machine") "next_frame" (sp_Machine_next_frame K) [] E0 (tFld K (tVar 0) "machine") tNil) (gName 2))
    (tSeq (tAsg (tFld K (tFld K (tVar 0) "machine") "held") (gName 3))
    (tSeq (tLock (tAsg (tLc (iItems (tFld K (tVar 0) "stops")) (gTup K 2 (gCons (gName 5) (gCons (gName 6) gNil))) (tB (tMeth (He.ga K "Stop") "is_met" (sp_Stop_is_met K) [] E0 (tVar 6) (tCons (tVar 1) (tCons (tVar 2) (tCons (tVar 3) tNil))))) (tVar 5) [5, 6]) (gName 4)))
    (tRet (tCKw (rMinD K) (tCons (tVar 4) tNil) (tCons (tC .non) tNil))))))))
end S
set_option Elab.async false
set_option linter.all false
set_option maxRecDepth 100000
set_option maxHeartbeats 1000000
namespace S
open PySem PySem.Spec PyProof.Rows L2
section
variable {K : PySem.W.Frag}
theorem regM_f {g : GM} {h : GH} {f : GF} (hm : h ∈ g.gs) (hf : f ∈ h.fs) : ∀ x ∈ f.reg K, x ∈ g.reg K := by
  intro x hx
  unfold GM.reg
  refine List.mem_cons_of_mem _ (List.mem_cons_of_mem _ (List.mem_cons_of_mem _ (List.mem_cons_of_mem _ (List.mem_append_right _ ?_))))
  refine List.mem_flatMap.mpr ⟨h, hm, List.mem_cons_of_mem _ (List.mem_cons_of_mem _ ?_)⟩
  exact List.mem_flatMap.mpr ⟨f, hf, hx⟩
theorem met_take {ss : List GS} {j : Nat} {s : GS} {k p : Nat} {ns cs : List Int} (h : ss[j]? = some s) : metI (ss.take (j + 1)) k p ns cs = metI (ss.take j) k p ns cs ++ (if s.s.met k p ns cs = true then [(s.n : Int)] else []) := by
  unfold metI
  have et : ss.take (j + 1) = ss.take j ++ [s] := by
    rw [List.take_succ, h]
    rfl
  rw [et, List.filter_append, List.map_append]
  congr 1
  cases hm : s.s.met k p ns cs <;> simp [hm]
theorem met_len {ss : List GS} {k p : Nat} {ns cs : List Int} : (metI ss k p ns cs).length ≤ ss.length := by
  unfold metI
  rw [List.length_map]
  exact List.length_filter_le _ _
theorem rd_Going__stop_met (T : Fx K) (U : Gx K) (vs : List V) (H : Hp) (Q : VK) (E : XK) (h : sp_Going__stop_met K vs H Q E) : t_Going__stop_met K { nx := fun _ H' => Q .non H', rt := Q } (start n_Going__stop_met vs) H := by
  obtain ⟨F, G, da, e, x, dx, sd, n, ss, g, k, p, h, f, fs, i, rfl, A, hz, hs20, en, hh, ef, hd, fok, hH, hnc, hw, q⟩ := h
  have s := A.sat
  have hx : H x = some (goO K dx g.a sd n) := s.get List.mem_cons_self
  have v0 : ∀ (H : Hp) (a b c d e f : Option V), Val (tVar 0) [some (.ref x), a, b, c, d, e, f] H (.ref x) := fun H a b c d e f => val_var rfl
  have vdn := val_fld (v0 H none none none none none none) hx U.cls_Going U.na_Going_done rfl
  have t1 : Ans (tTest (tOp rEq (tFld K (tVar 0) "done") (tC (.int 0)))) [some (.ref x), none, none, none, none, none, none] H (decide (n.done = 0)) := ans_eq vdn val_c rfl (decI n.done 0)
  unfold stopV at q
  by_cases h0 : n.done = 0
  · rw [decide_eq_true h0] at t1
    rw [if_pos h0] at q
    exact sq_yes t1 (st_ret val_c (q _ A))
  · rw [decide_eq_false h0] at t1
    rw [if_neg h0] at q
    refine sq_no t1 ?_
    have sM : Sat F (((x, goO K dx g.a sd n) :: (sd, .dK (stK ss)) :: stR K ss) ++ g.reg K) H := s
    have subM := same_addR (F := F) sM.init.off
    have AM : MchAt K (addR F ((x, goO K dx g.a sd n) :: (sd, .dK (stK ss)) :: stR K ss)) G da e g H := ⟨A.sub.trans subM, A.env, A.wf, sM.focus⟩
    have hga : H g.a = some (mchO K g) := sM.tail.get regM_self
    have vn : Val (tMeth (He.ga K "Machine") "next_hand" (sp_Machine_next_hand K) [] E0 (tFld K (tVar 0) "machine") tNil) [some (.ref x), none, none, none, none, none, none] H (.int (k : Nat)) := by
      intro Q q
      refine val_fld (v0 H _ _ _ _ _ _) hx U.cls_Going U.na_Going_machine rfl _ ⟨g.a, g.dx, _, rfl, hga, rfl, _, G, da, e, g, rfl, AM, hz, ?_⟩
      rw [en]
      exact q
    refine sq_set vn ?_
    have vf : Val (tMeth (He.ga K "Machine") "next_frame" (sp_Machine_next_frame K) [] E0 (tFld K (tVar 0) "machine") tNil) [some (.ref x), some (.int (k : Nat)), none, none, none, none, none] H (.ref f.a) := by
      intro Q q
      exact val_fld (v0 H _ _ _ _ _ _) hx U.cls_Going U.na_Going_machine rfl _ ⟨g.a, g.dx, _, rfl, hga, rfl, _, G, da, e, g, k, h, f, fs, rfl, AM, hz, en, hh, ef, q⟩
    refine sq_set vf ?_
    have vhe := val_fld (val_fld (v0 H (some (.int (k : Nat))) (some (.ref f.a)) none none none none) hx U.cls_Going U.na_Going_machine rfl) hga T.cls_Machine T.na_Machine_held rfl
    refine sq_set vhe ?_
    refine st_seq ?_
    have s2 : Sat F ((sd, .dK (stK ss)) :: (x, goO K dx g.a sd n) :: (stR K ss ++ g.reg K)) H := s.perm (List.Perm.swap _ _ _)
    refine ⟨sd, .dK (stK ss), s2.get List.mem_cons_self, trivial, fun od => ?_⟩
    have s3 := s2.put (u := .frz od (.dK (stK ss)))
    generalize hH1 : upd H sd (.frz od (.dK (stK ss))) = H1 at s3 ⊢
    have hx1 : H1 x = some (goO K dx g.a sd n) := s3.get (List.mem_cons_of_mem _ List.mem_cons_self)
    refine ⟨_, rfl, x, _, dx, _, _, rfl, hx1, U.cls_Going, U.na_Going_stops, rfl, ?_⟩
    refine ⟨sd, od, stK ss, rfl, s3.get List.mem_cons_self, fun D hD => ?_⟩
    have s4 := s3.new (o := .lst []) hD
    have hkl : (stK ss).length = ss.length := List.length_map ..
    refine lc_it (walk_items (d := sd) (o := od) (kvs := stK ss)) (fun j H' => Sat F ((D, .lst ((metI (ss.take j) k p f.names g.held).map V.int)) :: (sd, .frz od (.dK (stK ss))) :: (x, goO K dx g.a sd n) :: (stR K ss ++ g.reg K)) H')
      s4 (fun j H' _ w => w.get (List.mem_cons_of_mem _ List.mem_cons_self)) ?_ ?_
    · rintro j v H2 H3 hj w ⟨T', y1, y2, rfl, hT, rfl, ex, ey⟩
      obtain ⟨st, hst⟩ : ∃ st, ss[j]? = some st := ⟨ss[j]'(by omega), by simp [show j < ss.length by omega]⟩
      have hkv : (stK ss)[j]? = some (Sum.inl (st.n : Int), V.ref st.a) := by
        unfold stK
        rw [List.getElem?_map, hst]
        rfl
      have e1 : y1 = .int (st.n : Nat) := by
        have : (Option.map (fun kv : Key × V => kV kv.1) (stK ss)[j]?) = some y1 := ex
        rw [hkv] at this
        exact (Option.some.inj this).symm
      have e2 : y2 = .ref st.a := by
        have : (Option.map Prod.snd (stK ss)[j]?) = some y2 := ey
        rw [hkv] at this
        exact (Option.some.inj this).symm
      subst e1 e2
      have w2 := w.temp (o := .tup [.int (st.n : Nat), .ref st.a]) hT
      refine ⟨T', _, rfl, .inl (.inl upd_same), rfl, _, _, rfl, _, _, rfl, rfl, ?_⟩
      generalize upd H2 T' _ = H3 at w2 ⊢
      refine ⟨rfl, ?_⟩
      have hmem := List.mem_of_getElem? hst
      have hgm := List.mem_of_getElem? hh
      have hreg : ∀ y ∈ f.reg K, H3 y.1 = some y.2 := fun y hy => w2.at_ y (List.mem_cons_of_mem _ (List.mem_cons_of_mem _ (List.mem_cons_of_mem _ (List.mem_append_right _ (regM_f hgm (by rw [ef]; exact List.mem_cons_self) y hy)))))
      have hsa : H3 st.a = some (stpO K st.dx st.s st.wv) := w2.at_ (st.a, _) (List.mem_cons_of_mem _ (List.mem_cons_of_mem _ (List.mem_cons_of_mem _ (List.mem_append_left _ (List.mem_map.mpr ⟨st, hmem, rfl⟩)))))
      have hwish : WishAt K H3 st.wv st.s.wish := by
        have := A.wish st hmem
        cases ew : st.s.wish with
        | none =>
          rw [ew] at this
          exact this
        | some pw =>
          rw [ew] at this
          obtain ⟨wa, e1, e2⟩ := this
          exact ⟨wa, e1, e2.mono w2.fr⟩
      refine ⟨_, rfl, st.a, st.dx, _, rfl, hsa, rfl, _, rfl, _, rfl, _, rfl, ?_⟩
      refine ⟨G, da, e, st.a, g.he, st.s, k, p, i, f, g.held, rfl, A.sub.trans w2.fr, A.env.tbl, ⟨st.dx, st.wv, hsa, hwish⟩, hreg, A.wf.1 h hgm f (by rw [ef]; exact List.mem_cons_self), hd, fok, ?_, hH, hnc, hw st hmem, fun H4 e4 => ⟨_, rfl, ?_⟩⟩
      · exact w2.at_ (g.he, _) (List.mem_cons_of_mem _ (List.mem_cons_of_mem _ (List.mem_cons_of_mem _ (List.mem_append_right _ (List.mem_cons_of_mem _ List.mem_cons_self)))))
      have w3 := w2.grow e4
      have emt := met_take (k := k) (p := p) (ns := f.names) (cs := g.held) hst
      cases hmt : st.s.met k p f.names g.held with
      | true =>
        refine Eq.mpr (if_pos rfl) ?_
        refine ⟨_, rfl, _, w3.get List.mem_cons_self, ?_, ?_⟩
        · have := met_len (ss := ss.take j) (k := k) (p := p) (ns := f.names) (cs := g.held)
          rw [List.length_take] at this
          rw [List.length_map]
          exact Nat.lt_of_le_of_lt (by omega : _ ≤ 20) (by decide)
        · rw [emt, hmt, if_pos rfl, List.map_append]
          exact w3.put
      | false =>
        refine Eq.mpr (if_neg Bool.false_ne_true) ?_
        rw [emt, hmt, if_neg Bool.false_ne_true, List.append_nil]
        exact w3
    · intro H2 w
      rw [hkl, List.take_length] at w
      refine ⟨w.get (List.mem_cons_of_mem _ List.mem_cons_self), ?_⟩
      have w2 := (w.perm (List.Perm.swap _ _ _)).put (u := .dK (stK ss))
      generalize upd H2 sd _ = H3 at w2 ⊢
      have hl : H3 D = some (.lst ((metI ss k p f.names g.held).map V.int)) := w2.get (List.mem_cons_of_mem _ List.mem_cons_self)
      refine ⟨_, rfl, D, metI ss k p f.names g.held, .non, rfl, rfl, SqL.of hl, ?_⟩
      have w3 : Sat F ((x, goO K dx g.a sd n) :: (sd, .dK (stK ss)) :: (stR K ss ++ g.reg K)) H3 := (w2.perm (r1 := [(D, .lst ((metI ss k p f.names g.held).map V.int))] ++ ((x, goO K dx g.a sd n) :: (sd, .dK (stK ss)) :: (stR K ss ++ g.reg K))) (by (refine perm_sum fun f => ?_; simp only [List.map_append, List.map_cons, List.map_nil, List.sum_append, List.sum_cons, List.sum_nil]; omega))).tail
      exact q _ ⟨A.sub, A.env, A.wf, A.wish, w3⟩
end
end S
set_option Elab.async false
set_option linter.all false
set_option maxRecDepth 100000
set_option maxHeartbeats 1000000
namespace S
open PySem PySem.Spec PyProof.Rows L2
def handOver (m : Mch) : Option Nat → Option Nat
  | none => none
  | some j => if (m.stk j).isEmpty then some j else none
def restV (k p : Nat) (m : Mch) (n : Gn) : V → Option (List V)
  | .non => if n.hand = some k ∧ n.stepped m = true then some [.str "step", .int (k : Nat), .int (p : Nat)] else if n.many ≤ n.done then some [.str "paused", .int (k : Nat), .int (p : Nat)] else none
  | v => some [.str "stop", .int (k : Nat), .int (p : Nat), v]
def endV (e : Env) (m : Mch) (ss : List GS) (n : Gn) : Option (List V) := match m.next with
  | none => some [.str "over"]
  | some k => match handOver m n.hand with
    | some j => some [.str "ended", .int (j : Nat)]
    | none => match m.stk k with
      | [] => none
      | f :: _ => match f.deed e.tbl with
        | none => none
        | some (p, _) => restV k p m n (stopV n.done ss k p f.names m.held)
def sp_Going__next_deed (K : PySem.W.Frag) : Sp := fun vs H Q _ => ∃ (F G : Hp) (da : Nat → Addr) (e : Env) (x dx sd : Addr) (n : Gn) (ss : List GS) (g : GM) (k p : Nat) (h : GH) (f : GF) (fs : List GF) (i : DInfo), vs = [.ref x] ∧ GoAt2 K F G da e x dx sd n ss g H ∧ g.gs.length ≤ 1000 ∧
  g.m.next = some k ∧ g.gs[k]? = some h ∧ h.fs = f :: fs ∧ f.m.deed e.tbl = some (p, i) ∧ e.tbl[p]? = some i ∧ ∀ t, H t = none → Q (.ref t) (upd H t (.tup [.int (k : Nat), .int (p : Nat)]))
def sp_Going_ending (K : PySem.W.Frag) : Sp := fun vs H Q _ => ∃ (F G : Hp) (da : Nat → Addr) (e : Env) (x dx sd : Addr) (n : Gn) (ss : List GS) (g : GM), vs = [.ref x] ∧ GoAt2 K F G da e x dx sd n ss g H ∧ e.Ok ∧ g.m.Ok e ∧ ss.length ≤ 20 ∧ (∀ j ∈ n.hand, j < g.gs.length) ∧
  (∀ s ∈ ss, ∀ i, e.tbl[s.s.place]? = some i → ∀ w ∈ s.s.wish, e.part i.fn w) ∧
  ∀ H0, GoAt2 K F G da e x dx sd n ss g H0 → (endV e g.m ss n = none → Q .non H0) ∧ ∀ xs t, endV e g.m ss n = some xs → H0 t = none → Q (.ref t) (upd H0 t (.tup xs))
end S
set_option Elab.async false
set_option linter.all false
set_option maxRecDepth 100000
namespace S
open PySem PySem.Spec PyProof.Rows L2
def n_Going__next_deed : List Str := ["self"]
def t_Going__next_deed (K : PySem.W.Frag) : TS :=
    (tRet (tTup (tCons (tMeth (He.ga K "Machine") "next_hand" (sp_Machine_next_hand K) [] E0 (tFld K (tVar 0) "machine") tNil) (tCons (tFld K (tMeth (He.ga K "Frame") "deed" (sp_Frame_deed K) [] E0 (tMeth (He.ga K "Machine") "next_frame" (sp_Machine_next_frame K) [] E0 (tFld K (tVar 0) "machine") tNil) tNil) "place") tNil))))
def n_Going_ending : List Str := ["self", "number", "hand", "place"]
def t_Going_ending (K : PySem.W.Frag) : TS :=
    (tSeq (tIfS (tB (tMeth (He.ga K "Machine") "all_ended" (sp_Machine_all_ended K) [] E0 (tFld K (tVar 0) "machine") tNil))
      (tRet (tTup (tCons (tC (.str "over")) tNil)))
      tNext)
    (tSeq (tIfS (tAnd (tTest (tOp rNotN (tFld K (tVar 0) "hand") (tC .non))) (tNot (tTru K (tFld K (tOp (rIxL K) (tFld K (tFld K (tVar 0) "machine") "hands") (tFld K (tVar 0) "hand")) "frames"))))
      (tRet (tTup (tCons (tC (.str "ended")) (tCons (tFld K (tVar 0) "hand") tNil))))
      tNext)
    (tSeq (tAsg (tMeth (He.ga K "Going") "_next_deed" (sp_Going__next_deed K) [] E0 (tVar 0) tNil) (gTup K 2 (gCons (gName 2) (gCons (gName 3) gNil))))
    (tSeq (tAsg (tMeth (He.ga K "Going") "_stop_met" (sp_Going__stop_met K) [] E0 (tVar 0) tNil) (gName 1))
    (tSeq (tIfS (tTest (tOp rNotN (tVar 1) (tC .non)))
      (tRet (tTup (tCons (tC (.str "stop")) (tCons (tVar 2) (tCons (tVar 3) (tCons (tVar 1) tNil))))))
      tNext)
    (tSeq (tIfS (tAnd (tTest (tOp rEq (tVar 2) (tFld K (tVar 0) "hand"))) (tB (tMeth (He.ga K "Going") "_has_stepped" (sp_Going__has_stepped K) [] E0 (tVar 0) tNil)))
      (tRet (tTup (tCons (tC (.str "step")) (tCons (tVar 2) (tCons (tVar 3) tNil)))))
      tNext)
    (tSeq (tIfS (tTest (tOp (rI0 fun i j => .bl (decide (j ≤ i))) (tFld K (tVar 0) "done") (tFld K (tVar 0) "many")))
      (tRet (tTup (tCons (tC (.str "paused")) (tCons (tVar 2) (tCons (tVar 3) tNil)))))
      tNext)
    (tRet (tC .non)))))))))
end S
set_option Elab.async false
set_option linter.all false
set_option maxRecDepth 100000
set_option maxHeartbeats 1000000
namespace S
open PySem PySem.Spec PyProof.Rows L2
section
variable {K : PySem.W.Frag}
theorem tup_I' {σ : L2.St} {H : Hp} {Q : VK} {t : TA} (h : t σ H fun xs H1 => xs.length ≤ sizeLine ∧ ∀ p, H1 p = none → Q (.ref p) (upd H1 p (.tup xs))) : tTup t σ H Q := h
theorem rd_Going__next_deed (T : Fx K) (U : Gx K) (vs : List V) (H : Hp) (Q : VK) (E : XK) (h : sp_Going__next_deed K vs H Q E) : t_Going__next_deed K { nx := fun _ H' => Q .non H', rt := Q } (start n_Going__next_deed vs) H := by
  obtain ⟨F, G, da, e, x, dx, sd, n, ss, g, k, p, h, f, fs, i, rfl, A, hz, en, hh, ef, hd, hi, wq⟩ := h
  have hgm := List.mem_of_getElem? hh
  have v0 : Val (tVar 0) [some (.ref x)] H (.ref x) := val_var rfl
  have getx : H x = some (goO K dx g.a sd n) := A.sat.get List.mem_cons_self
  have split : Sat F (((x, goO K dx g.a sd n) :: (sd, .dK (stK ss)) :: stR K ss) ++ g.reg K) H := A.sat
  have mch : MchAt K (addR F ((x, goO K dx g.a sd n) :: (sd, .dK (stK ss)) :: stR K ss)) G da e g H := ⟨A.sub.trans (same_addR split.init.off), A.env, A.wf, split.focus⟩
  have getm : H g.a = some (mchO K g) := split.tail.get regM_self
  have vn : Val (tMeth (He.ga K "Machine") "next_hand" (sp_Machine_next_hand K) [] E0 (tFld K (tVar 0) "machine") tNil) [some (.ref x)] H (.int (k : Nat)) := by
    intro Q q
    refine val_fld v0 getx U.cls_Going U.na_Going_machine rfl _ ⟨g.a, g.dx, _, rfl, getm, rfl, _, G, da, e, g, rfl, mch, hz, ?_⟩
    rw [en]
    exact q
  have vf : Val (tMeth (He.ga K "Machine") "next_frame" (sp_Machine_next_frame K) [] E0 (tFld K (tVar 0) "machine") tNil) [some (.ref x)] H (.ref f.a) := by
    intro Q q
    exact val_fld v0 getx U.cls_Going U.na_Going_machine rfl _ ⟨g.a, g.dx, _, rfl, getm, rfl, _, G, da, e, g, k, h, f, fs, rfl, mch, hz, en, hh, ef, q⟩
  have hreg : ∀ y ∈ f.reg K, H y.1 = some y.2 := fun y hy => split.tail.at_ y (regM_f hgm (by rw [ef]; exact List.mem_cons_self) y hy)
  have wff : f.Wf K G da := A.wf.1 h hgm f (by rw [ef]; exact List.mem_cons_self)
  have sGH : Same G H := A.sub.trans A.sat.fr
  obtain ⟨b, bs, eb, hb, hdl, hp, ht⟩ := deed_at (F := F) sGH wff hreg hd
  obtain ⟨ddx, tta, ba, hda, _⟩ := A.env.tbl p i hi
  have hfa : H f.a = some (frmO K f) := hreg (f.a, _) (List.mem_cons_of_mem _ List.mem_cons_self)
  have hfb : H f.bl = some (bsL f.bs) := hreg (f.bl, _) List.mem_cons_self
  have vd : Val (tMeth (He.ga K "Frame") "deed" (sp_Frame_deed K) [] E0 (tMeth (He.ga K "Machine") "next_frame" (sp_Machine_next_frame K) [] E0 (tFld K (tVar 0) "machine") tNil) tNil) [some (.ref x)] H (.ref (da p)) := by
    intro Q q
    exact vf _ ⟨f.a, f.dx, _, rfl, hfa, rfl, da, f, b, bs, p, rfl, hfa, hfb, eb, hb, hdl, hp, q⟩
  have vp := val_fld vd (sGH _ _ hda) T.cls_Deed T.na_Deed_place rfl
  refine st_retI (tup_I' (args_cons (vn _ (args_cons (vp _ (args_nil ⟨(by show 2 ≤ sizeLine; decide), fun t ht => wq t ht⟩))))))
theorem rd_Going_ending (T : Fx K) (U : Gx K) (vs : List V) (H : Hp) (Q : VK) (E : XK) (h : sp_Going_ending K vs H Q E) : t_Going_ending K { nx := fun _ H' => Q .non H', rt := Q } (start n_Going_ending vs) H := by
  obtain ⟨F, G, da, e, x, dx, sd, n, ss, g, rfl, A, ok, mok, hs20, hhand, hwish, q⟩ := h
  have hz : g.gs.length ≤ 1000 := by
    have h1 := mok.many
    have h2 : g.m.hands.length = g.gs.length := List.length_map ..
    omega
  have v0 : ∀ (H : Hp) (a b c : Option V), Val (tVar 0) [some (.ref x), a, b, c] H (.ref x) := fun H a b c => val_var rfl
  have getx : ∀ {H : Hp}, GoAt2 K F G da e x dx sd n ss g H → H x = some (goO K dx g.a sd n) := fun A => A.sat.get List.mem_cons_self
  have split : ∀ {H : Hp}, GoAt2 K F G da e x dx sd n ss g H → Sat F (((x, goO K dx g.a sd n) :: (sd, .dK (stK ss)) :: stR K ss) ++ g.reg K) H := fun A => A.sat
  have mch : ∀ {H : Hp}, GoAt2 K F G da e x dx sd n ss g H → MchAt K (addR F ((x, goO K dx g.a sd n) :: (sd, .dK (stK ss)) :: stR K ss)) G da e g H := fun A => ⟨A.sub.trans (same_addR (split A).init.off), A.env, A.wf, (split A).focus⟩
  have getm : ∀ {H : Hp}, GoAt2 K F G da e x dx sd n ss g H → H g.a = some (mchO K g) := fun A => (split A).tail.get regM_self
  have vend : Val (tMeth (He.ga K "Machine") "all_ended" (sp_Machine_all_ended K) [] E0 (tFld K (tVar 0) "machine") tNil) [some (.ref x), none, none, none] H (.bl g.m.next.isNone) := by
    intro Q q
    exact val_fld (v0 H _ _ _) (getx A) U.cls_Going U.na_Going_machine rfl _ ⟨g.a, g.dx, _, rfl, getm A, rfl, _, G, da, e, g, rfl, mch A, hz, q⟩
  have ta := ans_val vend
  unfold endV at q
  cases en : g.m.next with
  | none =>
    rw [en] at ta q
    refine sq_yes ta (st_retI (tup_I' (args_cons (val_c _ (args_nil ⟨(by show 1 ≤ sizeLine; decide), fun t ht => ?_⟩)))))
    exact (q H A).2 _ t rfl ht
  | some k =>
    rw [en] at ta q
    refine sq_no ta ?_
    dsimp only at q
    have vh := val_fld (v0 H none none none) (getx A) U.cls_Going U.na_Going_hand rfl
    have vmh := val_fld (val_fld (v0 H none none none) (getx A) U.cls_Going U.na_Going_machine rfl) (getm A) T.cls_Machine T.na_Machine_hands rfl
    have t2 : Ans (tAnd (tTest (tOp rNotN (tFld K (tVar 0) "hand") (tC .non))) (tNot (tTru K (tFld K (tOp (rIxL K) (tFld K (tFld K (tVar 0) "machine") "hands") (tFld K (tVar 0) "hand")) "frames")))) [some (.ref x), none, none, none] H (handOver g.m n.hand).isSome := by
      cases eh : n.hand with
      | none =>
        rw [eh] at vh
        exact ans_and0 (ans_notN vh rfl)
      | some j =>
        rw [eh] at vh
        have hj := hhand j (by rw [eh]; rfl)
        obtain ⟨hj', hhj⟩ : ∃ h, g.gs[j]? = some h := ⟨g.gs[j], by simp [hj]⟩
        have hmem := List.mem_of_getElem? hhj
        have vhj := val_ixL (K := K) vmh vh (SqL.of ((split A).tail.get regM_ha)) (atI_nat (j := j) (v := .ref hj'.a) (by rw [List.getElem?_map, hhj]; rfl))
        have vf := val_fld vhj ((split A).tail.get (regM_hand hmem)) T.cls_Hand T.na_Hand_frames rfl
        refine ans_and (b := (handOver g.m (some j)).isSome) (ans_notN vh rfl) ?_
        have e1 : (handOver g.m (some j)).isSome = !(!((hj'.fs.map GF.a).reverse.map V.ref).isEmpty) := by
          show (if (g.m.stk j).isEmpty = true then some j else none).isSome = _
          rw [stk_get hhj]
          unfold GH.m
          cases hj'.fs with
          | nil => rfl
          | cons a b => simp
        rw [e1]
        exact ans_not (ans_lst vf (SqL.of ((split A).tail.get (regM_fl hmem))) rfl)
    cases eo : handOver g.m n.hand with
    | some j =>
      rw [eo] at t2 q
      dsimp only at q
      have ehj : n.hand = some j := by
        unfold handOver at eo
        split at eo
        · cases eo
        · rename_i j' hn
          split at eo
          · cases eo
            exact hn
          · cases eo
      rw [ehj] at vh
      refine sq_yes t2 (st_retI (tup_I' (args_cons (val_c _ (args_cons (vh _ (args_nil ⟨(by show 2 ≤ sizeLine; decide), fun t ht => ?_⟩)))))))
      exact (q H A).2 _ t rfl ht
    | none =>
      rw [eo] at t2 q
      refine sq_no t2 ?_
      dsimp only at q
      have hst := seek_some en
      have hml : g.m.hands.length = g.gs.length := List.length_map ..
      have hk : k < g.gs.length := by
        rw [← hml]
        exact stk_lt hst
      obtain ⟨h, hh⟩ : ∃ h, g.gs[k]? = some h := ⟨g.gs[k], by simp [hk]⟩
      have hgm := List.mem_of_getElem? hh
      have est := stk_get hh
      have hok : HandOk e h.m := mok.hands _ (by rw [← est]; exact stk_mem hst)
      rw [est] at hst q
      cases ef : h.fs with
      | nil =>
        refine absurd ?_ hst
        unfold GH.m
        rw [ef]
        rfl
      | cons f fs =>
      have hm : h.m = f.m :: fs.map GF.m := by
        unfold GH.m
        rw [ef]
        rfl
      rw [hm] at hok q
      have fok := hok.all f.m List.mem_cons_self
      obtain ⟨p, i, hd, hi, hfn⟩ := ready_deed fok (hok.top f.m rfl)
      dsimp only at q
      rw [hd] at q
      dsimp only at q
      refine st_seq (st_asgI ?_)
      refine ⟨_, rfl, x, dx, _, rfl, getx A, rfl, F, G, da, e, x, dx, sd, n, ss, g, k, p, h, f, fs, i, rfl, A, hz, en, hh, ef, hd, hi, fun t ht => ?_⟩
      have A : GoAt2 K F G da e x dx sd n ss g (upd H t (.tup [.int (k : Nat), .int (p : Nat)])) := ⟨A.sub, A.env, A.wf, A.wish, A.sat.temp ht⟩
      refine ⟨t, _, rfl, SqT.of upd_same, rfl, _, _, rfl, _, _, rfl, rfl, ?_⟩
      generalize upd H t _ = H at A ⊢
      dsimp only [gName, List.set]
      refine st_seq (st_asgI ?_)
      refine ⟨_, rfl, x, dx, _, rfl, getx A, rfl, F, G, da, e, x, dx, sd, n, ss, g, k, p, h, f, fs, i, rfl, A, hz, hs20, en, hh, ef, hd, fok, mok.held, mok.nc, fun s hs hpl w hw => ?_, fun H2 A2 => ?_⟩
      · have := hwish s hs i (by rw [← hpl]; exact hi) w hw
        rw [hfn] at this
        exact this
      dsimp only [gName, List.set]
      have q2 := q H2 A2
      have eheld : g.m.held = g.held := rfl
      rw [eheld, show f.m.names = f.names from rfl] at q2
      generalize stopV n.done ss k p f.names g.held = sv at q2 ⊢
      have v1 : Val (tVar 2) [some (.ref x), some sv, some (.int (k : Nat)), some (.int (p : Nat))] H2 (.int (k : Nat)) := val_var rfl
      have v2 : Val (tVar 3) [some (.ref x), some sv, some (.int (k : Nat)), some (.int (p : Nat))] H2 (.int (p : Nat)) := val_var rfl
      have v3 : Val (tVar 1) [some (.ref x), some sv, some (.int (k : Nat)), some (.int (p : Nat))] H2 sv := val_var rfl
      by_cases hsv : sv = .non
      · subst hsv
        refine sq_no (ans_notN v3 rfl) ?_
        have q3 : (restV k p g.m n .non = none → Q .non H2) ∧ ∀ xs t, restV k p g.m n .non = some xs → H2 t = none → Q (.ref t) (upd H2 t (.tup xs)) := q2
        unfold restV at q3
        dsimp only at q3
        have vh2 := val_fld (v0 H2 (some .non) (some (.int (k : Nat))) (some (.int (p : Nat)))) (getx A2) U.cls_Going U.na_Going_hand rfl
        have ts : Ans (tAnd (tTest (tOp rEq (tVar 2) (tFld K (tVar 0) "hand"))) (tB (tMeth (He.ga K "Going") "_has_stepped" (sp_Going__has_stepped K) [] E0 (tVar 0) tNil))) [some (.ref x), some .non, some (.int (k : Nat)), some (.int (p : Nat))] H2 (decide (n.hand = some k ∧ n.stepped g.m = true)) := by
          by_cases ehk : n.hand = some k
          · rw [ehk] at vh2
            have sM : Sat F (((sd, .dK (stK ss)) :: stR K ss) ++ ((x, goO K dx g.a sd n) :: g.reg K)) H2 := A2.sat.perm (by (refine perm_sum fun f => ?_; simp only [List.map_append, List.map_cons, List.map_nil, List.sum_append, List.sum_cons, List.sum_nil]; omega))
            have vs : Val (tMeth (He.ga K "Going") "_has_stepped" (sp_Going__has_stepped K) [] E0 (tVar 0) tNil) [some (.ref x), some .non, some (.int (k : Nat)), some (.int (p : Nat))] H2 (.bl (n.stepped g.m)) := by
              intro Q q
              exact ⟨_, rfl, x, dx, _, rfl, getx A2, rfl, _, G, da, e, x, dx, sd, n, g, k, rfl, ⟨A2.sub.trans (same_addR sM.init.off), A2.env, A2.wf, sM.focus⟩, ehk, hk, q⟩
            have e1 : decide (n.hand = some k ∧ n.stepped g.m = true) = n.stepped g.m := by
              cases n.stepped g.m <;> simp [ehk]
            rw [e1]
            exact ans_and (ans_eq v1 vh2 rfl (decide_eq_true rfl)) (ans_val vs)
          · rw [decide_eq_false (fun z => ehk z.1)]
            refine ans_and0 (ans_eq v1 vh2 ?_ ?_)
            · cases n.hand <;> rfl
            · cases eh : n.hand with
              | none => exact decide_eq_false (fun z => by cases z)
              | some j =>
                show decide (V.int (k : Int) = V.int (j : Int)) = false
                rw [decI]
                exact decide_eq_false fun z => ehk (by rw [eh, z])
        by_cases hst2 : n.hand = some k ∧ n.stepped g.m = true
        · rw [if_pos hst2] at q3
          rw [decide_eq_true hst2] at ts
          refine sq_yes ts (st_retI (tup_I' (args_cons (val_c _ (args_cons (v1 _ (args_cons (v2 _ (args_nil ⟨(by show 3 ≤ sizeLine; decide), fun t ht => ?_⟩)))))))))
          exact q3.2 _ t rfl ht
        · rw [if_neg hst2] at q3
          rw [decide_eq_false hst2] at ts
          refine sq_no ts ?_
          have vdn := val_fld (v0 H2 (some .non) (some (.int (k : Nat))) (some (.int (p : Nat)))) (getx A2) U.cls_Going U.na_Going_done rfl
          have vmn := val_fld (v0 H2 (some .non) (some (.int (k : Nat))) (some (.int (p : Nat)))) (getx A2) U.cls_Going U.na_Going_many rfl
          have tm : ∀ c, decide (((n.many : Nat) : Int) ≤ (n.done : Nat)) = c → Ans (tTest (tOp (rI0 fun i j => .bl (decide (j ≤ i))) (tFld K (tVar 0) "done") (tFld K (tVar 0) "many"))) [some (.ref x), some .non, some (.int (k : Nat)), some (.int (p : Nat))] H2 c :=
            fun c hc => ans_cmp vdn vmn fun Q q => ⟨_, _, rfl, rfl, by rw [← hc] at q; exact q⟩
          by_cases hm2 : n.many ≤ n.done
          · rw [if_pos hm2] at q3
            refine sq_yes (tm true (decide_eq_true (by omega))) (st_retI (tup_I' (args_cons (val_c _ (args_cons (v1 _ (args_cons (v2 _ (args_nil ⟨(by show 3 ≤ sizeLine; decide), fun t ht => ?_⟩)))))))))
            exact q3.2 _ t rfl ht
          · rw [if_neg hm2] at q3
            exact sq_no (tm false (decide_eq_false (by omega))) (st_ret val_c (q3.1 rfl))
      · refine sq_yes (ans_notN v3 (by rw [decide_eq_false hsv]; rfl)) (st_retI (tup_I' (args_cons (val_c _ (args_cons (v1 _ (args_cons (v2 _ (args_cons (v3 _ (args_nil ⟨(by show 4 ≤ sizeLine; decide), fun t ht => ?_⟩)))))))))))
        refine q2.2 _ t ?_ ht
        show restV k p g.m n sv = _
        unfold restV
        split
        · exact absurd rfl hsv
        · rfl
end
end S
set_option Elab.async false
set_option linter.all false
set_option maxRecDepth 100000
set_option maxHeartbeats 1000000
namespace S
open PySem PySem.Spec PyProof.Rows L2
def goRun (e : Env) (ss : List GS) : Nat → Mch → Gn → Mch × Gn
  | 0, m, n => (m, n)
  | k + 1, m, n => match endV e m ss n with
    | none => goRun e ss k (m.doNext e) (n.did m)
    | some _ => (m, n)
def sp_Going_finish (K : PySem.W.Frag) : Sp := fun vs H Q _ => ∃ (F G : Hp) (da : Nat → Addr) (e : Env) (x dx sd : Addr) (n : Gn) (ss : List GS) (g : GM) (B : Nat), vs = [.ref x] ∧ GoAt2 K F G da e x dx sd n ss g H ∧ e.Ok ∧ g.m.Ok e ∧ g.m.Big B ∧ B + (n.many - n.done) ≤ 15000000 ∧ ss.length ≤ 20 ∧ (∀ j ∈ n.hand, j < g.gs.length) ∧
  (∀ s ∈ ss, ∀ i, e.tbl[s.s.place]? = some i → ∀ w ∈ s.s.wish, e.part i.fn w) ∧
  ∀ (g' : GM) (n' : Gn) (xs : List V) (t : Addr) (H0 : Hp), g'.a = g.a → goRun e ss (n.many - n.done) g.m n = (g'.m, n') → endV e g'.m ss n' = some xs → g'.m.Ok e → g'.m.Big (B + (n.many - n.done)) → GoAt2 K F G da e x dx sd n' ss g' H0 → H0 t = none → Q (.ref t) (upd H0 t (.tup xs))
end S
set_option Elab.async false
set_option linter.all false
set_option maxRecDepth 100000
namespace S
open PySem PySem.Spec PyProof.Rows L2
def n_Going_finish : List Str := ["self", "ending"]
def t_Going_finish (K : PySem.W.Frag) : TS :=
    (tSeq (tAsg (tMeth (He.ga K "Going") "ending" (sp_Going_ending K) [] E0 (tVar 0) tNil) (gName 1))
    (tSeq (tWhile (tTest (tOp rIsN (tVar 1) (tC .non)))
      (tSeq (tDrop (tMeth (He.ga K "Going") "do_deed" (sp_Going_do_deed K) [] E0 (tVar 0) tNil))
      (tAsg (tMeth (He.ga K "Going") "ending" (sp_Going_ending K) [] E0 (tVar 0) tNil) (gName 1))))
    (tRet (tVar 1))))
end S
set_option Elab.async false
set_option linter.all false
set_option maxRecDepth 100000
set_option maxHeartbeats 1000000
namespace S
open PySem PySem.Spec PyProof.Rows L2
section
variable {K : PySem.W.Frag}
theorem endV_none {e : Env} {m : Mch} {ss : List GS} {n : Gn} (mok : m.Ok e) (h : endV e m ss n = none) : m.next ≠ none ∧ n.done < n.many := by
  unfold endV at h
  cases en : m.next with
  | none =>
    rw [en] at h
    cases h
  | some k =>
    rw [en] at h
    dsimp only at h
    refine ⟨by simp, ?_⟩
    cases eo : handOver m n.hand with
    | some j =>
      rw [eo] at h
      cases h
    | none =>
      rw [eo] at h
      dsimp only at h
      have hst := seek_some en
      have hok := mok.hands _ (stk_mem hst)
      cases es : m.stk k with
      | nil => exact absurd es hst
      | cons f fs =>
        rw [es] at h hok
        obtain ⟨p, i, hd, _⟩ := ready_deed (hok.all f List.mem_cons_self) (hok.top f rfl)
        dsimp only at h
        rw [hd] at h
        dsimp only at h
        unfold restV at h
        split at h
        · split at h
          · cases h
          · split at h
            · cases h
            · omega
        · cases h
theorem did_many (n : Gn) (m : Mch) : (n.did m).many = n.many ∧ (n.did m).done = n.done + 1 ∧ (n.did m).hand = n.hand := ⟨rfl, rfl, rfl⟩
theorem doNext_hands {e : Env} {m : Mch} : (m.doNext e).hands.length = m.hands.length := by
  unfold Mch.doNext
  split
  · rfl
  · split
    · rfl
    · split
      · rfl
      · exact List.length_set ..
theorem rd_Going_finish (vs : List V) (H : Hp) (Q : VK) (E : XK) (h : sp_Going_finish K vs H Q E) : t_Going_finish K { nx := fun _ H' => Q .non H', rt := Q } (start n_Going_finish vs) H := by
  obtain ⟨F, G, da, e, x, dx, sd, n, ss, g, B, rfl, A, ok, mok, big, hB, hs20, hhand, hwish, q⟩ := h
  have look : ∀ (g1 : GM) (n1 : Gn) (H1 : Hp) (y : Option V) (Q1 : VK), GoAt2 K F G da e x dx sd n1 ss g1 H1 → g1.m.Ok e → (∀ j ∈ n1.hand, j < g1.gs.length) →
      (∀ H0, GoAt2 K F G da e x dx sd n1 ss g1 H0 → (endV e g1.m ss n1 = none → Q1 .non H0) ∧ ∀ xs t, endV e g1.m ss n1 = some xs → H0 t = none → Q1 (.ref t) (upd H0 t (.tup xs))) →
      tMeth (He.ga K "Going") "ending" (sp_Going_ending K) [] E0 (tVar 0) tNil [some (.ref x), y] H1 Q1 := by
    intro g1 n1 H1 y Q1 A1 mok1 hh1 q1
    exact ⟨_, rfl, x, dx, _, rfl, A1.sat.get List.mem_cons_self, rfl, F, G, da, e, x, dx, sd, n1, ss, g1, rfl, A1, ok, mok1, hs20, hh1, hwish, q1⟩
  refine st_seq (st_asgI (look g n H none _ A mok hhand fun H0 A0 => ?_))
  have main : ∀ (y : V) (H1 : Hp), (∃ (g1 : GM) (n1 : Gn) (H2 : Hp), g1.a = g.a ∧ g1.gs.length = g.gs.length ∧ n1.hand = n.hand ∧ n1.many = n.many ∧ g1.m.Ok e ∧ g1.m.Big (B + (n1.done - n.done)) ∧ n.done ≤ n1.done ∧ (n1.done ≤ n.done ∨ n1.done ≤ n.many) ∧
        goRun e ss (n.many - n.done) g.m n = goRun e ss (n.many - n1.done) g1.m n1 ∧ GoAt2 K F G da e x dx sd n1 ss g1 H2 ∧
        ((endV e g1.m ss n1 = none ∧ y = .non ∧ H1 = H2) ∨ ∃ xs t, endV e g1.m ss n1 = some xs ∧ H2 t = none ∧ y = .ref t ∧ H1 = upd H2 t (.tup xs))) →
      tSeq (tWhile (tTest (tOp rIsN (tVar 1) (tC .non))) (tSeq (tDrop (tMeth (He.ga K "Going") "do_deed" (sp_Going_do_deed K) [] E0 (tVar 0) tNil)) (tAsg (tMeth (He.ga K "Going") "ending" (sp_Going_ending K) [] E0 (tVar 0) tNil) (gName 1)))) (tRet (tVar 1)) { nx := fun _ H' => Q .non H', rt := Q } [some (.ref x), some y] H1 := by
    intro y H1 hst
    refine ⟨fun m σ H1 => ∃ y, σ = [some (.ref x), some y] ∧ ∃ (g1 : GM) (n1 : Gn) (H2 : Hp), g1.a = g.a ∧ g1.gs.length = g.gs.length ∧ n1.hand = n.hand ∧ n1.many = n.many ∧ g1.m.Ok e ∧ g1.m.Big (B + (n1.done - n.done)) ∧ n.done ≤ n1.done ∧ (n1.done ≤ n.done ∨ n1.done ≤ n.many) ∧
        goRun e ss (n.many - n.done) g.m n = goRun e ss (n.many - n1.done) g1.m n1 ∧ GoAt2 K F G da e x dx sd n1 ss g1 H2 ∧
        ((endV e g1.m ss n1 = none ∧ y = .non ∧ H1 = H2) ∨ ∃ xs t, endV e g1.m ss n1 = some xs ∧ H2 t = none ∧ y = .ref t ∧ H1 = upd H2 t (.tup xs)) ∧ m = n.many - n1.done, ?_, ?_⟩
    · obtain ⟨g1, n1, H2, a1, a2, a3, a4, a5, a6, a7, a8, a9, a10, a11⟩ := hst
      exact ⟨_, y, rfl, g1, n1, H2, a1, a2, a3, a4, a5, a6, a7, a8, a9, a10, a11, rfl⟩
    · rintro m σ H3 ⟨y, rfl, g1, n1, H2, a1, a2, a3, a4, a5, a6, a7, a8, a9, a10, a11, rfl⟩
      rcases a11 with ⟨hn, rfl, rfl⟩ | ⟨xs, t, hx, ht, rfl, rfl⟩
      · obtain ⟨hnx, hlt⟩ := endV_none a5 hn
        refine ans_isN (b := true) (x := .non) (val_var rfl) rfl _ (iteT ⟨_, fun σ' H' h => h, ?_⟩)
        have sM : Sat F (((sd, .dK (stK ss)) :: stR K ss) ++ ((x, goO K dx g1.a sd n1) :: g1.reg K)) H3 := a10.sat.perm (by (refine perm_sum fun f => ?_; simp only [List.map_append, List.map_cons, List.map_nil, List.sum_append, List.sum_cons, List.sum_nil]; omega))
        have d1 : 15000000 ≥ B + (n1.done - n.done) := by omega
        refine st_seq (st_dropI ?_)
        refine ⟨_, rfl, x, dx, _, rfl, a10.sat.get List.mem_cons_self, rfl, _, G, da, e, x, dx, sd, n1, g1, rfl, ⟨a10.sub.trans (same_addR sM.init.off), a10.env, a10.wf, sM.focus⟩, ok, a5, ⟨fun fs hfs f hf => Nat.le_trans (a6.1 fs hfs f hf) d1, Nat.le_trans a6.2 d1⟩, hnx, fun g2 H4 b1 b2 b3 b4 A4 => ?_⟩
        obtain ⟨c1, c2⟩ := doNext_ok ok a5
        have s4 := sM.unfocus A4.sat
        have A5 : GoAt2 K F G da e x dx sd (n1.did g1.m) ss g2 H4 := ⟨a10.sub, A4.env, A4.wf, a10.wish, s4.perm (by (refine perm_sum fun f => ?_; simp only [List.map_append, List.map_cons, List.map_nil, List.sum_append, List.sum_cons, List.sum_nil]; omega))⟩
        have hlen2 : g2.gs.length = g.gs.length := by
          rw [← a2]
          have h1 : g2.m.hands.length = g2.gs.length := List.length_map ..
          have h2 : g1.m.hands.length = g1.gs.length := List.length_map ..
          rw [← h1, ← h2, b4, doNext_hands]
        have hrun : goRun e ss (n.many - n1.done) g1.m n1 = goRun e ss (n.many - (n1.done + 1)) g2.m (n1.did g1.m) := by
          have e1 : n.many - n1.done = (n.many - (n1.done + 1)) + 1 := by omega
          rw [e1]
          conv => lhs; unfold goRun
          rw [hn, b4]
        have big2 : g2.m.Big (B + (n1.done + 1 - n.done)) := by
          rw [b4]
          have e1 : B + (n1.done + 1 - n.done) = B + (n1.done - n.done) + 1 := by omega
          rw [e1]
          exact c2 _ a6
        refine st_asgI (look g2 (n1.did g1.m) H4 (some .non) _ A5 (by rw [b4]; exact c1) (fun j hj => by rw [hlen2]; exact hhand j (by rw [← a3]; exact hj)) fun H0 A0 => ⟨fun he => ?_, fun xs t he ht => ?_⟩)
        · exact ⟨n.many - (n1.done + 1), by omega, .non, rfl, g2, n1.did g1.m, H0, b1.trans a1, hlen2, a3, a4, by rw [b4]; exact c1, big2, by show n.done ≤ n1.done + 1; omega, .inr (by show n1.done + 1 ≤ n.many; omega), by rw [a9, hrun]; rfl, A0, .inl ⟨he, rfl, rfl⟩, rfl⟩
        · exact ⟨n.many - (n1.done + 1), by omega, .ref t, rfl, g2, n1.did g1.m, H0, b1.trans a1, hlen2, a3, a4, by rw [b4]; exact c1, big2, by show n.done ≤ n1.done + 1; omega, .inr (by show n1.done + 1 ≤ n.many; omega), by rw [a9, hrun]; rfl, A0, .inr ⟨xs, t, he, ht, rfl, rfl⟩, rfl⟩
      · refine ans_isN (b := false) (x := .ref t) (val_var rfl) (decide_eq_false (by simp)) _ (iteF ?_)
        refine st_ret (val_var rfl) ?_
        have hr1 : goRun e ss (n.many - n1.done) g1.m n1 = (g1.m, n1) := by
          cases n.many - n1.done with
          | zero => rfl
          | succ k =>
            unfold goRun
            rw [hx]
        refine q g1 n1 xs t H2 a1 (by rw [a9, hr1]) hx a5 ?_ a10 ht
        have hle : B + (n1.done - n.done) ≤ B + (n.many - n.done) := by omega
        exact ⟨fun fs hfs f hf => Nat.le_trans (a6.1 fs hfs f hf) hle, Nat.le_trans a6.2 hle⟩
  have base0 : B + (n.done - n.done) = B := by omega
  refine ⟨fun he => ?_, fun xs t he ht => ?_⟩
  · exact main .non H0 ⟨g, n, H0, rfl, rfl, rfl, rfl, mok, by rw [base0]; exact big, Nat.le_refl _, .inl (Nat.le_refl _), rfl, A0, .inl ⟨he, rfl, rfl⟩⟩
  · exact main (.ref t) (upd H0 t (.tup xs)) ⟨g, n, H0, rfl, rfl, rfl, rfl, mok, by rw [base0]; exact big, Nat.le_refl _, .inl (Nat.le_refl _), rfl, A0, .inr ⟨xs, t, he, ht, rfl, rfl⟩⟩
end
end S
set_option Elab.async false
set_option linter.all false
set_option maxRecDepth 100000
set_option maxHeartbeats 1000000
namespace S
open PySem PySem.Spec PyProof.Rows L2
structure GW where
  a : Addr
  dx : Addr
  pa : Addr
  sd : Addr
  n : Nat
  ss : List GS
  g : GM
def watO (K : PySem.W.Frag) (w : GW) : HO := .ins (He.ga K "Watched") w.dx [("machine", .ref w.g.a), ("program", .ref w.pa), ("stops", .ref w.sd), ("next_stop", .int (w.n : Nat))]
def GW.reg (K : PySem.W.Frag) (w : GW) : Reg := (w.a, watO K w) :: (w.sd, .dK (stK w.ss)) :: (stR K w.ss ++ w.g.reg K)
structure WOk (K : PySem.W.Frag) (F G : Hp) (da : Nat → Addr) (P : Prog) (w : GW) : Prop where
  sub : Same G F
  env : EnvAt K G da P.env w.g.na w.g.lo
  wf : w.g.Wf K G da
  prog : ProgAt K F w.pa P
  ok : P.Ok
  mok : w.g.m.Ok P.env
  nh : w.g.gs.length = P.hands.length
  wish : ∀ s ∈ w.ss, WishAt K F s.wv s.s.wish
  wok : ∀ s ∈ w.ss, ∀ i, P.env.tbl[s.s.place]? = some i → ∀ q ∈ s.s.wish, P.env.part i.fn q
  ns : ∀ s ∈ w.ss, s.n < w.n
  many : w.ss.length ≤ 20
theorem WOk.base {K : PySem.W.Frag} {F F' G : Hp} {da : Nat → Addr} {P : Prog} {w : GW} (h : WOk K F G da P w) (e : Same F F') : WOk K F' G da P w :=
  ⟨h.sub.trans e, h.env, h.wf, h.prog.mono e, h.ok, h.mok, h.nh, fun s hs => by
    have := h.wish s hs
    cases ew : s.s.wish with
    | none =>
      rw [ew] at this
      exact this
    | some pw =>
      rw [ew] at this
      obtain ⟨wa, e1, e2⟩ := this
      exact ⟨wa, e1, e2.mono e⟩, h.wok, h.ns, h.many⟩
def Frm.place (e : Env) (f : Frm) : Nat := match f.deed e.tbl with
  | some (p, _) => p
  | none => 0
def stackM (e : Env) (m : Mch) (k : Nat) : List (Nat × Int) := (m.stk k).map fun f => (f.fn, ((f.place e : Nat) : Int))
def sp_Watched_init (K : PySem.W.Frag) : Sp := fun vs H Q _ => ∃ (F : Hp) (x dx a : Addr) (P : Prog) (rr : Reg), vs = [.ref x, .ref a] ∧ Sat F ((x, .ins (He.ga K "Watched") dx []) :: rr) H ∧ ProgAt K F a P ∧ P.Ok ∧
  ∀ (F' G : Hp) (da : Nat → Addr) (w : GW) (H' : Hp), Same F F' → w.a = x → w.ss = [] → w.n = 0 → w.g.m = P.start → WOk K F' G da P w → Sat F' (w.reg K ++ rr) H' → Q .non H'
def sp_Watched__check_hand (K : PySem.W.Frag) : Sp := fun vs H Q _ => ∃ (F : Hp) (w : GW) (k : Nat), vs = [.ref w.a, .int (k : Nat)] ∧ Sat F (w.reg K) H ∧ k < w.g.gs.length ∧ Q .non H
def sp_Watched_is_over (K : PySem.W.Frag) : Sp := fun vs H Q _ => ∃ (F G : Hp) (da : Nat → Addr) (P : Prog) (w : GW), vs = [.ref w.a] ∧ WOk K F G da P w ∧ Sat F (w.reg K) H ∧ Q (.bl w.g.m.next.isNone) H
def sp_Watched_stop (K : PySem.W.Frag) : Sp := fun vs H Q _ => ∃ (F G : Hp) (da : Nat → Addr) (P : Prog) (w : GW) (s : Stp) (wv : V) (i : DInfo), vs = [.ref w.a, .int (s.place : Nat), optI s.hand, wv] ∧ WOk K F G da P w ∧ Sat F (w.reg K) H ∧
  P.env.tbl[s.place]? = some i ∧ (∀ k ∈ s.hand, k < P.hands.length) ∧ WishAt K F wv s.wish ∧ (∀ q ∈ s.wish, P.env.part i.fn q) ∧ w.ss.length < 20 ∧
  ∀ (w' : GW) (H' : Hp) (x dx : Addr), w'.a = w.a → w'.pa = w.pa → w'.g = w.g → w'.n = w.n + 1 → w'.ss = w.ss ++ [⟨w.n, x, dx, wv, s⟩] → WOk K F G da P w' → Sat F (w'.reg K) H' → Q (.int (w.n : Nat)) H'
def sp_Watched_begin_go (K : PySem.W.Frag) : Sp := fun vs H Q _ => ∃ (F G : Hp) (da : Nat → Addr) (P : Prog) (w : GW) (n : Nat), vs = [.ref w.a, .int (n : Nat)] ∧ WOk K F G da P w ∧ Sat F (w.reg K) H ∧ n ≤ 2000 ∧ w.g.m.next ≠ none ∧
  ∀ (x dx : Addr) (H' : Hp), Sat F ((x, goO K dx w.g.a w.sd (Gn.new w.g.m none none n)) :: w.reg K) H' → Q (.ref x) H'
def sp_Watched_begin_step (K : PySem.W.Frag) : Sp := fun vs H Q _ => ∃ (F G : Hp) (da : Nat → Addr) (P : Prog) (w : GW) (k : Nat) (y : Way) (n : Nat), vs = [.ref w.a, .int (k : Nat), .str y.str, .int (n : Nat)] ∧ WOk K F G da P w ∧ Sat F (w.reg K) H ∧ n ≤ 2000 ∧ k < P.hands.length ∧ w.g.m.stk k ≠ [] ∧
  ∀ (x dx : Addr) (H' : Hp), Sat F ((x, goO K dx w.g.a w.sd (Gn.new w.g.m (some k) (some y) n)) :: w.reg K) H' → Q (.ref x) H'
def EndedAt (K : PySem.W.Frag) (F G : Hp) (da : Nat → Addr) (P : Prog) (w : GW) (n0 : Gn) (B : Nat) (Q : VK) : Prop := ∀ (w' : GW) (n' : Gn) (xs : List V) (t : Addr) (H0 : Hp), w'.a = w.a → w'.pa = w.pa → w'.n = w.n → w'.ss = w.ss →
  goRun P.env w.ss (n0.many - n0.done) w.g.m n0 = (w'.g.m, n') → endV P.env w'.g.m w.ss n' = some xs → w'.g.m.Big (B + (n0.many - n0.done)) → WOk K F G da P w' → Sat F (w'.reg K) H0 → H0 t = none → Q (.ref t) (upd H0 t (.tup xs))
def sp_Watched_go (K : PySem.W.Frag) : Sp := fun vs H Q _ => ∃ (F G : Hp) (da : Nat → Addr) (P : Prog) (w : GW) (n B : Nat), vs = [.ref w.a, .int (n : Nat)] ∧ WOk K F G da P w ∧ Sat F (w.reg K) H ∧ n ≤ 2000 ∧ w.g.m.next ≠ none ∧ w.g.m.Big B ∧ B + n ≤ 15000000 ∧
  EndedAt K F G da P w (Gn.new w.g.m none none n) B Q
def sp_Watched_step (K : PySem.W.Frag) : Sp := fun vs H Q _ => ∃ (F G : Hp) (da : Nat → Addr) (P : Prog) (w : GW) (k : Nat) (y : Way) (n B : Nat), vs = [.ref w.a, .int (k : Nat), .str y.str, .int (n : Nat)] ∧ WOk K F G da P w ∧ Sat F (w.reg K) H ∧ n ≤ 2000 ∧ k < P.hands.length ∧ w.g.m.stk k ≠ [] ∧ w.g.m.Big B ∧ B + n ≤ 15000000 ∧
  EndedAt K F G da P w (Gn.new w.g.m (some k) (some y) n) B Q
def sp_Watched_stack (K : PySem.W.Frag) : Sp := fun vs H Q _ => ∃ (F G : Hp) (da : Nat → Addr) (P : Prog) (w : GW) (k : Nat), vs = [.ref w.a, .int (k : Nat)] ∧ WOk K F G da P w ∧ Sat F (w.reg K) H ∧ k < P.hands.length ∧
  ∀ (l : Addr) (ts : List Addr) (H' : Hp), ts.length = (stackM P.env w.g.m k).length → Sat F ((l, .lst (ts.map V.ref)) :: (saidR ts (stackM P.env w.g.m k) ++ w.reg K)) H' → Q (.ref l) H'
def sp_Watched__frame (K : PySem.W.Frag) : Sp := fun vs H Q _ => ∃ (F : Hp) (w : GW) (k d : Nat) (h : GH) (f : GF), vs = [.ref w.a, .int (k : Nat), .int (d : Nat)] ∧ Sat F (w.reg K) H ∧ w.g.gs[k]? = some h ∧ h.fs[d]? = some f ∧ Q (.ref f.a) H
def sp_Watched_look (K : PySem.W.Frag) : Sp := fun vs H Q _ => ∃ (F : Hp) (w : GW) (k d : Nat) (f : Frm), vs = [.ref w.a, .int (k : Nat), .int (d : Nat)] ∧ Sat F (w.reg K) H ∧ (w.g.m.stk k)[d]? = some f ∧
  ∀ (l : Addr) (H' : Hp), Sat F ((l, .lst (f.names.map V.int)) :: w.reg K) H' → Q (.ref l) H'
def sp_Watched_cells (K : PySem.W.Frag) : Sp := fun vs H Q _ => ∃ (F : Hp) (w : GW), vs = [.ref w.a] ∧ Sat F (w.reg K) H ∧ ∀ (l : Addr) (H' : Hp), Sat F ((l, .lst (w.g.held.map V.int)) :: w.reg K) H' → Q (.ref l) H'
def sp_Watched_said (K : PySem.W.Frag) : Sp := fun vs H Q _ => ∃ (F : Hp) (w : GW), vs = [.ref w.a] ∧ Sat F (w.reg K) H ∧ ∀ (l : Addr) (H' : Hp), Sat F ((l, .lst (w.g.ts.map V.ref)) :: w.reg K) H' → Q (.ref l) H'
end S
set_option Elab.async false
set_option linter.all false
set_option maxRecDepth 100000
namespace S
open PySem PySem.Spec PyProof.Rows L2
def n_Watched_init : List Str := ["self", "program"]
def t_Watched_init (K : PySem.W.Frag) : TS :=
    (tSeq (sFld K (tVar 0) (tMake (He.ga K "Machine") (sp_Machine_init K) [] E0 (tCons (tVar 1) tNil)) "machine")
    (tSeq (sFld K (tVar 0) (tVar 1) "program")
    (tSeq (sFld K (tVar 0) tDNewK "stops")
    (sFld K (tVar 0) (tC (.int 0)) "next_stop"))))
def n_Watched__check_hand : List Str := ["self", "hand"]
def t_Watched__check_hand (K : PySem.W.Frag) : TS :=
    (tIfS (tNot (tTest (tChain (rI0 fun i j => .bl (decide (i ≤ j))) (rI0 fun i j => .bl (decide (i < j))) (tC (.int 0)) (tVar 1) (tCB (Evl.rLenS K) (tCons (tFld K (tFld K (tVar 0) "machine") "hands") tNil)))))
      tNever
      tNext)
def n_Watched_is_over : List Str := ["self"]
def t_Watched_is_over (K : PySem.W.Frag) : TS :=
    (tRet (tMeth (He.ga K "Machine") "all_ended" (sp_Machine_all_ended K) [] E0 (tFld K (tVar 0) "machine") tNil))
def n_Watched_stop : List Str := ["self", "place", "hand", "wish", "deeds", "number"]
def t_Watched_stop (K : PySem.W.Frag) : TS :=
    (tSeq (tAsg (tFld K (tFld K (tFld K (tVar 0) "machine") "layout") "deeds") (gName 4))
    (tSeq (tIfS (tNot (tTest (tChain (rI0 fun i j => .bl (decide (i ≤ j))) (rI0 fun i j => .bl (decide (i < j))) (tC (.int 0)) (tVar 1) (tCB (Evl.rLenS K) (tCons (tVar 4) tNil)))))
      tNever
      tNext)
    (tSeq (tIfS (tTest (tOp rNotN (tVar 2) (tC .non)))
      (tDrop (tMeth (He.ga K "Watched") "_check_hand" (sp_Watched__check_hand K) [] E0 (tVar 0) (tCons (tVar 2) tNil)))
      tNext)
    (tSeq (tIfS (tAnd (tTest (tOp rNotN (tVar 3) (tC .non))) (tNot (tB (tCall (sp_is_part K) [] E0 (tCons (tVar 3) (tCons (tMake (He.ga K "Scope") (sp_Scope_init K) [] E0 (tCons (tFld K (tVar 0) "program") (tCons (tFld K (tOp (rIxL K) (tVar 4) (tVar 1)) "fun") tNil))) tNil))))))
      tNever
      tNext)
    (tSeq (tIfS (tTest (tOp (rI0 fun i j => .bl (decide (j ≤ i))) (tCB rLenDct (tCons (tFld K (tVar 0) "stops") tNil)) (tC (.int 20))))
      tNever
      tNext)
    (tSeq (tAsg (tFld K (tVar 0) "next_stop") (gName 5))
    (tSeq (sDPut (tFld K (tVar 0) "stops") (tVar 5) (tMake (He.ga K "Stop") (sp_Stop_init K) [] E0 (tCons (tVar 1) (tCons (tVar 2) (tCons (tVar 3) tNil)))))
    (tSeq (sFldAug K (tVar 0) (tC (.int 1)) rAdd "next_stop")
    (tRet (tVar 5))))))))))
def n_Watched_begin_go : List Str := ["self", "many"]
def t_Watched_begin_go (K : PySem.W.Frag) : TS :=
    (tSeq (tDrop (tCall (sp_check_count K) [] E0 (tCons (tVar 1) tNil)))
    (tSeq (tIfS (tB (tMeth (He.ga K "Watched") "is_over" (sp_Watched_is_over K) [] E0 (tVar 0) tNil))
      tNever
      tNext)
    (tRet (tMake (He.ga K "Going") (sp_Going_init K) [] E0 (tCons (tFld K (tVar 0) "machine") (tCons (tFld K (tVar 0) "stops") (tCons (tC .non) (tCons (tC .non) (tCons (tVar 1) tNil)))))))))
def n_Watched_begin_step : List Str := ["self", "hand", "way", "many"]
def t_Watched_begin_step (K : PySem.W.Frag) : TS :=
    (tSeq (tDrop (tMeth (He.ga K "Watched") "_check_hand" (sp_Watched__check_hand K) [] E0 (tVar 0) (tCons (tVar 1) tNil)))
    (tSeq (tIfS (tTest (tOp (rIn K true) (tVar 2) (tTup (tCons (tC (.str "in")) (tCons (tC (.str "over")) (tCons (tC (.str "out")) tNil))))))
      tNever
      tNext)
    (tSeq (tDrop (tCall (sp_check_count K) [] E0 (tCons (tVar 3) tNil)))
    (tSeq (tIfS (tNot (tTru K (tFld K (tOp (rIxL K) (tFld K (tFld K (tVar 0) "machine") "hands") (tVar 1)) "frames")))
      tNever
      tNext)
    (tRet (tMake (He.ga K "Going") (sp_Going_init K) [] E0 (tCons (tFld K (tVar 0) "machine") (tCons (tFld K (tVar 0) "stops") (tCons (tVar 1) (tCons (tVar 2) (tCons (tVar 3) tNil)))))))))))
def n_Watched_go : List Str := ["self", "many"]
def t_Watched_go (K : PySem.W.Frag) : TS :=
    (tRet (tMeth (He.ga K "Going") "finish" (sp_Going_finish K) [] E0 (tMeth (He.ga K "Watched") "begin_go" (sp_Watched_begin_go K) [] E0 (tVar 0) (tCons (tVar 1) tNil)) tNil))
def n_Watched_step : List Str := ["self", "hand", "way", "many"]
def t_Watched_step (K : PySem.W.Frag) : TS :=
    (tRet (tMeth (He.ga K "Going") "finish" (sp_Going_finish K) [] E0 (tMeth (He.ga K "Watched") "begin_step" (sp_Watched_begin_step K) [] E0 (tVar 0) (tCons (tVar 1) (tCons (tVar 2) (tCons (tVar 3) tNil)))) tNil))
def n_Watched_stack : List Str := ["self", "hand", "frames", "frame"]
def t_Watched_stack (K : PySem.W.Frag) : TS :=
    (tSeq (tDrop (tMeth (He.ga K "Watched") "_check_hand" (sp_Watched__check_hand K) [] E0 (tVar 0) (tCons (tVar 1) tNil)))
    (tSeq (tAsg (tFld K (tOp (rIxL K) (tFld K (tFld K (tVar 0) "machine") "hands") (tVar 1)) "frames") (gName 2))
    (tRet (tLc (iRev K (tCons (tVar 2) tNil)) (gName 3) tYes (tTup (tCons (tFld K (tVar 3) "fun") (tCons (tFld K (tMeth (He.ga K "Frame") "deed" (sp_Frame_deed K) [] E0 (tVar 3) tNil) "place") tNil))) [3]))))
def n_Watched__frame : List Str := ["self", "hand", "deep", "frames"]
def t_Watched__frame (K : PySem.W.Frag) : TS :=
    (tSeq (tDrop (tMeth (He.ga K "Watched") "_check_hand" (sp_Watched__check_hand K) [] E0 (tVar 0) (tCons (tVar 1) tNil)))
    (tSeq (tAsg (tFld K (tOp (rIxL K) (tFld K (tFld K (tVar 0) "machine") "hands") (tVar 1)) "frames") (gName 3))
    (tSeq (tIfS (tNot (tTest (tChain (rI0 fun i j => .bl (decide (i ≤ j))) (rI0 fun i j => .bl (decide (i < j))) (tC (.int 0)) (tVar 2) (tCB (Evl.rLenS K) (tCons (tVar 3) tNil)))))
      tNever
      tNext)
    (tRet (tOp (rIxL K) (tVar 3) (tOp (rI0 fun i j => .int (i - j)) (tUn (rU fun i => .int (-i)) (tC (.int 1))) (tVar 2)))))))
def n_Watched_look : List Str := ["self", "hand", "deep"]
def t_Watched_look (K : PySem.W.Frag) : TS :=
    (tRet (tCB (Evl.rListS K) (tCons (tFld K (tMeth (He.ga K "Watched") "_frame" (sp_Watched__frame K) [] E0 (tVar 0) (tCons (tVar 1) (tCons (tVar 2) tNil))) "names") tNil)))
def n_Watched_cells : List Str := ["self"]
def t_Watched_cells (K : PySem.W.Frag) : TS :=
    (tRet (tCB (Evl.rListS K) (tCons (tFld K (tFld K (tVar 0) "machine") "held") tNil)))
def n_Watched_said : List Str := ["self"]
def t_Watched_said (K : PySem.W.Frag) : TS :=
    (tRet (tCB (Evl.rListS K) (tCons (tFld K (tFld K (tVar 0) "machine") "spoken") tNil)))
end S
set_option Elab.async false
set_option linter.all false
set_option maxRecDepth 100000
set_option maxHeartbeats 1000000
namespace S
open PySem PySem.Spec PyProof.Rows L2
def rInt1 : List V → Hp → VK → Prop := fun xs H Q => (∃ i, xs = [.int i] ∧ Q (.int i) H) ∨ ∃ k, xs = [.bl k] ∧ Q (.int (if k then 1 else 0)) H
def diceO (s : Addr) (at_ mix rest : Int) : HO := .lst [.ref s, .int at_, .int mix, .int rest]
structure DiceOk (at_ mix rest : Int) : Prop where
  a : 0 ≤ at_
  m : 0 ≤ mix ∧ mix < 2147483647
  r : 0 ≤ rest
def DiceAt (K : PySem.W.Frag) (F : Hp) (s : Addr) (xs : List Int) (d : Addr) (H : Hp) : Prop := ∃ (at_ mix rest : Int), SqL K F s (xs.map V.int) ∧ xs.length ≤ 64 ∧ DiceOk at_ mix rest ∧ Sat F [(d, diceO s at_ mix rest)] H
def sp__law_dice (K : PySem.W.Frag) : Sp := fun vs H Q _ => ∃ (F : Hp) (s : Addr) (xs : List Int), vs = [.ref s] ∧ Same F H ∧ SqL K F s (xs.map V.int) ∧ xs.length ≤ 64 ∧ ∀ d H', DiceAt K F s xs d H' → Q (.ref d) H'
def sp__law_next (K : PySem.W.Frag) : Sp := fun vs H Q _ => ∃ (F : Hp) (s : Addr) (xs : List Int) (d : Addr) (many : Int), vs = [.ref d, .int many] ∧ DiceAt K F s xs d H ∧ 0 < many ∧ many < 1073741824 ∧ ∀ (r : Int) H', 0 ≤ r → r < many → DiceAt K F s xs d H' → Q (.int r) H'
end S
set_option Elab.async false
set_option linter.all false
set_option maxRecDepth 100000
namespace S
open PySem PySem.Spec PyProof.Rows L2
def n__law_dice : List Str := ["_law_script", "_law_mixed", "_law_cell"]
def t__law_dice (K : PySem.W.Frag) : TS :=
    (tSeq (tAsg (tC (.int 0)) (gName 1))
    (tSeq (tFor (iList K (tVar 0)) (gName 2)
      (tAsg (tOp (rI (fun _ j => 0 < j) fun i j => .int (i % j)) (tOp (rI0 fun i j => .int (i + j)) (tOp (rI0 fun i j => .int (i + j)) (tOp (rI CMul fun i j => .int (i * j)) (tVar 1) (tC (.int 48271))) (tOp (rI CMul fun i j => .int (i * j)) (tOp (rI (fun _ j => 0 < j) fun i j => .int (i % j)) (tVar 2) (tC (.int 2147483647))) (tC (.int 69621)))) (tC (.int 11))) (tC (.int 2147483647))) (gName 1)))
    (tRet (tLst (tCons (tVar 0) (tCons (tC (.int 0)) (tCons (tOp (rI CMul fun i j => .int (i * j)) (tVar 1) (tCB rInt1 (tCons (tOp (rI0 fun i j => .bl (decide (j < i))) (tCB (Evl.rLenS K) (tCons (tVar 0) tNil)) (tC (.int 2))) tNil))) (tCons (tC (.int 0)) tNil))))))))
def n__law_next : List Str := ["_law_dice_here", "_law_many", "_law_found", "_law_cell"]
def t__law_next (K : PySem.W.Frag) : TS :=
    (tSeq (tIfS (tTest (tOp (rI0 fun i j => .bl (decide (j < i))) (tOp (rIxL K) (tVar 0) (tC (.int 3))) (tC (.int 0))))
      (tSeq (tAsg (tOp (rI (fun _ j => 0 < j) fun i j => .int (i % j)) (tOp (rIxL K) (tVar 0) (tC (.int 3))) (tVar 1)) (gName 2))
      (tSeq (tAsg (tOp (rI CDiv fun i j => .int (i / j)) (tOp (rIxL K) (tVar 0) (tC (.int 3))) (tVar 1)) (gSub (tVar 0) (tC (.int 3)) rSetL))
      (tRet (tVar 2))))
      tNext)
    (tSeq (tAsg (tOp (rI0 fun i j => .int (i + j)) (tOp (rIxL K) (tVar 0) (tC (.int 1))) (tC (.int 1))) (gSub (tVar 0) (tC (.int 1)) rSetL))
    (tSeq (tIfS (tTest (tOp (rI0 fun i j => .bl (decide (i ≤ j))) (tOp (rIxL K) (tVar 0) (tC (.int 1))) (tCB (Evl.rLenS K) (tCons (tOp (rIxL K) (tVar 0) (tC (.int 0))) tNil))))
      (tSeq (tAsg (tOp (rIxL K) (tOp (rIxL K) (tVar 0) (tC (.int 0))) (tOp (rI0 fun i j => .int (i - j)) (tOp (rIxL K) (tVar 0) (tC (.int 1))) (tC (.int 1)))) (gName 3))
      (tSeq (tAsg (tIf (tTest (tOp (rI0 fun i j => .bl (decide (j ≤ i))) (tVar 3) (tOp (rI CPow fun i j => .int (i ^ j.toNat)) (tC (.int 10)) (tC (.int 18))))) (tOp (rI CDiv fun i j => .int (i / j)) (tVar 3) (tVar 1)) (tC (.int 0))) (gSub (tVar 0) (tC (.int 3)) rSetL))
      (tRet (tOp (rI (fun _ j => 0 < j) fun i j => .int (i % j)) (tVar 3) (tVar 1)))))
      tNext)
    (tSeq (tAsg (tOp (rI (fun _ j => 0 < j) fun i j => .int (i % j)) (tOp (rI CMul fun i j => .int (i * j)) (tOp (rIxL K) (tVar 0) (tC (.int 2))) (tC (.int 48271))) (tC (.int 2147483647))) (gSub (tVar 0) (tC (.int 2)) rSetL))
    (tRet (tOp (rI (fun _ j => 0 < j) fun i j => .int (i % j)) (tOp (rI CDiv fun i j => .int (i / j)) (tOp (rIxL K) (tVar 0) (tC (.int 2))) (tC (.int 7))) (tVar 1)))))))
end S
set_option Elab.async false
set_option linter.all false
set_option maxRecDepth 100000
set_option maxHeartbeats 1000000
namespace S
open PySem PySem.Spec PyProof.Rows L2
section
variable {K : PySem.W.Frag}
theorem val_add {σ : L2.St} {H : Hp} {ta tb : TE} {i j : Int} (ha : Val ta σ H (.int i)) (hb : Val tb σ H (.int j)) : Val (tOp (rI0 fun i j => .int (i + j)) ta tb) σ H (.int (i + j)) := val_op ha hb fun Q q => ⟨_, _, rfl, rfl, q⟩
theorem val_sub {σ : L2.St} {H : Hp} {ta tb : TE} {i j : Int} (ha : Val ta σ H (.int i)) (hb : Val tb σ H (.int j)) : Val (tOp (rI0 fun i j => .int (i - j)) ta tb) σ H (.int (i - j)) := val_op ha hb fun Q q => ⟨_, _, rfl, rfl, q⟩
theorem val_mul {σ : L2.St} {H : Hp} {ta tb : TE} {i j : Int} (ha : Val ta σ H (.int i)) (hb : Val tb σ H (.int j)) (h : CMul i j) : Val (tOp (rI CMul fun i j => .int (i * j)) ta tb) σ H (.int (i * j)) := val_op ha hb fun Q q => ⟨_, _, rfl, rfl, h, q⟩
theorem val_mod {σ : L2.St} {H : Hp} {ta tb : TE} {i j : Int} (ha : Val ta σ H (.int i)) (hb : Val tb σ H (.int j)) (h : 0 < j) : Val (tOp (rI (fun _ j => 0 < j) fun i j => .int (i % j)) ta tb) σ H (.int (i % j)) := val_op ha hb fun Q q => ⟨_, _, rfl, rfl, h, q⟩
theorem val_div {σ : L2.St} {H : Hp} {ta tb : TE} {i j : Int} (ha : Val ta σ H (.int i)) (hb : Val tb σ H (.int j)) (h : CDiv i j) : Val (tOp (rI CDiv fun i j => .int (i / j)) ta tb) σ H (.int (i / j)) := val_op ha hb fun Q q => ⟨_, _, rfl, rfl, h, q⟩
theorem lst_I {σ : L2.St} {H : Hp} {Q : VK} {t : TA} (h : t σ H fun xs H1 => xs.length ≤ sizeLine ∧ ∀ p, H1 p = none → Q (.ref p) (upd H1 p (.lst xs))) : tLst t σ H Q := h
theorem tup_I {σ : L2.St} {H : Hp} {Q : VK} {t : TA} (h : t σ H fun xs H1 => xs.length ≤ sizeLine ∧ ∀ p, H1 p = none → Q (.ref p) (upd H1 p (.tup xs))) : tTup t σ H Q := h
theorem rd__law_dice (vs : List V) (H : Hp) (Q : VK) (E : XK) (h : sp__law_dice K vs H Q E) : t__law_dice K { nx := fun _ H' => Q .non H', rt := Q } (start n__law_dice vs) H := by
  obtain ⟨F, s, xs, rfl, sF, hs, hz, q⟩ := h
  refine sq_set val_c ?_
  refine ⟨_, rfl, s, rfl, ⟨_, sF.seq hs⟩, ?_⟩
  refine for_it (walk_list (K := K) (a := s) (xs := xs.map V.int)) (fun j σ H' => H' = H ∧ ∃ (mix : Int) (v : Option V), σ = [some (.ref s), some (.int mix), v] ∧ 0 ≤ mix ∧ mix < 2147483647) ⟨rfl, 0, none, rfl, by decide, by decide⟩ (fun j σ H' _ w => by rw [w.1]; exact sF.seq hs) ?_ ?_
  · rintro j v σ H1 H2 hj ⟨rfl, mix, v', rfl, m0, m1⟩ ⟨rfl, hv⟩
    rw [List.getElem?_map] at hv
    cases ec : xs[j]? with
    | none =>
      rw [ec] at hv
      cases hv
    | some c =>
    rw [ec] at hv
    have ev : V.int c = v := by simpa using hv
    subst ev
    have h0 : 0 ≤ c % 2147483647 := Int.emod_nonneg _ (by decide)
    have h1 : c % 2147483647 < 2147483647 := Int.emod_lt_of_pos _ (by decide)
    have ve := val_mod (val_add (val_add (val_mul (σ := [some (.ref s), some (.int mix), some (.int c)]) (H := H2) (ta := tVar 1) (val_var rfl) (val_c (v := .int 48271)) (.inr ⟨by decide, by decide⟩)) (val_mul (val_mod (ta := tVar 2) (val_var rfl) (val_c (v := .int 2147483647)) (by decide)) (val_c (v := .int 69621)) (.inr ⟨by decide, by decide⟩))) (val_c (v := .int 11))) (val_c (v := .int 2147483647)) (by decide)
    refine st_set ve ?_
    exact ⟨rfl, _, _, rfl, Int.emod_nonneg _ (by decide), Int.emod_lt_of_pos _ (by decide)⟩
  · rintro σ H1 ⟨rfl, mix, v', rfl, m0, m1⟩
    have vl := val_len (K := K) (σ := [some (.ref s), some (.int mix), v']) (H := H1) (ta := tVar 0) (val_var rfl) (sF.seq hs)
    rw [List.length_map] at vl
    have vb : Val (tCB rInt1 (tCons (tOp (rI0 fun i j => .bl (decide (j < i))) (tCB (Evl.rLenS K) (tCons (tVar 0) tNil)) (tC (.int 2))) tNil)) [some (.ref s), some (.int mix), v'] H1 (.int (if decide ((2 : Int) < (xs.length : Nat)) then 1 else 0)) := by
      intro Q q
      refine vl _ ?_
      exact ⟨_, _, rfl, rfl, .inr ⟨_, rfl, q⟩⟩
    have b0 : (0 : Int) ≤ (if decide ((2 : Int) < (xs.length : Nat)) then 1 else 0) ∧ (if decide ((2 : Int) < (xs.length : Nat)) then 1 else 0) ≤ (1 : Int) := by split <;> decide
    generalize (if decide ((2 : Int) < (xs.length : Nat)) then (1 : Int) else 0) = bb at vb b0
    have vm := val_mul (σ := [some (.ref s), some (.int mix), v']) (H := H1) (ta := tVar 1) (val_var rfl) vb (.inr ⟨by omega, by omega⟩)
    refine st_retI (lst_I (args_cons ((val_var rfl : Val (tVar 0) [some (.ref s), some (.int mix), v'] H1 (.ref s)) _ (args_cons (val_c _ (args_cons (vm _ (args_cons (val_c _ (args_nil ?_))))))))))
    refine ⟨(by show 4 ≤ sizeLine; decide), fun d hd => ?_⟩
    have s1 := (Sat.nil sF).new (o := diceO s 0 (mix * bb) 0) hd
    refine q d _ ⟨0, mix * bb, 0, hs, hz, ⟨by decide, ?_, by decide⟩, s1⟩
    rcases (by omega : bb = 0 ∨ bb = 1) with z | z
    · rw [z, Int.mul_zero]
      exact ⟨by decide, by decide⟩
    · rw [z, Int.mul_one]
      exact ⟨m0, m1⟩
theorem rd__law_next (vs : List V) (H : Hp) (Q : VK) (E : XK) (h : sp__law_next K vs H Q E) : t__law_next K { nx := fun _ H' => Q .non H', rt := Q } (start n__law_next vs) H := by
  obtain ⟨F, s, xs, d, many, rfl, ⟨at_, mix, rest, hs, hz, ok, w⟩, m0, m1, q⟩ := h
  have v0 : ∀ (H : Hp) (x y : Option V), Val (tVar 0) [some (.ref d), some (.int many), x, y] H (.ref d) := fun H x y => val_var rfl
  have v1 : ∀ (H : Hp) (x y : Option V), Val (tVar 1) [some (.ref d), some (.int many), x, y] H (.int many) := fun H x y => val_var rfl
  have g : ∀ {H : Hp} {a m r : Int} (x y : Option V) (i : Nat) (v : V), Sat F [(d, diceO s a m r)] H → ([.ref s, .int a, .int m, .int r] : List V)[i]? = some v → Val (tOp (rIxL K) (tVar 0) (tC (.int (i : Nat)))) [some (.ref d), some (.int many), x, y] H v :=
    fun x y i v w e => val_ixL (v0 _ x y) val_c (SqL.of (w.get List.mem_cons_self)) (atI_nat e)
  have put : ∀ {H : Hp} {a m r : Int} (x y : Option V) (i : Nat) (z a' m' r' : Int) (C : Hp → Prop), Sat F [(d, diceO s a m r)] H → ([.ref s, .int a, .int m, .int r] : List V).set i (.int z) = [.ref s, .int a', .int m', .int r'] → i < 4 →
      (∀ H', Sat F [(d, diceO s a' m' r')] H' → C H') → gSub (tVar 0) (tC (.int (i : Nat))) rSetL (.int z) [some (.ref d), some (.int many), x, y] H (fun _ H' => C H') := by
    intro H a m r x y i z a' m' r' C w e hi c
    refine ⟨_, rfl, d, _, i, i, rfl, rfl, w.get List.mem_cons_self, ixN_nat hi, ?_⟩
    rw [e]
    exact c _ (w.put (u := diceO s a' m' r'))
  have cd : ∀ i, CDiv i many := fun i => ⟨m0, m1⟩
  by_cases hr : 0 < rest
  · have t1 : Ans (tTest (tOp (rI0 fun i j => .bl (decide (j < i))) (tOp (rIxL K) (tVar 0) (tC (.int 3))) (tC (.int 0)))) [some (.ref d), some (.int many), none, none] H true := ans_gt (g none none 3 _ w rfl) (decide_eq_true hr)
    refine sq_yes t1 ?_
    refine sq_set (val_mod (g none none 3 _ w rfl) (v1 H none none) m0) ?_
    refine st_seq (st_asgI (val_div (g (some (.int (rest % many))) none 3 _ w rfl) (v1 H _ none) (cd _) _ ?_))
    refine put (some (.int (rest % many))) none 3 (rest / many) at_ mix (rest / many) _ w rfl (by decide) fun H' w' => ?_
    refine st_ret (val_var rfl) ?_
    exact q (rest % many) H' (Int.emod_nonneg _ (by omega)) (Int.emod_lt_of_pos _ m0) ⟨at_, mix, rest / many, hs, hz, ⟨ok.a, ok.m, Int.ediv_nonneg ok.r (by omega)⟩, w'⟩
  · have t1 : Ans (tTest (tOp (rI0 fun i j => .bl (decide (j < i))) (tOp (rIxL K) (tVar 0) (tC (.int 3))) (tC (.int 0)))) [some (.ref d), some (.int many), none, none] H false := ans_gt (g none none 3 _ w rfl) (decide_eq_false hr)
    refine sq_no t1 ?_
    refine st_seq (st_asgI (val_add (g none none 1 _ w rfl) (val_c (v := .int 1)) _ ?_))
    refine put none none 1 (at_ + 1) (at_ + 1) mix rest _ w rfl (by decide) fun H1 w1 => ?_
    have ok1 : DiceOk (at_ + 1) mix rest := ⟨by have := ok.a; omega, ok.m, ok.r⟩
    have vs0 := g none none 0 _ w1 rfl
    have hsH := w1.fr.seq hs
    have vl := val_len (K := K) vs0 hsH
    rw [List.length_map] at vl
    have an : ∀ b, decide (at_ + 1 ≤ ((xs.length : Nat) : Int)) = b → Ans (tTest (tOp (rI0 fun i j => .bl (decide (i ≤ j))) (tOp (rIxL K) (tVar 0) (tC (.int 1))) (tCB (Evl.rLenS K) (tCons (tOp (rIxL K) (tVar 0) (tC (.int 0))) tNil)))) [some (.ref d), some (.int many), none, none] H1 b :=
      fun b eb => ans_cmp (g none none 1 _ w1 rfl) vl fun Q q => ⟨_, _, rfl, rfl, by rw [← eb] at q; exact q⟩
    by_cases hle : at_ + 1 ≤ ((xs.length : Nat) : Int)
    · refine sq_yes (an true (decide_eq_true hle)) ?_
      have a0 := ok.a
      obtain ⟨k, hk⟩ : ∃ k : Nat, at_ = (k : Int) := ⟨at_.toNat, by omega⟩
      have hkl : k < xs.length := by omega
      have vi := val_sub (g none none 1 _ w1 rfl) (val_c (σ := [some (.ref d), some (.int many), none, none]) (H := H1) (v := .int 1))
      have ei : at_ + 1 - 1 = (k : Int) := by omega
      rw [ei] at vi
      have vc := val_ixL (K := K) vs0 vi hsH (atI_nat (j := k) (v := .int xs[k]) (by rw [List.getElem?_map, List.getElem?_eq_getElem hkl]; rfl))
      refine sq_set vc ?_
      have v3 : ∀ H, Val (tVar 3) [some (.ref d), some (.int many), none, some (.int xs[k])] H (.int xs[k]) := fun H => val_var rfl
      have vp : Val (tOp (rI CPow fun i j => .int (i ^ j.toNat)) (tC (.int 10)) (tC (.int 18))) [some (.ref d), some (.int many), none, some (.int xs[k])] H1 (.int (10 ^ 18)) := val_op val_c val_c fun Q q => ⟨10, 18, rfl, rfl, ⟨by decide, by decide, by decide⟩, q⟩
      have an2 : ∀ b, decide ((10 ^ 18 : Int) ≤ xs[k]) = b → Ans (tTest (tOp (rI0 fun i j => .bl (decide (j ≤ i))) (tVar 3) (tOp (rI CPow fun i j => .int (i ^ j.toNat)) (tC (.int 10)) (tC (.int 18))))) [some (.ref d), some (.int many), none, some (.int xs[k])] H1 b :=
        fun b eb => ans_cmp (v3 H1) vp fun Q q => ⟨_, _, rfl, rfl, by rw [← eb] at q; exact q⟩
      have vr : ∃ r : Int, 0 ≤ r ∧ Val (tIf (tTest (tOp (rI0 fun i j => .bl (decide (j ≤ i))) (tVar 3) (tOp (rI CPow fun i j => .int (i ^ j.toNat)) (tC (.int 10)) (tC (.int 18))))) (tOp (rI CDiv fun i j => .int (i / j)) (tVar 3) (tVar 1)) (tC (.int 0))) [some (.ref d), some (.int many), none, some (.int xs[k])] H1 (.int r) := by
        by_cases hb : (10 ^ 18 : Int) ≤ xs[k]
        · refine ⟨xs[k] / many, Int.ediv_nonneg (by omega) (by omega), fun Q q => an2 true (decide_eq_true hb) _ (iteT ?_)⟩
          exact val_div (v3 H1) (v1 H1 _ _) (cd _) _ q
        · exact ⟨0, Int.le_refl _, fun Q q => an2 false (decide_eq_false hb) _ (iteF q)⟩
      obtain ⟨r, r0, vr⟩ := vr
      refine st_seq (st_asgI (vr _ ?_))
      refine put none (some (.int xs[k])) 3 r (at_ + 1) mix r _ w1 rfl (by decide) fun H2 w2 => ?_
      refine st_ret (val_mod (v3 H2) (v1 H2 _ _) m0) ?_
      exact q _ H2 (Int.emod_nonneg _ (by omega)) (Int.emod_lt_of_pos _ m0) ⟨at_ + 1, mix, r, hs, hz, ⟨ok1.a, ok1.m, r0⟩, w2⟩
    · refine sq_no (an false (decide_eq_false hle)) ?_
      have vm := val_mod (val_mul (g none none 2 _ w1 rfl) (val_c (v := .int 48271)) (.inr ⟨by decide, by decide⟩)) (val_c (v := .int 2147483647)) (by decide)
      refine st_seq (st_asgI (vm _ ?_))
      have b0 : 0 ≤ mix * 48271 % 2147483647 := Int.emod_nonneg _ (by decide)
      have b1 : mix * 48271 % 2147483647 < 2147483647 := Int.emod_lt_of_pos _ (by decide)
      refine put none none 2 (mix * 48271 % 2147483647) (at_ + 1) (mix * 48271 % 2147483647) rest _ w1 rfl (by decide) fun H2 w2 => ?_
      have vd := val_div (g none none 2 _ w2 rfl) (val_c (σ := [some (.ref d), some (.int many), none, none]) (H := H2) (v := .int 7)) ⟨by decide, by decide⟩
      refine st_ret (val_mod vd (v1 H2 _ _) m0) ?_
      exact q _ H2 (Int.emod_nonneg _ (by omega)) (Int.emod_lt_of_pos _ m0) ⟨at_ + 1, _, rest, hs, hz, ⟨ok1.a, ⟨b0, b1⟩, ok1.r⟩, w2⟩
end
end S
set_option Elab.async false
set_option linter.all false
set_option maxRecDepth 100000
set_option maxHeartbeats 1000000
namespace S
open PySem PySem.Spec PyProof.Rows L2
section
variable {K : PySem.W.Frag}
theorem same_seqL {H H' : Hp} {a : Addr} {xs : List V} (e : Same H H') (h : SqL K H a xs) : SqL K H' a xs := by
  rcases h with (h | ⟨o, h⟩) | h
  · exact .inl (.inl (e _ _ h))
  · exact .inl (.inr ⟨o, e _ _ h⟩)
  · exact .inr h
theorem regW_self {w : GW} : (w.a, watO K w) ∈ w.reg K := List.mem_cons_self
theorem regW_m {w : GW} : ∀ x ∈ w.g.reg K, x ∈ w.reg K := fun x hx => List.mem_cons_of_mem _ (List.mem_cons_of_mem _ (List.mem_append_right _ hx))
theorem hand_deed {e : Env} {fs : List Frm} (h : HandOk e fs) : ∀ f ∈ fs, ∃ p i, f.deed e.tbl = some (p, i) := by
  intro f hf
  cases fs with
  | nil => cases hf
  | cons g gs =>
    rcases List.mem_cons.mp hf with z | z
    · subst z
      obtain ⟨p, i, h1, _⟩ := ready_deed (h.all f List.mem_cons_self) (h.top f rfl)
      exact ⟨p, i, h1⟩
    · obtain ⟨p, fn, g', ps, n, bo, h1, _⟩ := h.pend f z
      exact ⟨p, _, h1⟩
theorem val_hands {σ : L2.St} {H : Hp} {ta : TE} {F : Hp} {w : GW} (T : Fx K) (U : Gx K) (s : Sat F (w.reg K) H) (ha : Val ta σ H (.ref w.a)) : Val (tFld K (tFld K ta "machine") "hands") σ H (.ref w.g.ha) :=
  val_fld (val_fld ha (s.get regW_self) U.cls_Watched U.na_Watched_machine rfl) (s.get (regW_m _ regM_self)) T.cls_Machine T.na_Machine_hands rfl
theorem val_frames {σ : L2.St} {H : Hp} {ta tb : TE} {F : Hp} {w : GW} {k : Nat} {h : GH} (T : Fx K) (U : Gx K) (s : Sat F (w.reg K) H) (ha : Val ta σ H (.ref w.a)) (hb : Val tb σ H (.int (k : Nat))) (hh : w.g.gs[k]? = some h) :
    Val (tFld K (tOp (rIxL K) (tFld K (tFld K ta "machine") "hands") tb) "frames") σ H (V.ref h.fl) :=
  val_fld (val_ixL (K := K) (val_hands T U s ha) hb (SqL.of (s.get (regW_m _ regM_ha))) (atI_nat (j := k) (v := V.ref h.a) (by rw [List.getElem?_map, hh]; rfl))) (s.get (regW_m _ (regM_hand (List.mem_of_getElem? hh)))) T.cls_Hand T.na_Hand_frames rfl
theorem rd_Watched__check_hand (T : Fx K) (U : Gx K) (vs : List V) (H : Hp) (Q : VK) (E : XK) (h : sp_Watched__check_hand K vs H Q E) : t_Watched__check_hand K { nx := fun _ H' => Q .non H', rt := Q } (start n_Watched__check_hand vs) H := by
  obtain ⟨F, w, k, rfl, s, hk, q⟩ := h
  have v0 : Val (tVar 0) [some (.ref w.a), some (.int (k : Nat))] H (.ref w.a) := val_var rfl
  have vl := val_len (K := K) (val_hands T U s v0) (SqL.of (s.get (regW_m _ regM_ha)))
  rw [List.length_map] at vl
  have vc := val_chain (p1 := fun i j => decide (i ≤ j)) (p2 := fun i j => decide (i < j)) (val_c (v := .int 0)) (val_var rfl : Val (tVar 1) [some (.ref w.a), some (.int (k : Nat))] H (.int (k : Nat))) vl (decide_eq_true (by omega)) (decide_eq_true (by omega))
  exact st_no (ans_not (b := true) (fun Q q => vc _ ⟨true, rfl, q⟩)) q
theorem gs_many {e : Env} {g : GM} (mok : g.m.Ok e) : g.gs.length ≤ 1000 := by
  have h1 := mok.many
  have h2 : g.m.hands.length = g.gs.length := List.length_map ..
  omega
theorem Sat.mch {F G H : Hp} {da : Nat → Addr} {P : Prog} {w : GW} (s : Sat F (w.reg K) H) (o : WOk K F G da P w) : MchAt K (addR F ((w.a, watO K w) :: (w.sd, .dK (stK w.ss)) :: stR K w.ss)) G da P.env w.g H :=
  have s2 : Sat F (((w.a, watO K w) :: (w.sd, .dK (stK w.ss)) :: stR K w.ss) ++ w.g.reg K) H := s
  ⟨o.sub.trans (same_addR s2.init.off), o.env, o.wf, s2.focus⟩
theorem rd_Watched_is_over (T : Fx K) (U : Gx K) (vs : List V) (H : Hp) (Q : VK) (E : XK) (h : sp_Watched_is_over K vs H Q E) : t_Watched_is_over K { nx := fun _ H' => Q .non H', rt := Q } (start n_Watched_is_over vs) H := by
  obtain ⟨F, G, da, P, w, rfl, o, s, q⟩ := h
  have v0 : Val (tVar 0) [some (.ref w.a)] H (.ref w.a) := val_var rfl
  refine st_retI ?_
  exact val_fld v0 (s.get regW_self) U.cls_Watched U.na_Watched_machine rfl _ ⟨w.g.a, w.g.dx, _, rfl, s.get (regW_m _ regM_self), rfl, _, G, da, P.env, w.g, rfl, s.mch o, gs_many o.mok, q⟩
theorem rd_Watched_begin_go (T : Fx K) (U : Gx K) (vs : List V) (H : Hp) (Q : VK) (E : XK) (h : sp_Watched_begin_go K vs H Q E) : t_Watched_begin_go K { nx := fun _ H' => Q .non H', rt := Q } (start n_Watched_begin_go vs) H := by
  obtain ⟨F, G, da, P, w, n, rfl, o, s, hn, hnx, q⟩ := h
  have v0 : ∀ H, Val (tVar 0) [some (.ref w.a), some (.int (n : Nat))] H (.ref w.a) := fun H => val_var rfl
  refine sq_drop ⟨_, rfl, n, rfl, hn, ?_⟩
  have vo : Val (tMeth (He.ga K "Watched") "is_over" (sp_Watched_is_over K) [] E0 (tVar 0) tNil) [some (.ref w.a), some (.int (n : Nat))] H (.bl false) := by
    intro Q q
    refine v0 H _ ⟨w.a, w.dx, _, rfl, s.get regW_self, rfl, F, G, da, P, w, rfl, o, s, ?_⟩
    cases e : w.g.m.next with
    | none => exact absurd e hnx
    | some k => exact q
  refine sq_no (ans_val vo) (st_retI ?_)
  have vm := val_fld (v0 H) (s.get regW_self) U.cls_Watched U.na_Watched_machine rfl
  have vst := val_fld (v0 H) (s.get regW_self) U.cls_Watched U.na_Watched_stops rfl
  refine args_cons (vm _ (args_cons (vst _ (args_cons (val_c _ (args_cons (val_c _ (args_cons ((val_var rfl : Val (tVar 1) [some (.ref w.a), some (.int (n : Nat))] H (.int (n : Nat))) _ (args_nil ?_))))))))))
  intro x dx hx hdx ne
  have s1 := s.make (o := .ins (He.ga K "Going") dx []) (u := .own x) hx hdx ne
  generalize upd (upd H dx _) x _ = H1 at s1 ⊢
  have s2 : Sat F (((w.a, watO K w) :: (w.sd, .dK (stK w.ss)) :: stR K w.ss) ++ ((x, .ins (He.ga K "Going") dx []) :: w.g.reg K)) H1 := s1.perm (by unfold GW.reg; (refine perm_sum fun f => ?_; simp only [List.map_append, List.map_cons, List.map_nil, List.sum_append, List.sum_cons, List.sum_nil]; omega))
  refine ⟨_, G, da, P.env, x, dx, w.sd, w.g, none, none, n, rfl, o.sub.trans (same_addR s2.init.off), o.env, o.wf, s2.focus, (fun k hk => nomatch hk), fun H2 A => ⟨rfl, ?_⟩⟩
  exact q x dx H2 ((s2.unfocus A.sat).perm (by unfold GW.reg; (refine perm_sum fun f => ?_; simp only [List.map_append, List.map_cons, List.map_nil, List.sum_append, List.sum_cons, List.sum_nil]; omega)))
theorem rd_Watched_begin_step (T : Fx K) (U : Gx K) (vs : List V) (H : Hp) (Q : VK) (E : XK) (h : sp_Watched_begin_step K vs H Q E) : t_Watched_begin_step K { nx := fun _ H' => Q .non H', rt := Q } (start n_Watched_begin_step vs) H := by
  obtain ⟨F, G, da, P, w, k, y, n, rfl, o, s, hn, hk, hst, q⟩ := h
  have v0 : ∀ H, Val (tVar 0) [some (.ref w.a), some (.int (k : Nat)), some (.str y.str), some (.int (n : Nat))] H (.ref w.a) := fun H => val_var rfl
  have hkg : k < w.g.gs.length := by rw [o.nh]; exact hk
  obtain ⟨h, hh⟩ : ∃ h, w.g.gs[k]? = some h := ⟨w.g.gs[k], by simp [hkg]⟩
  refine sq_drop ?_
  refine v0 H _ ⟨w.a, w.dx, _, rfl, s.get regW_self, rfl, _, rfl, F, w, k, rfl, s, hkg, ?_⟩
  have tw : AnsH (tTest (tOp (rIn K true) (tVar 2) (tTup (tCons (tC (.str "in")) (tCons (tC (.str "over")) (tCons (tC (.str "out")) tNil)))))) [some (.ref w.a), some (.int (k : Nat)), some (.str y.str), some (.int (n : Nat))] H false (Same H) := by
    intro Q q
    refine ⟨_, rfl, tup_I' (args_cons (val_c _ (args_cons (val_c _ (args_cons (val_c _ (args_nil ⟨(by show 3 ≤ sizeLine; decide), fun t ht => ?_⟩)))))))⟩
    refine ⟨t, [.str "in", .str "over", .str "out"], rfl, .inr (SqT.of upd_same), by cases y <;> rfl, rfl, false, ?_, q _ (same_new ht)⟩
    cases y <;> decide +kernel
  refine st_seq (st_noH tw ?_)
  intro H1 e1
  have s1 := s.grow e1
  refine st_next ?_
  dsimp only
  refine sq_drop ⟨_, rfl, n, rfl, hn, ?_⟩
  have hmem := List.mem_of_getElem? hh
  have vf := val_frames T U s1 (v0 H1) (val_var rfl : Val (tVar 1) [some (.ref w.a), some (.int (k : Nat)), some (.str y.str), some (.int (n : Nat))] H1 (.int (k : Nat))) hh
  have hne : h.fs ≠ [] := by
    intro z
    refine hst ?_
    rw [stk_get hh]
    unfold GH.m
    rw [z]
    rfl
  refine sq_no (ans_not (b := true) (ans_lst vf (SqL.of (s1.get (regW_m _ (regM_fl hmem)))) (by cases ef : h.fs with | nil => exact absurd ef hne | cons a b => simp))) (st_retI ?_)
  have vm := val_fld (v0 H1) (s1.get regW_self) U.cls_Watched U.na_Watched_machine rfl
  have vst := val_fld (v0 H1) (s1.get regW_self) U.cls_Watched U.na_Watched_stops rfl
  refine args_cons (vm _ (args_cons (vst _ (args_cons ((val_var rfl : Val (tVar 1) [some (.ref w.a), some (.int (k : Nat)), some (.str y.str), some (.int (n : Nat))] H1 (.int (k : Nat))) _ (args_cons ((val_var rfl : Val (tVar 2) [some (.ref w.a), some (.int (k : Nat)), some (.str y.str), some (.int (n : Nat))] H1 (.str y.str)) _ (args_cons ((val_var rfl : Val (tVar 3) [some (.ref w.a), some (.int (k : Nat)), some (.str y.str), some (.int (n : Nat))] H1 (.int (n : Nat))) _ (args_nil ?_))))))))))
  intro x dx hx hdx ne
  have s2 := s1.make (o := .ins (He.ga K "Going") dx []) (u := .own x) hx hdx ne
  generalize upd (upd H1 dx _) x _ = H2 at s2 ⊢
  have s3 : Sat F (((w.a, watO K w) :: (w.sd, .dK (stK w.ss)) :: stR K w.ss) ++ ((x, .ins (He.ga K "Going") dx []) :: w.g.reg K)) H2 := s2.perm (by unfold GW.reg; (refine perm_sum fun f => ?_; simp only [List.map_append, List.map_cons, List.map_nil, List.sum_append, List.sum_cons, List.sum_nil]; omega))
  refine ⟨_, G, da, P.env, x, dx, w.sd, w.g, some k, some y, n, rfl, o.sub.trans (same_addR s3.init.off), o.env, o.wf, s3.focus, (fun k' hk' => by cases hk'; exact hkg), fun H3 A => ⟨rfl, ?_⟩⟩
  exact q x dx H3 ((s3.unfocus A.sat).perm (by unfold GW.reg; (refine perm_sum fun f => ?_; simp only [List.map_append, List.map_cons, List.map_nil, List.sum_append, List.sum_cons, List.sum_nil]; omega)))
theorem goRun_hands {e : Env} {ss : List GS} : ∀ {k : Nat} {m m' : Mch} {n n' : Gn}, goRun e ss k m n = (m', n') → m'.hands.length = m.hands.length
  | 0, m, m', n, n', h => by
    unfold goRun at h
    cases h
    rfl
  | k + 1, m, m', n, n', h => by
    unfold goRun at h
    cases he : endV e m ss n with
    | none =>
      rw [he] at h
      rw [goRun_hands h, doNext_hands]
    | some v =>
      rw [he] at h
      cases h
      rfl
theorem finished {F G H : Hp} {da : Nat → Addr} {P : Prog} {w : GW} {x dx : Addr} {n : Gn} {B : Nat} {Q : VK} (o : WOk K F G da P w) (s : Sat F ((x, goO K dx w.g.a w.sd n) :: w.reg K) H) (big : w.g.m.Big B) (hB : B + (n.many - n.done) ≤ 15000000)
    (hh : ∀ j ∈ n.hand, j < P.hands.length) (q : EndedAt K F G da P w n B Q) : sp_Going_finish K [.ref x] H Q E0 := by
  have s1 : Sat F ([(w.a, watO K w)] ++ ((x, goO K dx w.g.a w.sd n) :: (w.sd, .dK (stK w.ss)) :: (stR K w.ss ++ w.g.reg K))) H := s.perm (by unfold GW.reg; (refine perm_sum fun f => ?_; simp only [List.map_append, List.map_cons, List.map_nil, List.sum_append, List.sum_cons, List.sum_nil]; omega))
  have sub := same_addR (F := F) s1.init.off
  have o2 := o.base sub
  refine ⟨_, G, da, P.env, x, dx, w.sd, n, w.ss, w.g, B, rfl, ⟨o2.sub, o.env, o.wf, o2.wish, s1.focus⟩, env_ok o.ok, o.mok, big, hB, o.many, fun j hj => by rw [o.nh]; exact hh j hj, o.wok, ?_⟩
  intro g' n' xs t H0 ea er ee mok' big' A ht
  have s2 := s1.unfocus A.sat
  have s3 : Sat F ([(x, goO K dx g'.a w.sd n')] ++ ((w.a, watO K w) :: (w.sd, .dK (stK w.ss)) :: (stR K w.ss ++ g'.reg K))) H0 := s2.perm (by (refine perm_sum fun f => ?_; simp only [List.map_append, List.map_cons, List.map_nil, List.sum_append, List.sum_cons, List.sum_nil]; omega))
  have s4 := s3.tail
  have ew : watO K w = watO K { w with g := g' } := by
    unfold watO
    dsimp only
    rw [ea]
  rw [ew] at s4
  refine q { w with g := g' } n' xs t H0 rfl rfl rfl rfl er ee big' ⟨o.sub, A.env, A.wf, o.prog, o.ok, mok', ?_, o.wish, o.wok, o.ns, o.many⟩ s4 ht
  show g'.gs.length = _
  have h1 : g'.m.hands.length = g'.gs.length := List.length_map ..
  have h2 : w.g.m.hands.length = w.g.gs.length := List.length_map ..
  rw [← o.nh, ← h1, ← h2]
  exact goRun_hands er
theorem rd_Watched_go (T : Fx K) (U : Gx K) (vs : List V) (H : Hp) (Q : VK) (E : XK) (h : sp_Watched_go K vs H Q E) : t_Watched_go K { nx := fun _ H' => Q .non H', rt := Q } (start n_Watched_go vs) H := by
  obtain ⟨F, G, da, P, w, n, B, rfl, o, s, hn, hnx, big, hB, q⟩ := h
  refine st_retI ⟨_, rfl, w.a, w.dx, _, rfl, s.get regW_self, rfl, _, rfl, F, G, da, P, w, n, rfl, o, s, hn, hnx, fun x dx H1 s1 => ?_⟩
  refine ⟨x, dx, _, rfl, s1.get List.mem_cons_self, rfl, ?_⟩
  exact finished o s1 big hB (fun j hj => nomatch hj) q
theorem rd_Watched_step (T : Fx K) (U : Gx K) (vs : List V) (H : Hp) (Q : VK) (E : XK) (h : sp_Watched_step K vs H Q E) : t_Watched_step K { nx := fun _ H' => Q .non H', rt := Q } (start n_Watched_step vs) H := by
  obtain ⟨F, G, da, P, w, k, y, n, B, rfl, o, s, hn, hk, hst, big, hB, q⟩ := h
  refine st_retI ⟨_, rfl, w.a, w.dx, _, rfl, s.get regW_self, rfl, _, rfl, _, rfl, _, rfl, F, G, da, P, w, k, y, n, rfl, o, s, hn, hk, hst, fun x dx H1 s1 => ?_⟩
  refine ⟨x, dx, _, rfl, s1.get List.mem_cons_self, rfl, ?_⟩
  exact finished o s1 big hB (fun j hj => by cases hj; exact hk) q
theorem atI_neg {α : Type} {xs : List α} {j : Nat} {v : α} (h : xs.reverse[j]? = some v) : atI xs (-1 - (j : Int)) = some v := by
  have hj : j < xs.length := by
    have := (List.getElem?_eq_some_iff.mp h).1
    rwa [List.length_reverse] at this
  have e : ixN xs.length (-1 - (j : Int)) = some (xs.length - 1 - j) := by
    unfold ixN
    rw [if_neg (by omega), if_pos (by omega)]
    congr 1
    omega
  unfold atI
  rw [e]
  show xs[xs.length - 1 - j]? = some v
  rw [List.getElem?_reverse hj] at h
  exact h
theorem val_neg1 {σ : L2.St} {H : Hp} : Val (tUn (rU fun i => .int (-i)) (tC (.int 1))) σ H (.int (-1)) := fun Q q => ⟨1, rfl, q⟩
theorem rd_Watched__frame (T : Fx K) (U : Gx K) (vs : List V) (H : Hp) (Q : VK) (E : XK) (h : sp_Watched__frame K vs H Q E) : t_Watched__frame K { nx := fun _ H' => Q .non H', rt := Q } (start n_Watched__frame vs) H := by
  obtain ⟨F, w, k, d, h, f, rfl, s, hh, hf, q⟩ := h
  have hmem := List.mem_of_getElem? hh
  refine sq_drop ?_
  refine ⟨_, rfl, w.a, w.dx, _, rfl, s.get regW_self, rfl, _, rfl, F, w, k, rfl, s, (List.getElem?_eq_some_iff.mp hh).1, ?_⟩
  refine sq_set (val_frames T U s (val_var rfl : Val (tVar 0) [some (.ref w.a), some (.int (k : Nat)), some (.int (d : Nat)), none] H (.ref w.a)) (val_var rfl : Val (tVar 1) [some (.ref w.a), some (.int (k : Nat)), some (.int (d : Nat)), none] H (.int (k : Nat))) hh) ?_
  have hfl := SqL.of (K := K) (s.get (regW_m _ (regM_fl hmem)))
  have v3 : Val (tVar 3) [some (.ref w.a), some (.int (k : Nat)), some (.int (d : Nat)), some (.ref h.fl)] H (.ref h.fl) := val_var rfl
  have v2 : Val (tVar 2) [some (.ref w.a), some (.int (k : Nat)), some (.int (d : Nat)), some (.ref h.fl)] H (.int (d : Nat)) := val_var rfl
  have vl := val_len (K := K) v3 hfl
  rw [List.length_map, List.length_reverse, List.length_map] at vl
  have hd : d < h.fs.length := (List.getElem?_eq_some_iff.mp hf).1
  have vc := val_chain (p1 := fun i j => decide (i ≤ j)) (p2 := fun i j => decide (i < j)) (val_c (v := .int 0)) v2 vl (decide_eq_true (by omega)) (decide_eq_true (by omega))
  refine sq_no (ans_not (b := true) (fun Q q => vc _ ⟨true, rfl, q⟩)) ?_
  refine st_retI (val_ixL (K := K) v3 (val_sub val_neg1 v2) hfl (v := .ref f.a) (atI_neg ?_) _ q)
  rw [← List.map_reverse, List.reverse_reverse, List.map_map, List.getElem?_map, hf]
  rfl
theorem rd_Watched_look (T : Fx K) (U : Gx K) (vs : List V) (H : Hp) (Q : VK) (E : XK) (h : sp_Watched_look K vs H Q E) : t_Watched_look K { nx := fun _ H' => Q .non H', rt := Q } (start n_Watched_look vs) H := by
  obtain ⟨F, w, k, d, f, rfl, s, hf, q⟩ := h
  have hk : k < w.g.gs.length := by
    have h1 : w.g.m.hands.length = w.g.gs.length := List.length_map ..
    rw [← h1]
    refine stk_lt ?_
    intro z
    rw [z] at hf
    cases hf
  obtain ⟨h, hh⟩ : ∃ h, w.g.gs[k]? = some h := ⟨w.g.gs[k], by simp [hk]⟩
  have hmem := List.mem_of_getElem? hh
  rw [stk_get hh] at hf
  unfold GH.m at hf
  rw [List.getElem?_map] at hf
  cases eg : h.fs[d]? with
  | none =>
    rw [eg] at hf
    cases hf
  | some gf =>
  rw [eg] at hf
  have egf : gf.m = f := by simpa using hf
  have hreg : ∀ y ∈ gf.reg K, H y.1 = some y.2 := fun y hy => s.at_ y (regW_m _ (regM_f hmem (List.mem_of_getElem? eg) y hy))
  have hfa : H gf.a = some (frmO K gf) := hreg (gf.a, _) (List.mem_cons_of_mem _ List.mem_cons_self)
  have hfm : H gf.nm = some (.lst (gf.names.map V.int)) := hreg (gf.nm, _) (by simp [GF.reg])
  have vfr : Val (tMeth (He.ga K "Watched") "_frame" (sp_Watched__frame K) [] E0 (tVar 0) (tCons (tVar 1) (tCons (tVar 2) tNil))) [some (.ref w.a), some (.int (k : Nat)), some (.int (d : Nat))] H (.ref gf.a) := by
    intro Q q
    exact ⟨_, rfl, w.a, w.dx, _, rfl, s.get regW_self, rfl, _, rfl, _, rfl, F, w, k, d, h, gf, rfl, s, hh, eg, q⟩
  refine st_retI (args_cons (val_fld vfr hfa T.cls_Frame T.na_Frame_names rfl _ (args_nil ⟨gf.nm, _, rfl, .inl (SqL.of hfm), fun l hl => ?_⟩)))
  have en : gf.names = f.names := by rw [← egf]; rfl
  rw [en]
  exact q l _ (s.new hl)
theorem rd_Watched_cells (T : Fx K) (U : Gx K) (vs : List V) (H : Hp) (Q : VK) (E : XK) (h : sp_Watched_cells K vs H Q E) : t_Watched_cells K { nx := fun _ H' => Q .non H', rt := Q } (start n_Watched_cells vs) H := by
  obtain ⟨F, w, rfl, s, q⟩ := h
  have v0 : Val (tVar 0) [some (.ref w.a)] H (.ref w.a) := val_var rfl
  have v1 := val_fld (val_fld v0 (s.get regW_self) U.cls_Watched U.na_Watched_machine rfl) (s.get (regW_m _ regM_self)) T.cls_Machine T.na_Machine_held rfl
  have hhe : H w.g.he = some (.lst (w.g.held.map V.int)) := s.get (regW_m _ (List.mem_cons_of_mem _ List.mem_cons_self))
  exact st_retI (args_cons (v1 _ (args_nil ⟨w.g.he, _, rfl, .inl (SqL.of hhe), fun l hl => q l _ (s.new hl)⟩)))
theorem rd_Watched_said (T : Fx K) (U : Gx K) (vs : List V) (H : Hp) (Q : VK) (E : XK) (h : sp_Watched_said K vs H Q E) : t_Watched_said K { nx := fun _ H' => Q .non H', rt := Q } (start n_Watched_said vs) H := by
  obtain ⟨F, w, rfl, s, q⟩ := h
  have v0 : Val (tVar 0) [some (.ref w.a)] H (.ref w.a) := val_var rfl
  have v1 := val_fld (val_fld v0 (s.get regW_self) U.cls_Watched U.na_Watched_machine rfl) (s.get (regW_m _ regM_self)) T.cls_Machine T.na_Machine_spoken rfl
  have hsp : H w.g.sp = some (.lst (w.g.ts.map V.ref)) := s.get (regW_m _ (List.mem_cons_of_mem _ (List.mem_cons_of_mem _ List.mem_cons_self)))
  exact st_retI (args_cons (v1 _ (args_nil ⟨w.g.sp, _, rfl, .inl (SqL.of hsp), fun l hl => q l _ (s.new hl)⟩)))
theorem rd_Watched_init (T : Fx K) (U : Gx K) (vs : List V) (H : Hp) (Q : VK) (E : XK) (h : sp_Watched_init K vs H Q E) : t_Watched_init K { nx := fun _ H' => Q .non H', rt := Q } (start n_Watched_init vs) H := by
  obtain ⟨F, x, dx, a, P, rr, rfl, s0, hP, ok, q⟩ := h
  refine ⟨_, rfl, ?_⟩
  intro y dy hy hdy ne
  have s1 := s0.make (o := .ins (He.ga K "Machine") dy []) (u := .own y) hy hdy ne
  refine ⟨F, y, dy, a, P, _, rfl, s1, hP, ok, fun F' G da g H1 eF ea em sGF env wf s2 => ⟨rfl, ?_⟩⟩
  have s3 : Sat F' ((x, .ins (He.ga K "Watched") dx []) :: (g.reg K ++ rr)) H1 := s2.perm (by (refine perm_sum fun f => ?_; simp only [List.map_append, List.map_cons, List.map_nil, List.sum_append, List.sum_cons, List.sum_nil]; omega))
  refine ⟨_, rfl, x, _, dx, [], rfl, s3.get List.mem_cons_self, U.cls_Watched, U.na_Watched_machine, (by show 0 < 1000; decide), ?_⟩
  have s4 := s3.put (u := .ins (He.ga K "Watched") dx [("machine", .ref y)])
  refine ⟨_, rfl, _, rfl, x, _, dx, _, rfl, upd_same, U.cls_Watched, U.na_Watched_program, (by show 1 < 1000; decide), ?_⟩
  have s5 := s4.put (u := .ins (He.ga K "Watched") dx [("machine", .ref y), ("program", .ref a)])
  have e5 : (HO.ins (He.ga K "Watched") dx (putF "program" (.ref a) (putF "machine" (.ref y) []))) = .ins (He.ga K "Watched") dx [("machine", .ref y), ("program", .ref a)] := rfl
  have e4 : (HO.ins (He.ga K "Watched") dx (putF "machine" (.ref y) [])) = .ins (He.ga K "Watched") dx [("machine", .ref y)] := rfl
  rw [e5, e4]
  generalize upd (upd H1 x _) x _ = H2 at s5 ⊢
  intro sd hsd
  have s6 := (s5.new (o := .dK []) hsd).perm (List.Perm.swap _ _ _)
  refine ⟨_, rfl, x, _, dx, _, rfl, s6.get List.mem_cons_self, U.cls_Watched, U.na_Watched_stops, (by show 2 < 1000; decide), ?_⟩
  have s7 := s6.put (u := .ins (He.ga K "Watched") dx [("machine", .ref y), ("program", .ref a), ("stops", .ref sd)])
  have e7 : (HO.ins (He.ga K "Watched") dx (putF "stops" (.ref sd) [("machine", .ref y), ("program", .ref a)])) = .ins (He.ga K "Watched") dx [("machine", .ref y), ("program", .ref a), ("stops", .ref sd)] := rfl
  rw [e7]
  generalize upd (upd H2 sd _) x _ = H3 at s7 ⊢
  refine ⟨_, rfl, x, _, dx, _, rfl, s7.get List.mem_cons_self, U.cls_Watched, U.na_Watched_next_stop, (by show 3 < 1000; decide), ?_⟩
  have s8 := s7.put (u := watO K ⟨x, dx, a, sd, 0, [], g⟩)
  have e8 : (HO.ins (He.ga K "Watched") dx (putF "next_stop" (.int 0) [("machine", .ref y), ("program", .ref a), ("stops", .ref sd)])) = watO K ⟨x, dx, a, sd, 0, [], g⟩ := by
    unfold watO
    rw [ea]
    rfl
  rw [e8]
  obtain ⟨sok, _⟩ := start_ok ok
  refine q F' G da ⟨x, dx, a, sd, 0, [], g⟩ _ eF rfl rfl rfl em ⟨sGF, env, wf, hP.mono eF, ok, by show g.m.Ok P.env; rw [em]; exact sok, ?_, (fun s hs => nomatch hs), (fun s hs => nomatch hs), (fun s hs => nomatch hs), by show 0 ≤ 20; decide⟩ (s8.perm ?_)
  · have h1 : g.m.hands.length = g.gs.length := List.length_map ..
    show g.gs.length = _
    rw [← h1, em]
    exact List.length_map ..
  · show List.Perm _ (((x, watO K ⟨x, dx, a, sd, 0, [], g⟩) :: (sd, .dK []) :: g.reg K) ++ rr)
    (refine perm_sum fun f => ?_; simp only [List.map_append, List.map_cons, List.map_nil, List.sum_append, List.sum_cons, List.sum_nil]; omega)
theorem sq_if {c : TT} {t1 u : TS} {D : Ends} {σ : L2.St} {H : Hp} {b : Bool} (h : Ans c σ H b) (h1 : b = true → ∀ D' : Ends, D'.nx σ H → t1 D' σ H) (q : u D σ H) : tSeq (tIfS c t1 tNext) u D σ H := by
  cases b
  · exact sq_no h q
  · exact sq_yes h (h1 rfl _ q)
theorem putK_new {ss : List GS} {n : Nat} {v : V} (h : ∀ s ∈ ss, s.n < n) : putK (stK ss) (Sum.inl (n : Int)) v = stK ss ++ [(Sum.inl (n : Int), v)] := by
  unfold putK
  rw [if_neg]
  intro z
  obtain ⟨kv, h1, h2⟩ := List.any_eq_true.mp z
  obtain ⟨s, hs, rfl⟩ := List.mem_map.mp h1
  have e := of_decide_eq_true h2
  have := h s hs
  injection e with e
  omega
theorem dput_make {td ty : TE} {C : Addr} {sp : Sp} {t : TA} {D : Ends} {σ : L2.St} {H : Hp} (h : t σ H fun vs H1 => ∀ x dx, H1 x = none → H1 dx = none → dx ≠ x → sp (.ref x :: (vs ++ [])) (upd (upd H1 dx (.own x)) x (.ins C dx [])) (fun v H2 => v = .non ∧ td σ H2 fun x' H3 => ty σ H3 fun y H4 => ∃ a H5, x' = .ref a ∧ DPut H4 a y (.ref x) H5 ∧ D.nx σ H5) E0) : sDPut td ty (tMake C sp [] E0 t) D σ H := h
theorem rd_Watched_stop (T : Fx K) (U : Gx K) (vs : List V) (H : Hp) (Q : VK) (E : XK) (h : sp_Watched_stop K vs H Q E) : t_Watched_stop K { nx := fun _ H' => Q .non H', rt := Q } (start n_Watched_stop vs) H := by
  obtain ⟨F, G, da, P, w, s, wv, i, rfl, o, st, hi, hh, hwv, hwok, hlen, q⟩ := h
  have v0 : ∀ (H : Hp) (y z : Option V), Val (tVar 0) [some (.ref w.a), some (.int (s.place : Nat)), some (optI s.hand), some wv, y, z] H (.ref w.a) := fun H y z => val_var rfl
  obtain ⟨lx, dl, bl, ls, hlo, hdl, _⟩ := o.env.lo
  have sGH : Same G H := o.sub.trans st.fr
  have vdl := val_fld (val_fld (val_fld (v0 H none none) (st.get regW_self) U.cls_Watched U.na_Watched_machine rfl) (st.get (regW_m _ regM_self)) T.cls_Machine T.na_Machine_layout rfl) (sGH _ _ hlo) T.cls_Layout T.na_Layout_deeds rfl
  refine sq_set vdl ?_
  have hp : s.place < P.env.tbl.length := (List.getElem?_eq_some_iff.mp hi).1
  have hdlH : SqL K H dl ((List.range P.env.tbl.length).map fun p => V.ref (da p)) := same_seqL sGH hdl
  have v4 : ∀ H, Val (tVar 4) [some (.ref w.a), some (.int (s.place : Nat)), some (optI s.hand), some wv, some (.ref dl), none] H (.ref dl) := fun H => val_var rfl
  have v1 : ∀ H, Val (tVar 1) [some (.ref w.a), some (.int (s.place : Nat)), some (optI s.hand), some wv, some (.ref dl), none] H (.int (s.place : Nat)) := fun H => val_var rfl
  have v2 : ∀ H, Val (tVar 2) [some (.ref w.a), some (.int (s.place : Nat)), some (optI s.hand), some wv, some (.ref dl), none] H (optI s.hand) := fun H => val_var rfl
  have v3 : ∀ H, Val (tVar 3) [some (.ref w.a), some (.int (s.place : Nat)), some (optI s.hand), some wv, some (.ref dl), none] H wv := fun H => val_var rfl
  have vl := val_len (K := K) (v4 H) hdlH
  rw [List.length_map, List.length_range] at vl
  have vc := val_chain (p1 := fun i j => decide (i ≤ j)) (p2 := fun i j => decide (i < j)) (val_c (v := .int 0)) (v1 H) vl (decide_eq_true (by omega)) (decide_eq_true (by omega))
  refine sq_no (ans_not (b := true) (fun Q q => vc _ ⟨true, rfl, q⟩)) ?_
  refine sq_if (b := s.hand.isSome) (ans_notN (v2 H) (by cases s.hand <;> rfl)) (fun hs D' hD => ?_) ?_
  · cases eh : s.hand with
    | none =>
      rw [eh] at hs
      cases hs
    | some k =>
    refine st_dropI ⟨_, rfl, w.a, w.dx, _, rfl, st.get regW_self, rfl, _, rfl, F, w, k, ?_, st, by rw [o.nh]; exact hh k (by rw [eh]; rfl), ?_⟩
    · rfl
    · rw [eh] at hD
      exact hD
  have hda := o.env.tbl s.place i hi
  obtain ⟨ddx, tta, ba, hda, _⟩ := hda
  have hfn := ((env_ok o.ok).told s.place i hi).1
  have hfl : i.fn < P.funs.length := by
    have : P.env.nms.length = P.funs.length := List.length_map ..
    omega
  have hf : P.funs[i.fn]? = some P.funs[i.fn] := List.getElem?_eq_getElem hfl
  have tw : AnsH (tAnd (tTest (tOp rNotN (tVar 3) (tC .non))) (tNot (tB (tCall (sp_is_part K) [] E0 (tCons (tVar 3) (tCons (tMake (He.ga K "Scope") (sp_Scope_init K) [] E0 (tCons (tFld K (tVar 0) "program") (tCons (tFld K (tOp (rIxL K) (tVar 4) (tVar 1)) "fun") tNil))) tNil)))))) [some (.ref w.a), some (.int (s.place : Nat)), some (optI s.hand), some wv, some (.ref dl), none] H false (Same H) := by
    intro Q qq
    cases ew : s.wish with
    | none =>
      rw [ew] at hwv
      have : wv = .non := hwv
      subst this
      exact ans_and0 (ans_notN (v3 H) rfl) _ (qq H (Same.refl _))
    | some p =>
      rw [ew] at hwv
      obtain ⟨wa, rfl, hpa⟩ := hwv
      refine (ans_notN (v3 H) rfl : Ans _ _ H true) _ (iteT ?_)
      refine call_args (args_cons (v3 H _ (args_cons ?_)))
      have vpr := val_fld (v0 H (some (.ref dl)) none) (st.get regW_self) U.cls_Watched U.na_Watched_program rfl
      have vfn := val_fld (val_ixL (K := K) (v4 H) (v1 H) hdlH (v := V.ref (da s.place)) (atI_nat (j := s.place) (by rw [List.getElem?_map, List.getElem?_range hp]; rfl))) (sGH _ _ hda) T.cls_Deed T.na_Deed_fun rfl
      refine args_cons (vpr _ (args_cons (vfn _ (args_nil ?_))))
      intro x dx hx hdx ne
      have s1 := (Sat.nil (Same.refl H)).make (o := .ins (He.ga K "Scope") dx []) (u := .own x) hx hdx ne
      refine ⟨H, x, dx, w.pa, i.fn, P, _, rfl, s1, o.prog.mono st.fr, hf, by have := o.ok.funs.2; omega, fun l H2 s2 => ⟨rfl, args_nil ?_⟩⟩
      have hok := hwok p (by rw [ew]; rfl)
      have emany : P.env.many i.fn = P.funs[i.fn].names := by
        show ((P.funs.map Fn.names).getD i.fn 0) = _
        rw [List.getD_eq_getElem?_getD, List.getElem?_map, hf]
        rfl
      refine ⟨H2, wa, x, dx, l, p, P.cells.length, P.funs[i.fn].names, P.funs.map Fn.params, rfl, Same.refl _, hpa.mono (st.fr.trans s2.fr), s2.get List.mem_cons_self, ?_, ?_, hok.2, fun H3 e3 => ⟨true, rfl, qq _ (s2.fr.trans e3)⟩⟩
      · rw [List.map_map]
        exact SqL.of (s2.get (List.mem_cons_of_mem _ List.mem_cons_self))
      · rw [← emany]
        exact hok.1
  refine st_seq (st_noH tw ?_)
  intro H1 e1
  have st1 := st.grow e1
  refine st_next ?_
  dsimp only
  have vst : Val (tFld K (tVar 0) "stops") [some (.ref w.a), some (.int (s.place : Nat)), some (optI s.hand), some wv, some (.ref dl), none] H1 (.ref w.sd) := val_fld (v0 H1 (some (.ref dl)) none) (st1.get regW_self) U.cls_Watched U.na_Watched_stops rfl
  have hsd : H1 w.sd = some (.dK (stK w.ss)) := st1.get (List.mem_cons_of_mem _ List.mem_cons_self)
  have hkl : (stK w.ss).length = w.ss.length := List.length_map ..
  have vln : Val (tCB rLenDct (tCons (tFld K (tVar 0) "stops") tNil)) [some (.ref w.a), some (.int (s.place : Nat)), some (optI s.hand), some wv, some (.ref dl), none] H1 (.int (w.ss.length : Nat)) := by
    intro Q q
    refine args_cons (vst _ (args_nil ⟨w.sd, stK w.ss, rfl, hsd, ?_⟩))
    rw [hkl]
    exact q
  refine sq_no (ans_ge vln (decide_eq_false (by omega))) ?_
  have vns := val_fld (v0 H1 (some (.ref dl)) none) (st1.get regW_self) U.cls_Watched U.na_Watched_next_stop rfl
  refine sq_set vns ?_
  refine st_seq (dput_make ?_)
  refine args_cons ((val_var rfl : Val (tVar 1) [some (.ref w.a), some (.int (s.place : Nat)), some (optI s.hand), some wv, some (.ref dl), some (.int (w.n : Nat))] H1 (.int (s.place : Nat))) _ (args_cons ((val_var rfl : Val (tVar 2) [some (.ref w.a), some (.int (s.place : Nat)), some (optI s.hand), some wv, some (.ref dl), some (.int (w.n : Nat))] H1 (optI s.hand)) _ (args_cons ((val_var rfl : Val (tVar 3) [some (.ref w.a), some (.int (s.place : Nat)), some (optI s.hand), some wv, some (.ref dl), some (.int (w.n : Nat))] H1 wv) _ (args_nil ?_))))))
  intro x dx hx hdx ne
  have s2 := st1.make (o := .ins (He.ga K "Stop") dx []) (u := .own x) hx hdx ne
  generalize upd (upd H1 dx _) x _ = H2 at s2 ⊢
  have s3 : Sat F (w.reg K ++ [(x, .ins (He.ga K "Stop") dx [])]) H2 := s2.perm (by (refine perm_sum fun f => ?_; simp only [List.map_append, List.map_cons, List.map_nil, List.sum_append, List.sum_cons, List.sum_nil]; omega))
  refine ⟨_, x, dx, s, wv, rfl, s3.focus, fun H3 s4 => ⟨rfl, ?_⟩⟩
  have s5 := s3.unfocus s4
  have s6 : Sat F ((w.sd, .dK (stK w.ss)) :: (w.a, watO K w) :: (stR K w.ss ++ (w.g.reg K ++ [(x, stpO K dx s wv)]))) H3 := s5.perm (by unfold GW.reg; (refine perm_sum fun f => ?_; simp only [List.map_append, List.map_cons, List.map_nil, List.sum_append, List.sum_cons, List.sum_nil]; omega))
  have hsd3 : H3 w.sd = some (.dK (stK w.ss)) := s6.get List.mem_cons_self
  have ha3 : H3 w.a = some (watO K w) := s6.get (List.mem_cons_of_mem _ List.mem_cons_self)
  refine val_fld (v0 H3 (some (.ref dl)) (some (.int (w.n : Nat)))) ha3 U.cls_Watched U.na_Watched_stops rfl _ ?_
  refine ⟨_, rfl, w.sd, _, rfl, DPut.k (k := Sum.inl (w.n : Int)) hsd3 (Nat.lt_of_le_of_lt (by omega : _ ≤ 20) (by decide)), ?_⟩
  rw [putK_new o.ns]
  have s7 := (s6.put (u := .dK (stK w.ss ++ [(Sum.inl (w.n : Int), .ref x)]))).perm (List.Perm.swap _ _ _)
  generalize upd H3 w.sd _ = H4 at s7 ⊢
  refine sq_aug (v0 H4 _ _) (s7.get List.mem_cons_self) U.cls_Watched U.na_Watched_next_stop rfl val_c (fun Q q => ⟨_, _, rfl, rfl, q⟩) (by show 4 < 1000; decide) ?_
  have s8 := s7.put (u := watO K { w with n := w.n + 1, ss := w.ss ++ [⟨w.n, x, dx, wv, s⟩] })
  refine st_ret (val_var rfl) ?_
  refine q { w with n := w.n + 1, ss := w.ss ++ [⟨w.n, x, dx, wv, s⟩] } _ x dx rfl rfl rfl rfl rfl ⟨o.sub, o.env, o.wf, o.prog, o.ok, o.mok, o.nh, ?_, ?_, ?_, ?_⟩ (s8.perm ?_)
  · intro g hg
    rcases List.mem_append.mp hg with z | z
    · exact o.wish g z
    · have : g = ⟨w.n, x, dx, wv, s⟩ := by simpa using z
      rw [this]
      exact hwv
  · intro g hg j hj p hp'
    rcases List.mem_append.mp hg with z | z
    · exact o.wok g z j hj p hp'
    · have : g = ⟨w.n, x, dx, wv, s⟩ := by simpa using z
      subst this
      rw [hi] at hj
      cases hj
      exact hwok p hp'
  · intro g hg
    rcases List.mem_append.mp hg with z | z
    · exact Nat.lt_succ_of_lt (o.ns g z)
    · have : g = ⟨w.n, x, dx, wv, s⟩ := by simpa using z
      subst this
      exact Nat.lt_succ_self _
  · show (w.ss ++ [_]).length ≤ 20
    rw [List.length_append]
    exact hlen
  · show List.Perm _ ((w.a, watO K { w with n := w.n + 1, ss := w.ss ++ [⟨w.n, x, dx, wv, s⟩] }) :: (w.sd, HO.dK (stK (w.ss ++ [⟨w.n, x, dx, wv, s⟩]))) :: (stR K (w.ss ++ [⟨w.n, x, dx, wv, s⟩]) ++ w.g.reg K))
    have e1 : stK (w.ss ++ [⟨w.n, x, dx, wv, s⟩]) = stK w.ss ++ [(Sum.inl (w.n : Int), V.ref x)] := by
      unfold stK
      rw [List.map_append]
      rfl
    have e2 : stR K (w.ss ++ [⟨w.n, x, dx, wv, s⟩]) = stR K w.ss ++ [(x, stpO K dx s wv)] := by
      unfold stR
      rw [List.map_append]
      rfl
    rw [e1, e2]
    (refine perm_sum fun f => ?_; simp only [List.map_append, List.map_cons, List.map_nil, List.sum_append, List.sum_cons, List.sum_nil]; omega)
theorem rd_Watched_stack (T : Fx K) (U : Gx K) (vs : List V) (H : Hp) (Q : VK) (E : XK) (h : sp_Watched_stack K vs H Q E) : t_Watched_stack K { nx := fun _ H' => Q .non H', rt := Q } (start n_Watched_stack vs) H := by
  obtain ⟨F, G, da, P, w, k, rfl, o, s, hk, q⟩ := h
  have hkg : k < w.g.gs.length := by rw [o.nh]; exact hk
  obtain ⟨h, hh⟩ : ∃ h, w.g.gs[k]? = some h := ⟨w.g.gs[k], by simp [hkg]⟩
  have hmem := List.mem_of_getElem? hh
  refine sq_drop ?_
  refine ⟨_, rfl, w.a, w.dx, _, rfl, s.get regW_self, rfl, _, rfl, F, w, k, rfl, s, hkg, ?_⟩
  refine sq_set (val_frames T U s (val_var rfl : Val (tVar 0) [some (.ref w.a), some (.int (k : Nat)), none, none] H (.ref w.a)) (val_var rfl : Val (tVar 1) [some (.ref w.a), some (.int (k : Nat)), none, none] H (.int (k : Nat))) hh) ?_
  have est := stk_get hh
  have hok : HandOk P.env h.m := o.mok.hands _ (by
    rw [← est]
    by_cases z : w.g.m.stk k = []
    · have : h.m = [] := by rw [← est]; exact z
      have h2 : h.m ∈ w.g.m.hands := List.mem_map.mpr ⟨h, hmem, rfl⟩
      rw [est]
      exact h2
    · exact stk_mem z)
  have hl20 : h.fs.length ≤ 20 := by
    have := hok.len
    have e : h.m.length = h.fs.length := List.length_map ..
    omega
  have esm : stackM P.env w.g.m k = h.fs.map fun f => (f.fn, ((f.m.place P.env : Nat) : Int)) := by
    unfold stackM
    rw [est]
    unfold GH.m
    rw [List.map_map]
    rfl
  rw [esm] at q
  have hfl : SqL K H h.fl ((h.fs.map GF.a).reverse.map V.ref) := SqL.of (s.get (regW_m _ (regM_fl hmem)))
  have hll : ((h.fs.map GF.a).reverse.map V.ref).length = h.fs.length := by rw [List.length_map, List.length_reverse, List.length_map]
  refine st_retI ?_
  refine ⟨_, rfl, h.fl, _, rfl, hfl, fun D hD => ?_⟩
  refine lc_Itv (K := K) (a := h.fl) (xs := (h.fs.map GF.a).reverse.map V.ref) (fun j H' => ∃ ts : List Addr, ts.length = j ∧ Sat F ((D, .lst (ts.map V.ref)) :: (saidR ts ((h.fs.map fun f => (f.fn, ((f.m.place P.env : Nat) : Int))).take j) ++ w.reg K)) H') ?_ ?_ ?_ ?_
  · exact ⟨[], rfl, s.new hD⟩
  · rintro j H' ⟨ts, _, w'⟩
    exact SqL.of (w'.get (List.mem_cons_of_mem _ (List.mem_append_right _ (regW_m _ (regM_fl hmem)))))
  · rintro j v H2 hj hv ⟨ts, hts, w'⟩
    rw [hll] at hj
    obtain ⟨f, hf⟩ : ∃ f, h.fs[j]? = some f := ⟨h.fs[j], by simp [hj]⟩
    have ev : v = .ref f.a := by
      rw [hll, List.getElem?_map, List.getElem?_reverse (by rw [List.length_map]; omega), List.length_map] at hv
      have e1 : h.fs.length - 1 - (h.fs.length - 1 - j) = j := by omega
      rw [e1, List.getElem?_map, hf] at hv
      exact (Option.some.inj hv).symm
    subst ev
    have hfm := List.mem_of_getElem? hf
    refine ⟨rfl, ?_⟩
    unfold tYes
    refine Eq.mpr (if_pos rfl) ?_
    obtain ⟨p, i, hd⟩ := hand_deed hok f.m (List.mem_map.mpr ⟨f, hfm, rfl⟩)
    have hreg : ∀ y ∈ f.reg K, H2 y.1 = some y.2 := fun y hy => w'.at_ y (List.mem_cons_of_mem _ (List.mem_append_right _ (regW_m _ (regM_f hmem hfm y hy))))
    have wff : f.Wf K G da := o.wf.1 h hmem f hfm
    have sGH : Same G H2 := o.sub.trans w'.fr
    obtain ⟨b, bs, eb, hb, hdl, hp, ht⟩ := deed_at (F := F) sGH wff hreg hd
    obtain ⟨ddx, tta, ba, hda, _⟩ := o.env.tbl p i ht
    have hfa : H2 f.a = some (frmO K f) := hreg (f.a, _) (List.mem_cons_of_mem _ List.mem_cons_self)
    have hfb : H2 f.bl = some (bsL f.bs) := hreg (f.bl, _) List.mem_cons_self
    have v3 : Val (tVar 3) [some (.ref w.a), some (.int (k : Nat)), some (.ref h.fl), some (.ref f.a)] H2 (.ref f.a) := val_var rfl
    have vd : Val (tMeth (He.ga K "Frame") "deed" (sp_Frame_deed K) [] E0 (tVar 3) tNil) [some (.ref w.a), some (.int (k : Nat)), some (.ref h.fl), some (.ref f.a)] H2 (.ref (da p)) := by
      intro Q q
      exact ⟨_, rfl, f.a, f.dx, _, rfl, hfa, rfl, da, f, b, bs, p, rfl, hfa, hfb, eb, hb, hdl, hp, q⟩
    have vfn := val_fld v3 hfa T.cls_Frame T.na_Frame_fun rfl
    have vpl := val_fld vd (sGH _ _ hda) T.cls_Deed T.na_Deed_place rfl
    refine tup_I' (args_cons (vfn _ (args_cons (vpl _ (args_nil ?_)))))
    refine ⟨(by show 2 ≤ sizeLine; decide), fun t ht => ?_⟩
    have w2 := w'.new (o := .tup [.int (f.fn : Nat), .int (p : Nat)]) ht
    generalize upd H2 t _ = H3 at w2 ⊢
    refine ⟨_, w2.get (List.mem_cons_of_mem _ List.mem_cons_self), ?_, ts ++ [t], by rw [List.length_append, hts]; rfl, ?_⟩
    · rw [List.length_map]
      exact Nat.lt_of_le_of_lt (by omega : _ ≤ 20) (by decide)
    have w3 := (w2.perm (List.Perm.swap _ _ _)).put (u := .lst (ts.map V.ref ++ [.ref t]))
    have epl : f.m.place P.env = p := by
      unfold Frm.place
      rw [hd]
    have et : (h.fs.map fun f => (f.fn, ((f.m.place P.env : Nat) : Int))).take (j + 1) = (h.fs.map fun f => (f.fn, ((f.m.place P.env : Nat) : Int))).take j ++ [(f.fn, (p : Int))] := by
      rw [List.take_succ, List.getElem?_map, hf]
      show _ ++ [(f.fn, ((f.m.place P.env : Nat) : Int))] = _
      rw [epl]
    have er : saidR (ts ++ [t]) ((h.fs.map fun f => (f.fn, ((f.m.place P.env : Nat) : Int))).take j ++ [(f.fn, (p : Int))]) = saidR ts ((h.fs.map fun f => (f.fn, ((f.m.place P.env : Nat) : Int))).take j) ++ [(t, .tup [.int (f.fn : Nat), .int (p : Nat)])] := by
      unfold saidR
      rw [List.map_append, List.zip_append (by rw [List.length_map, List.length_take, List.length_map, hts]; omega)]
      rfl
    rw [et, er, List.map_append]
    exact w3.perm (by (refine perm_sum fun f => ?_; simp only [List.map_append, List.map_cons, List.map_nil, List.sum_append, List.sum_cons, List.sum_nil]; omega))
  · rintro H2 ⟨ts, hts, w'⟩
    rw [hll] at hts w'
    have e1 : (h.fs.map fun f => (f.fn, ((f.m.place P.env : Nat) : Int))).take h.fs.length = h.fs.map fun f => (f.fn, ((f.m.place P.env : Nat) : Int)) := by
      rw [List.take_of_length_le]
      rw [List.length_map]
      exact Nat.le_refl _
    rw [e1] at w'
    exact q D ts H2 (by rw [List.length_map]; exact hts) w'
end
end S
set_option Elab.async false
set_option linter.all false
set_option maxRecDepth 100000
set_option maxHeartbeats 1000000
namespace S
open PySem PySem.Spec PyProof.Rows L2
theorem mkFn {P : Program} {w : World} {K : PySem.W.Frag} {mg : Str → Option Value} {base : Heap} {x qual : Str} {params : Arguments} {body : List Stmt} {scope : Scope} {f : Addr} {N ps : List Str} {k : Nat} {sp : Sp} {t : TS} {fd : FuncData} (F : FunD K x qual params body scope [] [] f fd) (S : FnScope N ps scope)
    (len : ∀ vs H Q E, sp vs H Q E → vs.length = ps.length)
    (d : ∀ (cdv : Value) (A : Around) (outer : List PySem.Env) (s : Shared) (H : Hp) (E : XK), Room k (A.deeper (envOfC qual scope s.heap.objs.size f cdv)) → PSs (cxOf CX0 P w K mg base N qual scope f cdv A outer s H E).nox body t)
    (q : ∀ vs H Q E, sp vs H Q E → t { nx := fun _ H' => Q .non H', rt := Q } (start N vs) H) : FnOk P w K mg base CX0 (k + 1) f fd ps sp :=
  F.ok S len fun cdv A outer s H vs Q E hr hsp => ⟨t, (d cdv A outer s H E hr).nox, q vs H Q E hsp⟩
section
variable {F F' F0 H H' : Hp} {r : Reg} {p : Addr} {o : HO}
theorem Sat.keep (s : Sat F r H) (hp : H p = none) : Sat (upd F p o) r (upd H p o) := by
  have ne : ∀ e ∈ r, e.1 ≠ p := fun e he q => by
    have := s.at_ e he
    rw [q, hp] at this
    cases this
  refine ⟨fun a u h => ?_, fun e he => ?_, fun e he => ?_, s.nd⟩
  · by_cases q : a = p
    · subst q
      rw [upd_same] at h ⊢
      exact h
    · rw [upd_ne q] at h ⊢
      exact s.fr a u h
  · rw [upd_ne (ne e he)]
    exact s.at_ e he
  · rw [upd_ne (ne e he)]
    exact s.off e he
structure Keeps (I : Hp → Hp → Prop) : Prop where
  fr : ∀ F H, I F H → Same F H
  keep : ∀ F H p o, I F H → H p = none → I (upd F p o) (upd H p o)
theorem keeps_sat (r : Reg) : Keeps fun F H => Sat F r H := ⟨fun _ _ s => s.fr, fun _ _ _ _ s hp => s.keep hp⟩
theorem same_base {I : Hp → Hp → Prop} (k : Keeps I) (i : I F H) (hp : H p = none) : Same F (upd F p o) := same_new ((k.fr F H i).free hp)
def Mono {α : Type} (D : Hp → α → Prop) : Prop := ∀ F F' v, Same F F' → D F v → D F' v
def BV (te : TE) (σ : L2.St) (I : Hp → Hp → Prop) (F0 : Hp) (D : Hp → V → Prop) : Prop := ∀ (F H : Hp) (Q : VK), Same F0 F → I F H → (∀ F' H' v, Same F F' → I F' H' → D F' v → Q v H') → te σ H Q
def BA (ta : TA) (σ : L2.St) (I : Hp → Hp → Prop) (F0 : Hp) (D : Hp → List V → Prop) : Prop := ∀ (F H : Hp) (Q : List V → Hp → Prop), Same F0 F → I F H → (∀ F' H' vs, Same F F' → I F' H' → D F' vs → Q vs H') → ta σ H Q
variable {σ : L2.St} {I : Hp → Hp → Prop} {te t1 t2 : TE} {ta : TA} {D D1 : Hp → V → Prop} {DD D2 : Hp → List V → Prop} {K : PySem.W.Frag}
theorem BV.imp (h : BV te σ I F0 D) (c : ∀ F v, D F v → D1 F v) : BV te σ I F0 D1 := fun F H Q e i q => h F H Q e i fun F' H' v e' i' d => q F' H' v e' i' (c F' v d)
theorem bv_c {v : V} (hd : ∀ F, D F v) : BV (tC v) σ I F0 D := fun F H Q e i q => val_c Q (q F H v (Same.refl _) i (hd F))
theorem bv_var {i : Nat} {v : V} (hσ : σ[i]? = some (some v)) (hd : ∀ F, Same F0 F → D F v) : BV (tVar i) σ I F0 D := fun F H Q e j q => (val_var hσ : Val (tVar i) σ H v) Q (q F H v (Same.refl _) j (hd F e))
theorem bv_val {v : V} (h : ∀ F H, Same F0 F → I F H → Val te σ H v ∧ D F v) : BV te σ I F0 D := fun F H Q e j q => (h F H e j).1 Q (q F H v (Same.refl _) j (h F H e j).2)
theorem ba_nil (hd : ∀ F, DD F []) : BA tNil σ I F0 DD := fun F H Q e i q => args_nil (q F H [] (Same.refl _) i (hd F))
theorem ba_cons (h1 : BV te σ I F0 D1) (m : Mono D1) (h2 : BA ta σ I F0 D2) (c : ∀ F v vs, D1 F v → D2 F vs → DD F (v :: vs)) : BA (tCons te ta) σ I F0 DD := fun F H Q e i q =>
  args_cons (h1 F H _ e i fun F1 H1 v e1 i1 d1 => h2 F1 H1 _ (e.trans e1) i1 fun F2 H2 vs e2 i2 d2 => q F2 H2 (v :: vs) (e1.trans e2) i2 (c F2 v vs (m F1 F2 v e2 d1) d2))
theorem bv_tup (K : PySem.W.Frag) (k : Keeps I) (h : BA ta σ I F0 DD) (m : Mono DD) (len : ∀ F vs, DD F vs → vs.length ≤ 1000) (c : ∀ F a xs, SqT K F a xs → DD F xs → D F (.ref a)) : BV (tTup ta) σ I F0 D := fun F H Q e i q =>
  tup_I' (h F H _ e i fun F1 H1 vs e1 i1 d1 => ⟨Nat.le_trans (len F1 vs d1) (by decide), fun p hp => by
    have e2 := same_base (o := .tup vs) k i1 hp
    exact q _ _ (.ref p) (e1.trans e2) (k.keep F1 H1 p _ i1 hp) (c _ p vs (SqT.of upd_same) (m F1 _ vs e2 d1))⟩)
def IsV (v : V) : Hp → V → Prop := fun _ x => x = v
def IsPart (K : PySem.W.Frag) (q : Part) : Hp → V → Prop := fun F x => ∃ a, x = .ref a ∧ PartAt K F a q
def IsParts (K : PySem.W.Frag) (qs : List Part) : Hp → V → Prop := fun F x => ∃ a xs, x = .ref a ∧ SqT K F a xs ∧ PartsAt K F xs qs
def PartsL (K : PySem.W.Frag) (qs : List Part) : Hp → List V → Prop := fun F xs => PartsAt K F xs qs
def IsBody (K : PySem.W.Frag) (b : Body) : Hp → V → Prop := fun F x => ∃ a ys, x = .ref a ∧ SqT K F a ys ∧ DeedsAt K F ys b
def Body.top : Body → Nat
  | .nil => 0
  | .set _ _ r | .put _ _ r | .say _ r | .iff _ _ _ r | .again _ _ r | .call _ _ _ r | .ret _ r => r.top + 1
def DeedsL (K : PySem.W.Frag) (b : Body) : Hp → List V → Prop := fun F xs => DeedsAt K F xs b ∧ xs.length = b.top
def IsTold (K : PySem.W.Frag) (t : Told) : Hp → V → Prop := fun F x => ∃ a, x = .ref a ∧ ToldAt K F a t
def IsFn (K : PySem.W.Frag) (f : Fn) : Hp → V → Prop := fun F x => FnAt K F x f
def FnsL (K : PySem.W.Frag) (fs : List Fn) : Hp → List V → Prop := fun F xs => FnsAt K F xs fs
def IsProg (K : PySem.W.Frag) (P : Prog) : Hp → V → Prop := fun F x => ∃ a, x = .ref a ∧ ProgAt K F a P
def IntsL (is : List Int) : Hp → List V → Prop := fun _ xs => xs = is.map V.int
def IsInts (K : PySem.W.Frag) (is : List Int) : Hp → V → Prop := fun F x => ∃ a, x = .ref a ∧ SqT K F a (is.map V.int)
theorem mono_v {v : V} : Mono (IsV v) := fun _ _ _ _ h => h
theorem mono_part {q : Part} : Mono (IsPart K q) := fun _ _ _ e ⟨a, h1, h2⟩ => ⟨a, h1, h2.mono e⟩
theorem mono_parts {qs : List Part} : Mono (IsParts K qs) := fun _ _ _ e ⟨a, xs, h1, h2, h3⟩ => ⟨a, xs, h1, same_seqT e h2, h3.mono e⟩
theorem mono_partsL {qs : List Part} : Mono (PartsL K qs) := fun _ _ _ e h => PartsAt.mono e h
theorem mono_body {b : Body} : Mono (IsBody K b) := fun _ _ _ e ⟨a, xs, h1, h2, h3⟩ => ⟨a, xs, h1, same_seqT e h2, h3.mono e⟩
theorem mono_deedsL {b : Body} : Mono (DeedsL K b) := fun _ _ _ e h => ⟨h.1.mono e, h.2⟩
theorem mono_fn {f : Fn} : Mono (IsFn K f) := fun _ _ _ e h => FnAt.mono e h
theorem mono_fnsL {fs : List Fn} : Mono (FnsL K fs) := fun _ _ _ e h => FnsAt.mono e h
theorem mono_prog {P : Prog} : Mono (IsProg K P) := fun _ _ _ e ⟨a, h1, h2⟩ => ⟨a, h1, h2.mono e⟩
theorem mono_intsL {is : List Int} : Mono (IntsL is) := fun _ _ _ _ h => h
theorem mono_ints {is : List Int} : Mono (IsInts K is) := fun _ _ _ e ⟨a, h1, h2⟩ => ⟨a, h1, same_seqT e h2⟩
theorem mono_told {t : Told} : Mono (IsTold K t) := fun _ _ _ e ⟨a, h1, h2⟩ => ⟨a, h1, h2.mono e⟩
theorem bv_p1 {z : Str} {i : Int} {q : Part} (k : Keeps I) (h : BV te σ I F0 (IsV (.int i))) (c : ∀ F a, SqT K F a [.str z, .int i] → PartAt K F a q) : BV (tTup (tCons (tC (.str z)) (tCons te tNil))) σ I F0 (IsPart K q) :=
  bv_tup (DD := fun _ xs => xs = [.str z, .int i]) K k (ba_cons (D1 := IsV (.str z)) (D2 := fun _ xs => xs = [.int i]) (bv_c fun _ => rfl) mono_v (ba_cons (D2 := fun _ xs => xs = []) h mono_v (ba_nil fun _ => rfl) (fun _ v vs h1 h2 => by rw [h1, h2])) (fun _ v vs h1 h2 => by rw [h1, h2]))
    (fun _ _ _ _ h => h) (fun _ vs h => by rw [h]; show 2 ≤ 1000; decide) (fun F a xs h1 h2 => ⟨a, rfl, c F a (by rw [h2] at h1; exact h1)⟩)
theorem bv_num {i : Int} (k : Keeps I) (h : BV te σ I F0 (IsV (.int i))) : BV (tTup (tCons (tC (.str "num")) (tCons te tNil))) σ I F0 (IsPart K (.num i)) := bv_p1 k h fun _ _ h => h
theorem bv_name {i : Nat} (k : Keeps I) (h : BV te σ I F0 (IsV (.int (i : Nat)))) : BV (tTup (tCons (tC (.str "name")) (tCons te tNil))) σ I F0 (IsPart K (.name i)) := bv_p1 k h fun _ _ h => h
theorem bv_cell {i : Nat} (k : Keeps I) (h : BV te σ I F0 (IsV (.int (i : Nat)))) : BV (tTup (tCons (tC (.str "cell")) (tCons te tNil))) σ I F0 (IsPart K (.cell i)) := bv_p1 k h fun _ _ h => h
theorem bv_bin {z : Str} (o : Op) {a b : Part} (k : Keeps I) (hz : z = o.str) (h1 : BV t1 σ I F0 (IsPart K a)) (h2 : BV t2 σ I F0 (IsPart K b)) : BV (tTup (tCons (tC (.str z)) (tCons t1 (tCons t2 tNil)))) σ I F0 (IsPart K (.bin o a b)) := by
  subst hz
  refine bv_tup (DD := fun F xs => ∃ x y, xs = [.str o.str, .ref x, .ref y] ∧ PartAt K F x a ∧ PartAt K F y b) K k
    (ba_cons (D1 := IsV (.str o.str)) (D2 := fun F xs => ∃ x y, xs = [.ref x, .ref y] ∧ PartAt K F x a ∧ PartAt K F y b) (bv_c fun _ => rfl) mono_v
      (ba_cons (D2 := fun F xs => ∃ y, xs = [.ref y] ∧ PartAt K F y b) h1 mono_part (ba_cons (D2 := fun F xs => xs = []) h2 mono_part (ba_nil fun _ => rfl) ?_) ?_) ?_) ?_ ?_ ?_
  · rintro F v vs ⟨y, rfl, h⟩ rfl
    exact ⟨y, rfl, h⟩
  · rintro F v vs ⟨x, rfl, h⟩ ⟨y, rfl, h'⟩
    exact ⟨x, y, rfl, h, h'⟩
  · rintro F v vs rfl ⟨x, y, rfl, h, h'⟩
    exact ⟨x, y, rfl, h, h'⟩
  · rintro F F' v e ⟨x, y, rfl, h, h'⟩
    exact ⟨x, y, rfl, h.mono e, h'.mono e⟩
  · rintro F vs ⟨x, y, rfl, h, h'⟩
    show 3 ≤ 1000
    decide
  · rintro F p xs hs ⟨x, y, rfl, h, h'⟩
    exact ⟨p, rfl, x, y, hs, h, h'⟩
theorem bp_nil : BA tNil σ I F0 (PartsL K []) := ba_nil fun _ => .nil
theorem bp_cons {q : Part} {qs : List Part} (h1 : BV te σ I F0 (IsPart K q)) (h2 : BA ta σ I F0 (PartsL K qs)) : BA (tCons te ta) σ I F0 (PartsL K (q :: qs)) := by
  refine ba_cons h1 mono_part h2 ?_
  rintro F v vs ⟨a, rfl, h⟩ h'
  exact .cons h h'
theorem bv_parts {qs : List Part} (k : Keeps I) (hz : qs.length ≤ 1000) (h : BA ta σ I F0 (PartsL K qs)) : BV (tTup ta) σ I F0 (IsParts K qs) :=
  bv_tup K k h mono_partsL (fun F vs h => by rw [h.length]; exact hz) (fun F a xs h1 h2 => ⟨a, xs, rfl, h1, h2⟩)
theorem bd_nil : BA tNil σ I F0 (DeedsL K .nil) := ba_nil fun _ => ⟨rfl, rfl⟩
theorem bv_body {b : Body} (k : Keeps I) (hz : b.top ≤ 1000) (h : BA ta σ I F0 (DeedsL K b)) : BV (tTup ta) σ I F0 (IsBody K b) :=
  bv_tup K k h mono_deedsL (fun F vs h => by rw [h.2]; exact hz) (fun F a xs h1 h2 => ⟨a, xs, rfl, h1, h2.1⟩)
theorem bv_t2 {z : Str} {t : Told} {D1 D2 : Hp → V → Prop} (k : Keeps I) (m1 : Mono D1) (m2 : Mono D2) (h1 : BV t1 σ I F0 D1) (h2 : BV t2 σ I F0 D2) (c : ∀ F a x y, SqT K F a [.str z, x, y] → D1 F x → D2 F y → ToldAt K F a t) :
    BV (tTup (tCons (tC (.str z)) (tCons t1 (tCons t2 tNil)))) σ I F0 (IsTold K t) := by
  refine bv_tup (DD := fun F xs => ∃ x y, xs = [.str z, x, y] ∧ D1 F x ∧ D2 F y) K k
    (ba_cons (D1 := IsV (.str z)) (D2 := fun F xs => ∃ x y, xs = [x, y] ∧ D1 F x ∧ D2 F y) (bv_c fun _ => rfl) mono_v
      (ba_cons (D2 := fun F xs => ∃ y, xs = [y] ∧ D2 F y) h1 m1 (ba_cons (D2 := fun F xs => xs = []) h2 m2 (ba_nil fun _ => rfl) ?_) ?_) ?_) ?_ ?_ ?_
  · rintro F v vs h rfl
    exact ⟨v, rfl, h⟩
  · rintro F v vs h ⟨y, rfl, h'⟩
    exact ⟨v, y, rfl, h, h'⟩
  · rintro F v vs rfl ⟨x, y, rfl, h, h'⟩
    exact ⟨x, y, rfl, h, h'⟩
  · rintro F F' v e ⟨x, y, rfl, h, h'⟩
    exact ⟨x, y, rfl, m1 _ _ _ e h, m2 _ _ _ e h'⟩
  · rintro F vs ⟨x, y, rfl, h, h'⟩
    show 3 ≤ 1000
    decide
  · rintro F p xs hs ⟨x, y, rfl, h, h'⟩
    exact ⟨p, rfl, c F p x y hs h h'⟩
theorem bv_t1 {z : Str} {t : Told} {D1 : Hp → V → Prop} (k : Keeps I) (m1 : Mono D1) (h1 : BV t1 σ I F0 D1) (c : ∀ F a x, SqT K F a [.str z, x] → D1 F x → ToldAt K F a t) :
    BV (tTup (tCons (tC (.str z)) (tCons t1 tNil))) σ I F0 (IsTold K t) := by
  refine bv_tup (DD := fun F xs => ∃ x, xs = [.str z, x] ∧ D1 F x) K k
    (ba_cons (D1 := IsV (.str z)) (D2 := fun F xs => ∃ x, xs = [x] ∧ D1 F x) (bv_c fun _ => rfl) mono_v
      (ba_cons (D2 := fun F xs => xs = []) h1 m1 (ba_nil fun _ => rfl) ?_) ?_) ?_ ?_ ?_
  · rintro F v vs h rfl
    exact ⟨v, rfl, h⟩
  · rintro F v vs rfl ⟨x, rfl, h⟩
    exact ⟨x, rfl, h⟩
  · rintro F F' v e ⟨x, rfl, h⟩
    exact ⟨x, rfl, m1 _ _ _ e h⟩
  · rintro F vs ⟨x, rfl, h⟩
    show 2 ≤ 1000
    decide
  · rintro F p xs hs ⟨x, rfl, h⟩
    exact ⟨p, rfl, c F p x hs h⟩
theorem bv_t3 {z : Str} {D : Hp → V → Prop} {D1 D2 D3 : Hp → V → Prop} {t3 : TE} (k : Keeps I) (m1 : Mono D1) (m2 : Mono D2) (m3 : Mono D3) (h1 : BV t1 σ I F0 D1) (h2 : BV t2 σ I F0 D2) (h3 : BV t3 σ I F0 D3)
    (c : ∀ F a x y u, SqT K F a [.str z, x, y, u] → D1 F x → D2 F y → D3 F u → D F (.ref a)) :
    BV (tTup (tCons (tC (.str z)) (tCons t1 (tCons t2 (tCons t3 tNil))))) σ I F0 D := by
  refine bv_tup (DD := fun F xs => ∃ x y u, xs = [.str z, x, y, u] ∧ D1 F x ∧ D2 F y ∧ D3 F u) K k
    (ba_cons (D1 := IsV (.str z)) (D2 := fun F xs => ∃ x y u, xs = [x, y, u] ∧ D1 F x ∧ D2 F y ∧ D3 F u) (bv_c fun _ => rfl) mono_v
      (ba_cons (D2 := fun F xs => ∃ y u, xs = [y, u] ∧ D2 F y ∧ D3 F u) h1 m1 (ba_cons (D2 := fun F xs => ∃ u, xs = [u] ∧ D3 F u) h2 m2 (ba_cons (D2 := fun F xs => xs = []) h3 m3 (ba_nil fun _ => rfl) ?_) ?_) ?_) ?_) ?_ ?_ ?_
  · rintro F v vs h rfl
    exact ⟨v, rfl, h⟩
  · rintro F v vs h ⟨y, rfl, h'⟩
    exact ⟨v, y, rfl, h, h'⟩
  · rintro F v vs h ⟨y, u, rfl, h', h''⟩
    exact ⟨v, y, u, rfl, h, h', h''⟩
  · rintro F v vs rfl ⟨x, y, u, rfl, h, h', h''⟩
    exact ⟨x, y, u, rfl, h, h', h''⟩
  · rintro F F' v e ⟨x, y, u, rfl, h, h', h''⟩
    exact ⟨x, y, u, rfl, m1 _ _ _ e h, m2 _ _ _ e h', m3 _ _ _ e h''⟩
  · rintro F vs ⟨x, y, u, rfl, h, h', h''⟩
    show 4 ≤ 1000
    decide
  · rintro F p xs hs ⟨x, y, u, rfl, h, h', h''⟩
    exact c F p x y u hs h h' h''
theorem bv_set {n : Nat} {q : Part} (k : Keeps I) (h1 : BV t1 σ I F0 (IsV (.int (n : Nat)))) (h2 : BV t2 σ I F0 (IsPart K q)) : BV (tTup (tCons (tC (.str "set")) (tCons t1 (tCons t2 tNil)))) σ I F0 (IsTold K (.set n q)) :=
  bv_t2 k mono_v mono_part h1 h2 fun F a x y hs h ⟨b, e, h'⟩ => ⟨b, by rw [h, e] at hs; exact hs, h'⟩
theorem bv_put {n : Nat} {q : Part} (k : Keeps I) (h1 : BV t1 σ I F0 (IsV (.int (n : Nat)))) (h2 : BV t2 σ I F0 (IsPart K q)) : BV (tTup (tCons (tC (.str "put")) (tCons t1 (tCons t2 tNil)))) σ I F0 (IsTold K (.put n q)) :=
  bv_t2 k mono_v mono_part h1 h2 fun F a x y hs h ⟨b, e, h'⟩ => ⟨b, by rw [h, e] at hs; exact hs, h'⟩
theorem bv_say {q : Part} (k : Keeps I) (h1 : BV t1 σ I F0 (IsPart K q)) : BV (tTup (tCons (tC (.str "say")) (tCons t1 tNil))) σ I F0 (IsTold K (.say q)) :=
  bv_t1 k mono_part h1 fun F a x hs ⟨b, e, h'⟩ => ⟨b, by rw [e] at hs; exact hs, h'⟩
theorem bv_ret {q : Part} (k : Keeps I) (h1 : BV t1 σ I F0 (IsPart K q)) : BV (tTup (tCons (tC (.str "return")) (tCons t1 tNil))) σ I F0 (IsTold K (.ret q)) :=
  bv_t1 k mono_part h1 fun F a x hs ⟨b, e, h'⟩ => ⟨b, by rw [e] at hs; exact hs, h'⟩
theorem bv_call {f n : Nat} {qs : List Part} {t3 : TE} (k : Keeps I) (h1 : BV t1 σ I F0 (IsV (.int (f : Nat)))) (h2 : BV t2 σ I F0 (IsParts K qs)) (h3 : BV t3 σ I F0 (IsV (.int (n : Nat)))) : BV (tTup (tCons (tC (.str "call")) (tCons t1 (tCons t2 (tCons t3 tNil))))) σ I F0 (IsTold K (.call f qs n)) :=
  bv_t3 k mono_v mono_parts mono_v h1 h2 h3 fun F a x y u hs h ⟨b, ys, e, h', h''⟩ h3 => ⟨a, rfl, b, ys, by rw [h, e, h3] at hs; exact hs, h', h''⟩
theorem bd_set {n : Nat} {q : Part} {r : Body} (h1 : BV te σ I F0 (IsTold K (.set n q))) (h2 : BA ta σ I F0 (DeedsL K r)) : BA (tCons te ta) σ I F0 (DeedsL K (.set n q r)) :=
  ba_cons h1 mono_told h2 fun F v vs ⟨a, e, h⟩ h' => ⟨⟨a, vs, by rw [e], h, h'.1⟩, by rw [List.length_cons, h'.2]; rfl⟩
theorem bd_put {n : Nat} {q : Part} {r : Body} (h1 : BV te σ I F0 (IsTold K (.put n q))) (h2 : BA ta σ I F0 (DeedsL K r)) : BA (tCons te ta) σ I F0 (DeedsL K (.put n q r)) :=
  ba_cons h1 mono_told h2 fun F v vs ⟨a, e, h⟩ h' => ⟨⟨a, vs, by rw [e], h, h'.1⟩, by rw [List.length_cons, h'.2]; rfl⟩
theorem bd_say {q : Part} {r : Body} (h1 : BV te σ I F0 (IsTold K (.say q))) (h2 : BA ta σ I F0 (DeedsL K r)) : BA (tCons te ta) σ I F0 (DeedsL K (.say q r)) :=
  ba_cons h1 mono_told h2 fun F v vs ⟨a, e, h⟩ h' => ⟨⟨a, vs, by rw [e], h, h'.1⟩, by rw [List.length_cons, h'.2]; rfl⟩
theorem bd_ret {q : Part} {r : Body} (h1 : BV te σ I F0 (IsTold K (.ret q))) (h2 : BA ta σ I F0 (DeedsL K r)) : BA (tCons te ta) σ I F0 (DeedsL K (.ret q r)) :=
  ba_cons h1 mono_told h2 fun F v vs ⟨a, e, h⟩ h' => ⟨⟨a, vs, by rw [e], h, h'.1⟩, by rw [List.length_cons, h'.2]; rfl⟩
theorem bd_call {f n : Nat} {qs : List Part} {r : Body} (h1 : BV te σ I F0 (IsTold K (.call f qs n))) (h2 : BA ta σ I F0 (DeedsL K r)) : BA (tCons te ta) σ I F0 (DeedsL K (.call f qs n r)) :=
  ba_cons h1 mono_told h2 fun F v vs ⟨a, e, h⟩ h' => ⟨⟨a, vs, by rw [e], h, h'.1⟩, by rw [List.length_cons, h'.2]; rfl⟩
def IsIf (K : PySem.W.Frag) (q : Part) (a b : Body) : Hp → V → Prop := fun F x => ∃ ta pa xa xb ya yb, x = .ref ta ∧ SqT K F ta [.str "if", .ref pa, .ref xa, .ref xb] ∧ PartAt K F pa q ∧ SqT K F xa ya ∧ DeedsAt K F ya a ∧ SqT K F xb yb ∧ DeedsAt K F yb b
def IsAgain (K : PySem.W.Frag) (q : Part) (b : Body) : Hp → V → Prop := fun F x => ∃ ta pa xb yb, x = .ref ta ∧ SqT K F ta [.str "again", .ref pa, .ref xb] ∧ PartAt K F pa q ∧ SqT K F xb yb ∧ DeedsAt K F yb b
theorem mono_if {q : Part} {a b : Body} : Mono (IsIf K q a b) := fun _ _ _ e ⟨ta, pa, xa, xb, ya, yb, h1, h2, h3, h4, h5, h6, h7⟩ => ⟨ta, pa, xa, xb, ya, yb, h1, same_seqT e h2, h3.mono e, same_seqT e h4, h5.mono e, same_seqT e h6, h7.mono e⟩
theorem mono_again {q : Part} {b : Body} : Mono (IsAgain K q b) := fun _ _ _ e ⟨ta, pa, xb, yb, h1, h2, h3, h4, h5⟩ => ⟨ta, pa, xb, yb, h1, same_seqT e h2, h3.mono e, same_seqT e h4, h5.mono e⟩
theorem bv_if {q : Part} {a b : Body} {t3 : TE} (k : Keeps I) (h1 : BV t1 σ I F0 (IsPart K q)) (h2 : BV t2 σ I F0 (IsBody K a)) (h3 : BV t3 σ I F0 (IsBody K b)) : BV (tTup (tCons (tC (.str "if")) (tCons t1 (tCons t2 (tCons t3 tNil))))) σ I F0 (IsIf K q a b) :=
  bv_t3 k mono_part mono_body mono_body h1 h2 h3 fun F p x y u hs ⟨pa, e1, g1⟩ ⟨xa, ya, e2, g2, g3⟩ ⟨xb, yb, e3, g4, g5⟩ => ⟨p, pa, xa, xb, ya, yb, rfl, by rw [e1, e2, e3] at hs; exact hs, g1, g2, g3, g4, g5⟩
theorem bv_again {q : Part} {b : Body} (k : Keeps I) (h1 : BV t1 σ I F0 (IsPart K q)) (h2 : BV t2 σ I F0 (IsBody K b)) : BV (tTup (tCons (tC (.str "again")) (tCons t1 (tCons t2 tNil)))) σ I F0 (IsAgain K q b) := by
  refine bv_tup (DD := fun F xs => ∃ pa xb yb, xs = [.str "again", .ref pa, .ref xb] ∧ PartAt K F pa q ∧ SqT K F xb yb ∧ DeedsAt K F yb b) K k
    (ba_cons (D1 := IsV (.str "again")) (D2 := fun F xs => ∃ pa xb yb, xs = [.ref pa, .ref xb] ∧ PartAt K F pa q ∧ SqT K F xb yb ∧ DeedsAt K F yb b) (bv_c fun _ => rfl) mono_v
      (ba_cons (D2 := fun F xs => ∃ xb yb, xs = [.ref xb] ∧ SqT K F xb yb ∧ DeedsAt K F yb b) h1 mono_part (ba_cons (D2 := fun F xs => xs = []) h2 mono_body (ba_nil fun _ => rfl) ?_) ?_) ?_) ?_ ?_ ?_
  · rintro F v vs ⟨xb, yb, rfl, h, h'⟩ rfl
    exact ⟨xb, yb, rfl, h, h'⟩
  · rintro F v vs ⟨pa, rfl, h⟩ ⟨xb, yb, rfl, h', h''⟩
    exact ⟨pa, xb, yb, rfl, h, h', h''⟩
  · rintro F v vs rfl ⟨pa, xb, yb, rfl, h⟩
    exact ⟨pa, xb, yb, rfl, h⟩
  · rintro F F' v e ⟨pa, xb, yb, rfl, h, h', h''⟩
    exact ⟨pa, xb, yb, rfl, h.mono e, same_seqT e h', h''.mono e⟩
  · rintro F vs ⟨pa, xb, yb, rfl, h⟩
    show 3 ≤ 1000
    decide
  · rintro F p xs hs ⟨pa, xb, yb, rfl, h, h', h''⟩
    exact ⟨p, pa, xb, yb, rfl, hs, h, h', h''⟩
theorem bd_if {q : Part} {a b r : Body} (h1 : BV te σ I F0 (IsIf K q a b)) (h2 : BA ta σ I F0 (DeedsL K r)) : BA (tCons te ta) σ I F0 (DeedsL K (.iff q a b r)) :=
  ba_cons h1 mono_if h2 fun F v vs ⟨p, pa, xa, xb, ya, yb, e, g1, g2, g3, g4, g5, g6⟩ h' => ⟨⟨p, vs, pa, xa, xb, ya, yb, by rw [e], g1, g2, g3, g4, g5, g6, h'.1⟩, by rw [List.length_cons, h'.2]; rfl⟩
theorem bd_again {q : Part} {b r : Body} (h1 : BV te σ I F0 (IsAgain K q b)) (h2 : BA ta σ I F0 (DeedsL K r)) : BA (tCons te ta) σ I F0 (DeedsL K (.again q b r)) :=
  ba_cons h1 mono_again h2 fun F v vs ⟨p, pa, xb, yb, e, g1, g2, g4, g5⟩ h' => ⟨⟨p, vs, pa, xb, yb, by rw [e], g1, g2, g4, g5, h'.1⟩, by rw [List.length_cons, h'.2]; rfl⟩
theorem bv_fn {f : Fn} {t3 : TE} (k : Keeps I) (h1 : BV t1 σ I F0 (IsV (.int (f.params : Nat)))) (h2 : BV t2 σ I F0 (IsV (.int (f.names : Nat)))) (h3 : BV t3 σ I F0 (IsBody K f.body)) : BV (tTup (tCons t1 (tCons t2 (tCons t3 tNil)))) σ I F0 (IsFn K f) := by
  refine bv_tup (DD := fun F xs => ∃ ba ys, xs = [.int (f.params : Nat), .int (f.names : Nat), .ref ba] ∧ SqT K F ba ys ∧ DeedsAt K F ys f.body) K k
    (ba_cons (D1 := IsV (.int (f.params : Nat))) (D2 := fun F xs => ∃ ba ys, xs = [.int (f.names : Nat), .ref ba] ∧ SqT K F ba ys ∧ DeedsAt K F ys f.body) h1 mono_v
      (ba_cons (D1 := IsV (.int (f.names : Nat))) (D2 := fun F xs => ∃ ba ys, xs = [.ref ba] ∧ SqT K F ba ys ∧ DeedsAt K F ys f.body) h2 mono_v (ba_cons (D2 := fun F xs => xs = []) h3 mono_body (ba_nil fun _ => rfl) ?_) ?_) ?_) ?_ ?_ ?_
  · rintro F v vs ⟨xb, yb, rfl, h, h'⟩ rfl
    exact ⟨xb, yb, rfl, h, h'⟩
  · rintro F v vs rfl ⟨xb, yb, rfl, h', h''⟩
    exact ⟨xb, yb, rfl, h', h''⟩
  · rintro F v vs rfl ⟨xb, yb, rfl, h⟩
    exact ⟨xb, yb, rfl, h⟩
  · rintro F F' v e ⟨xb, yb, rfl, h', h''⟩
    exact ⟨xb, yb, rfl, same_seqT e h', h''.mono e⟩
  · rintro F vs ⟨xb, yb, rfl, h⟩
    show 3 ≤ 1000
    decide
  · rintro F p xs hs ⟨xb, yb, rfl, h', h''⟩
    exact ⟨p, xb, yb, rfl, hs, h', h''⟩
theorem bf_nil : BA tNil σ I F0 (FnsL K []) := ba_nil fun _ => .nil
theorem bf_cons {f : Fn} {fs : List Fn} (h1 : BV te σ I F0 (IsFn K f)) (h2 : BA ta σ I F0 (FnsL K fs)) : BA (tCons te ta) σ I F0 (FnsL K (f :: fs)) := ba_cons h1 mono_fn h2 fun F v vs h h' => .cons h h'
def IsFns (K : PySem.W.Frag) (fs : List Fn) : Hp → V → Prop := fun F x => ∃ a xs, x = .ref a ∧ SqT K F a xs ∧ FnsAt K F xs fs
theorem mono_fns {fs : List Fn} : Mono (IsFns K fs) := fun _ _ _ e ⟨a, xs, h1, h2, h3⟩ => ⟨a, xs, h1, same_seqT e h2, h3.mono e⟩
theorem bv_fns {fs : List Fn} (k : Keeps I) (hz : fs.length ≤ 1000) (h : BA ta σ I F0 (FnsL K fs)) : BV (tTup ta) σ I F0 (IsFns K fs) :=
  bv_tup K k h mono_fnsL (fun F vs h => by rw [h.length]; exact hz) (fun F a xs h1 h2 => ⟨a, xs, rfl, h1, h2⟩)
theorem bi_nil : BA tNil σ I F0 (IntsL []) := ba_nil fun _ => rfl
theorem bi_cons {i : Int} {is : List Int} (h1 : BV te σ I F0 (IsV (.int i))) (h2 : BA ta σ I F0 (IntsL is)) : BA (tCons te ta) σ I F0 (IntsL (i :: is)) := ba_cons h1 mono_v h2 fun F v vs h h' => by rw [h, h']; rfl
theorem bv_ints {is : List Int} (k : Keeps I) (hz : is.length ≤ 1000) (h : BA ta σ I F0 (IntsL is)) : BV (tTup ta) σ I F0 (IsInts K is) :=
  bv_tup K k h mono_intsL (fun F vs h => by rw [h, List.length_map]; exact hz) (fun F a xs h1 h2 => ⟨a, rfl, by rw [h2] at h1; exact h1⟩)
theorem bv_prog {P : Prog} {t3 : TE} (k : Keeps I) (h1 : BV t1 σ I F0 (IsInts K P.cells)) (h2 : BV t2 σ I F0 (IsFns K P.funs)) (h3 : BV t3 σ I F0 (IsInts K (P.hands.map fun h : Nat => (h : Int)))) : BV (tTup (tCons t1 (tCons t2 (tCons t3 tNil)))) σ I F0 (IsProg K P) := by
  refine bv_tup (DD := fun F xs => ∃ ca fa ha fs, xs = [.ref ca, .ref fa, .ref ha] ∧ SqT K F ca (P.cells.map V.int) ∧ SqT K F fa fs ∧ FnsAt K F fs P.funs ∧ SqT K F ha (P.hands.map fun h => V.int (h : Nat))) K k
    (ba_cons (D2 := fun F xs => ∃ fa ha fs, xs = [.ref fa, .ref ha] ∧ SqT K F fa fs ∧ FnsAt K F fs P.funs ∧ SqT K F ha (P.hands.map fun h => V.int (h : Nat))) h1 mono_ints
      (ba_cons (D2 := fun F xs => ∃ ha, xs = [.ref ha] ∧ SqT K F ha (P.hands.map fun h => V.int (h : Nat))) h2 mono_fns (ba_cons (D2 := fun F xs => xs = []) h3 mono_ints (ba_nil fun _ => rfl) ?_) ?_) ?_) ?_ ?_ ?_
  · rintro F v vs ⟨ha, rfl, h⟩ rfl
    exact ⟨ha, rfl, by rw [List.map_map] at h; exact h⟩
  · rintro F v vs ⟨fa, fs, rfl, h1, h2⟩ ⟨ha, rfl, h'⟩
    exact ⟨fa, ha, fs, rfl, h1, h2, h'⟩
  · rintro F v vs ⟨ca, rfl, h⟩ ⟨fa, ha, fs, rfl, h1, h2, h'⟩
    exact ⟨ca, fa, ha, fs, rfl, h, h1, h2, h'⟩
  · rintro F F' v e ⟨ca, fa, ha, fs, rfl, h, h1, h2, h'⟩
    exact ⟨ca, fa, ha, fs, rfl, same_seqT e h, same_seqT e h1, h2.mono e, same_seqT e h'⟩
  · rintro F vs ⟨ca, fa, ha, fs, rfl, h⟩
    show 3 ≤ 1000
    decide
  · rintro F p xs hs ⟨ca, fa, ha, fs, rfl, h, h1, h2, h'⟩
    exact ⟨p, rfl, ⟨ca, fa, ha, fs, hs, h, h1, h2, h'⟩⟩
end
end S
set_option Elab.async false
set_option linter.all false
set_option maxRecDepth 100000
set_option maxHeartbeats 1000000
namespace S
open PySem PySem.Spec PyProof.Rows L2
def waysBody : Body := .iff (.bin .less (.name 0) (.num 2)) (.ret (.num 1) .nil) .nil (.call 1 [.bin .take (.name 0) (.num 1)] 1 (.call 1 [.bin .take (.name 0) (.num 2)] 2 (.ret (.bin .add (.name 1) (.name 2)) .nil)))
def waysMain (n : Nat) : Body := .call 1 [.num (n : Nat)] 0 (.say (.name 0) .nil)
def waysP (n : Nat) : Prog := ⟨[0], [⟨0, 1, waysMain n⟩, ⟨1, 3, waysBody⟩], [0]⟩
def deepBody : Body := .iff (.bin .same (.name 0) (.num 0)) (.ret (.num 5) .nil) .nil (.call 1 [.bin .take (.name 0) (.num 1)] 1 (.ret (.bin .add (.name 1) (.num 1)) .nil))
def deepP (n : Nat) : Prog := ⟨[0], [⟨0, 1, waysMain n⟩, ⟨1, 2, deepBody⟩], [0]⟩
def countBody (v : Nat) : Body := .again (.num (v : Nat)) (.put 0 (.bin .add (.cell 0) (.num 1)) .nil) .nil
def countP (more v : Nat) (hs : List Nat) : Prog := ⟨[(more : Int)], [⟨0, 0, countBody v⟩], hs⟩
theorem waysP_ok (n : Nat) (h : n < 10007) : (waysP n).Ok := by
  refine ⟨by simp [waysP, deepP], ?_, by simp [waysP, deepP], ?_, by simp [waysP, deepP], ?_, ?_, ?_, ?_⟩
  · intro i hi
    have : i = 0 := by simpa [waysP] using hi
    subst this
    decide
  · intro f hf
    have : f = ⟨0, 1, waysMain n⟩ ∨ f = ⟨1, 3, waysBody⟩ := by simpa [waysP] using hf
    rcases this with rfl | rfl <;> simp [waysMain, waysBody, deepBody, Body.above, Part.deep]
  · intro j hj
    have : j = 0 := by simpa [waysP] using hj
    subst this
    exact ⟨_, rfl, rfl⟩
  · intro f hf
    have : f = ⟨0, 1, waysMain n⟩ ∨ f = ⟨1, 3, waysBody⟩ := by simpa [waysP] using hf
    rcases this with rfl | rfl
    · simp [waysMain, waysP, Body.ok, Part.ok]
      omega
    · simp [waysBody, waysP, Body.ok, Part.ok]
  · simp [waysP, deepP, waysMain, waysBody, deepBody, Body.things, Part.size]
  · intro f hf
    have : f = ⟨0, 1, waysMain n⟩ ∨ f = ⟨1, 3, waysBody⟩ := by simpa [waysP] using hf
    rcases this with rfl | rfl <;> simp [waysMain, waysBody, deepBody, Body.above, Part.deep]
theorem deepP_ok (n : Nat) (h : n < 10007) : (deepP n).Ok := by
  refine ⟨by simp [waysP, deepP], ?_, by simp [waysP, deepP], ?_, by simp [waysP, deepP], ?_, ?_, ?_, ?_⟩
  · intro i hi
    have : i = 0 := by simpa [deepP] using hi
    subst this
    decide
  · intro f hf
    have : f = ⟨0, 1, waysMain n⟩ ∨ f = ⟨1, 2, deepBody⟩ := by simpa [deepP] using hf
    rcases this with rfl | rfl <;> simp [waysMain, waysBody, deepBody, Body.above, Part.deep]
  · intro j hj
    have : j = 0 := by simpa [deepP] using hj
    subst this
    exact ⟨_, rfl, rfl⟩
  · intro f hf
    have : f = ⟨0, 1, waysMain n⟩ ∨ f = ⟨1, 2, deepBody⟩ := by simpa [deepP] using hf
    rcases this with rfl | rfl
    · simp [waysMain, deepP, Body.ok, Part.ok]
      omega
    · simp [deepBody, deepP, Body.ok, Part.ok]
  · simp [waysP, deepP, waysMain, waysBody, deepBody, Body.things, Part.size]
  · intro f hf
    have : f = ⟨0, 1, waysMain n⟩ ∨ f = ⟨1, 2, deepBody⟩ := by simpa [deepP] using hf
    rcases this with rfl | rfl <;> simp [waysMain, waysBody, deepBody, Body.above, Part.deep]
theorem countP_ok (more v : Nat) (hs : List Nat) (h1 : more < 10007) (h2 : v < 10007) (h3 : 1 ≤ hs.length ∧ hs.length ≤ 3) (h4 : ∀ h ∈ hs, h = 0) : (countP more v hs).Ok := by
  refine ⟨by simp [countP], ?_, by simp [countP], ?_, h3, ?_, ?_, ?_, ?_⟩
  · intro i hi
    have : i = (more : Int) := by simpa [countP] using hi
    subst this
    omega
  · intro f hf
    have : f = ⟨0, 0, countBody v⟩ := by simpa [countP] using hf
    subst this
    simp
  · intro j hj
    rw [h4 j hj]
    exact ⟨_, rfl, rfl⟩
  · intro f hf
    have : f = ⟨0, 0, countBody v⟩ := by simpa [countP] using hf
    subst this
    simp [countBody, countP, Body.ok, Part.ok]
    omega
  · simp [countP, countBody, Body.things, Part.size]
  · intro f hf
    have : f = ⟨0, 0, countBody v⟩ := by simpa [countP] using hf
    subst this
    simp [countBody, Body.above, Part.deep]
def fibT (n : Nat) : Int := ([1, 1, 2, 3, 5, 8, 13, 21] : List Int).getD n 0
theorem ways_said : ∀ n, n < 8 → (runM (waysP n).env 2000 (waysP n).start).1.said = [(0, fibT n)] := by decide +kernel
theorem deep_said : ∀ n, n < 30 → (runM (deepP n).env 2000 (deepP n).start).1.said = [(0, if n < 19 then ((5 + n : Nat) : Int) else 19)] := by decide +kernel
end S
set_option Elab.async false
set_option linter.all false
set_option maxRecDepth 100000
set_option maxHeartbeats 1000000
namespace S
open PySem PySem.Spec PyProof.Rows L2
def itC : Nat → Int → Int
  | 0, x => x
  | n + 1, x => (itC n x + 1) % 10007
theorem itC_val : ∀ (n : Nat) (x : Int), 0 ≤ x → x < 10007 → itC n x = (x + n) % 10007
  | 0, x, h0, h1 => by
    show x = _
    rw [Int.emod_eq_of_lt (by omega) (by omega)]
    omega
  | n + 1, x, h0, h1 => by
    show (itC n x + 1) % 10007 = _
    rw [itC_val n x h0 h1]
    omega
theorem itC_add : ∀ (a b : Nat) (x : Int), itC a (itC b x) = itC (a + b) x
  | 0, b, x => by rw [Nat.zero_add]; rfl
  | a + 1, b, x => by
    rw [Nat.succ_add]
    show (itC a (itC b x) + 1) % 10007 = (itC (a + b) x + 1) % 10007
    rw [itC_add]
def cntT (v : Nat) : List DInfo := [⟨0, .again (.num (v : Nat)), [[1]]⟩, ⟨0, .put 0 (.bin .add (.cell 0) (.num 1)), []⟩]
def cntE (v : Nat) : Env := ⟨cntT v, [[0]], [0], 1⟩
theorem cntE_eq (more v : Nat) (hs : List Nat) : (countP more v hs).env = cntE v := rfl
theorem next_T (v u : Nat) (b : Blk) : (b.next (cntT v) = none ∧ b.next (cntT u) = none) ∨ (b.next (cntT v) = some (0, ⟨0, .again (.num (v : Nat)), [[1]]⟩) ∧ b.next (cntT u) = some (0, ⟨0, .again (.num (u : Nat)), [[1]]⟩)) ∨
    (b.next (cntT v) = some (1, ⟨0, .put 0 (.bin .add (.cell 0) (.num 1)), []⟩) ∧ b.next (cntT u) = some (1, ⟨0, .put 0 (.bin .add (.cell 0) (.num 1)), []⟩)) := by
  unfold Blk.next
  cases b.pl[b.at_]? with
  | none => exact .inl ⟨rfl, rfl⟩
  | some p =>
    match p with
    | 0 => exact .inr (.inl ⟨rfl, rfl⟩)
    | 1 => exact .inr (.inr ⟨rfl, rfl⟩)
    | p + 2 => exact .inl ⟨rfl, rfl⟩
theorem deed_T (v u : Nat) (f : Frm) : (f.deed (cntT v) = none ∧ f.deed (cntT u) = none) ∨ (f.deed (cntT v) = some (0, ⟨0, .again (.num (v : Nat)), [[1]]⟩) ∧ f.deed (cntT u) = some (0, ⟨0, .again (.num (u : Nat)), [[1]]⟩)) ∨
    (f.deed (cntT v) = some (1, ⟨0, .put 0 (.bin .add (.cell 0) (.num 1)), []⟩) ∧ f.deed (cntT u) = some (1, ⟨0, .put 0 (.bin .add (.cell 0) (.num 1)), []⟩)) := by
  unfold Frm.deed
  cases f.bs with
  | nil => exact .inl ⟨rfl, rfl⟩
  | cons b bs => exact next_T v u b
theorem back_T (v : Nat) (x : Int) (f : Frm) : f.back (cntT v) x = f := by
  unfold Frm.back
  rcases deed_T v v f with ⟨h, _⟩ | ⟨h, _⟩ | ⟨h, _⟩ <;> rw [h]
theorem settleC_T (v u : Nat) : ∀ (cs : List Frm) (f : Frm), settleC (cntT v) f cs = settleC (cntT u) f cs
  | [], f => rfl
  | c :: cs, f => by
    unfold settleC
    rw [back_T, back_T, settleC_T v u cs]
theorem settleH_T (v u : Nat) (fs : List Frm) : settleH (cntT v) fs = settleH (cntT u) fs := by
  cases fs with
  | nil => rfl
  | cons f fs => exact settleC_T v u fs f
theorem seek_held (h : List (List Frm)) (c c' : List Int) (s : List (Nat × Int)) (u : Nat) : ∀ (k j : Nat), (⟨h, c, s, u⟩ : Mch).seek k j = (⟨h, c', s, u⟩ : Mch).seek k j
  | 0, j => rfl
  | k + 1, j => by
    unfold Mch.seek
    rw [seek_held h c c' s u k (j + 1)]
    rfl
theorem next_held (h : List (List Frm)) (c c' : List Int) (s : List (Nat × Int)) (u : Nat) : (⟨h, c, s, u⟩ : Mch).next = (⟨h, c', s, u⟩ : Mch).next := seek_held h c c' s u _ _
theorem mod10 {v t : Nat} (h : v % 10 = t % 10) : (((v : Nat) : Int) % 10).toNat = (((t : Nat) : Int) % 10).toNat := by omega
theorem step_T (t : Nat) (m : Mch) : ∃ (b : Bool) (h' : List (List Frm)) (u' : Nat), ∀ (c : Int) (v : Nat), v % 10 = t % 10 → (⟨m.hands, [c], m.said, m.up⟩ : Mch).doNext (cntE v) = ⟨h', [if b then (c + 1) % 10007 else c], m.said, u'⟩ := by
  have nx : ∀ c : Int, (⟨m.hands, [c], m.said, m.up⟩ : Mch).next = (⟨m.hands, [0], m.said, m.up⟩ : Mch).next := fun c => next_held ..
  cases en : (⟨m.hands, [0], m.said, m.up⟩ : Mch).next with
  | none =>
    refine ⟨false, m.hands, m.up, fun c v hv => ?_⟩
    unfold Mch.doNext
    rw [nx, en]
    rfl
  | some k =>
    have st : ∀ c : Int, (⟨m.hands, [c], m.said, m.up⟩ : Mch).stk k = m.hands.getD k [] := fun c => rfl
    cases es : m.hands.getD k [] with
    | nil =>
      refine ⟨false, m.hands, m.up, fun c v hv => ?_⟩
      unfold Mch.doNext
      rw [nx, en]
      dsimp only
      rw [st, es]
      rfl
    | cons f fs =>
      rcases deed_T t t f with ⟨h, _⟩ | ⟨h, _⟩ | ⟨h, _⟩
      · refine ⟨false, m.hands, m.up, fun c v hv => ?_⟩
        have hv' : f.deed (cntE v).tbl = none := by
          rcases deed_T v t f with ⟨a, b⟩ | ⟨a, b⟩ | ⟨a, b⟩
          · exact a
          · rw [h] at b; cases b
          · rw [h] at b; cases b
        unfold Mch.doNext
        rw [nx, en]
        dsimp only
        rw [st, es]
        dsimp only
        rw [hv']
        rfl
      · refine ⟨false, m.hands.set k (settleH (cntT t) (chooseM [0] ⟨0, .again (.num (t : Nat)), [[1]]⟩ f :: fs)), (k + 1) % m.hands.length, fun c v hv => ?_⟩
        have hv' : f.deed (cntE v).tbl = some (0, ⟨0, .again (.num (v : Nat)), [[1]]⟩) := by
          rcases deed_T v t f with ⟨a, b⟩ | ⟨a, b⟩ | ⟨a, b⟩
          · rw [h] at b; cases b
          · exact a
          · rw [h] at b; cases b
        unfold Mch.doNext
        rw [nx, en]
        dsimp only
        rw [st, es]
        dsimp only
        rw [hv']
        have ec : chooseM [c] ⟨0, .again (.num (v : Nat)), [[1]]⟩ f = chooseM [0] ⟨0, .again (.num (t : Nat)), [[1]]⟩ f := by
          show f.moveOn.enter [1] ((((v : Nat) : Int) % 10).toNat) = f.moveOn.enter [1] ((((t : Nat) : Int) % 10).toNat)
          rw [mod10 hv]
        show Mch.mk (m.hands.set k (settleH (cntT v) (chooseM [c] ⟨0, .again (.num (v : Nat)), [[1]]⟩ f :: fs))) [c] m.said ((k + 1) % m.hands.length) = _
        rw [ec, settleH_T v t]
        rfl
      · refine ⟨true, m.hands.set k (settleH (cntT t) (f.moveOn :: fs)), (k + 1) % m.hands.length, fun c v hv => ?_⟩
        have hv' : f.deed (cntE v).tbl = some (1, ⟨0, .put 0 (.bin .add (.cell 0) (.num 1)), []⟩) := by
          rcases deed_T v t f with ⟨a, b⟩ | ⟨a, b⟩ | ⟨a, b⟩
          · rw [h] at b; cases b
          · rw [h] at b; cases b
          · exact a
        unfold Mch.doNext
        rw [nx, en]
        dsimp only
        rw [st, es]
        dsimp only
        rw [hv']
        show Mch.mk (m.hands.set k (settleH (cntT v) (f.moveOn :: fs))) [(c + 1) % 10007] m.said ((k + 1) % m.hands.length) = _
        rw [settleH_T v t]
        rfl
theorem run_T (t : Nat) : ∀ (n : Nat) (m : Mch), ∃ (k : Nat) (h' : List (List Frm)) (u' d : Nat), ∀ (c : Int) (v : Nat), v % 10 = t % 10 → runM (cntE v) n ⟨m.hands, [c], m.said, m.up⟩ = (⟨h', [itC k c], m.said, u'⟩, d)
  | 0, m => ⟨0, m.hands, m.up, 0, fun c v hv => rfl⟩
  | n + 1, m => by
    have nx : ∀ c : Int, (⟨m.hands, [c], m.said, m.up⟩ : Mch).next = (⟨m.hands, [0], m.said, m.up⟩ : Mch).next := fun c => next_held ..
    cases en : (⟨m.hands, [0], m.said, m.up⟩ : Mch).next with
    | none => exact ⟨0, m.hands, m.up, 0, fun c v hv => runM_none (by rw [nx, en]) _⟩
    | some j =>
      obtain ⟨b, h1, u1, hs⟩ := step_T t m
      obtain ⟨k, h2, u2, d, hr⟩ := run_T t n ⟨h1, [0], m.said, u1⟩
      refine ⟨k + (if b then 1 else 0), h2, u2, d + 1, fun c v hv => ?_⟩
      rw [runM_some (by rw [nx, en]), hs c v hv]
      have := hr (if b then (c + 1) % 10007 else c) v hv
      dsimp only at this
      rw [this]
      dsimp only
      have e : itC k (if b = true then (c + 1) % 10007 else c) = itC (k + (if b = true then 1 else 0)) c := by
        cases b
        · rfl
        · exact itC_add k 1 c
      rw [e]
theorem count_dec : ∀ t, t < 10 → ∀ h, h < 3 → (runM (cntE t) 2000 (countP 0 t (List.replicate (h + 1) 0)).start).1.held = [((t * (h + 1) : Nat) : Int)] := by decide +kernel
theorem start_T (more v t : Nat) (hs : List Nat) : (countP more v hs).start = ⟨(countP 0 t hs).start.hands, [(more : Int)], [], 0⟩ := by
  unfold Prog.start
  congr 1
theorem count_held (more v h : Nat) (hm : more < 10007) (hh : h < 3) : (runM (countP more v (List.replicate (h + 1) 0)).env 2000 (countP more v (List.replicate (h + 1) 0)).start).1.held = [(((more : Nat) : Int) + ((v % 10 : Nat) : Int) * ((h + 1 : Nat) : Int)) % 10007] := by
  have ht : v % 10 < 10 := Nat.mod_lt _ (by decide)
  have hd := count_dec (v % 10) ht h hh
  obtain ⟨k, h', u', d, hr⟩ := run_T (v % 10) 2000 (countP 0 (v % 10) (List.replicate (h + 1) 0)).start
  have h1 := hr 0 (v % 10) rfl
  have e0 : (⟨(countP 0 (v % 10) (List.replicate (h + 1) 0)).start.hands, [0], (countP 0 (v % 10) (List.replicate (h + 1) 0)).start.said, (countP 0 (v % 10) (List.replicate (h + 1) 0)).start.up⟩ : Mch) = (countP 0 (v % 10) (List.replicate (h + 1) 0)).start := rfl
  rw [e0] at h1
  rw [h1] at hd
  have hk : itC k 0 = ((v % 10 * (h + 1) : Nat) : Int) := by
    have : [itC k 0] = [((v % 10 * (h + 1) : Nat) : Int)] := hd
    simpa using this
  rw [itC_val k 0 (by decide) (by decide)] at hk
  have h2 := hr (more : Int) v (by omega)
  rw [cntE_eq, start_T more v (v % 10)]
  have h3 : runM (cntE v) 2000 ⟨(countP 0 (v % 10) (List.replicate (h + 1) 0)).start.hands, [(more : Int)], [], 0⟩ = _ := h2
  rw [h3]
  show [itC k more] = _
  rw [itC_val k more (by omega) (by omega)]
  have e1 : ((v % 10 : Nat) : Int) * ((h + 1 : Nat) : Int) = ((v % 10 * (h + 1) : Nat) : Int) := by
    rw [Int.natCast_mul]
  rw [e1]
  have e2 : ((more : Int) + (k : Int)) % 10007 = ((more : Int) + ((v % 10 * (h + 1) : Nat) : Int)) % 10007 := by omega
  rw [e2]
end S
set_option Elab.async false
set_option linter.all false
set_option maxRecDepth 100000
set_option maxHeartbeats 1000000
namespace S
open PySem PySem.Spec PyProof.Rows L2
def GS.z (g : GS) : GS := ⟨g.n, 0, 0, .non, g.s⟩
theorem metI_z (ss : List GS) (k p : Nat) (ns cs : List Int) : metI (ss.map GS.z) k p ns cs = metI ss k p ns cs := by
  unfold metI
  rw [List.filter_map, List.map_map]
  rfl
theorem stopV_z (d : Nat) (ss : List GS) (k p : Nat) (ns cs : List Int) : stopV d (ss.map GS.z) k p ns cs = stopV d ss k p ns cs := by
  unfold stopV
  rw [metI_z]
theorem endV_z (e : Env) (m : Mch) (ss : List GS) (n : Gn) : endV e m (ss.map GS.z) n = endV e m ss n := by
  unfold endV
  cases m.next with
  | none => rfl
  | some k =>
    dsimp only
    cases handOver m n.hand with
    | some j => rfl
    | none =>
      dsimp only
      cases m.stk k with
      | nil => rfl
      | cons f fs =>
        dsimp only
        cases f.deed e.tbl with
        | none => rfl
        | some pi =>
          dsimp only
          rw [stopV_z]
theorem goRun_z (e : Env) (ss : List GS) : ∀ (k : Nat) (m : Mch) (n : Gn), goRun e (ss.map GS.z) k m n = goRun e ss k m n
  | 0, m, n => rfl
  | k + 1, m, n => by
    unfold goRun
    rw [endV_z]
    cases endV e m ss n with
    | none => exact goRun_z e ss k _ _
    | some v => rfl
def gone (P : Prog) (ss : List GS) (n : Nat) : Mch × Gn := goRun P.env ss n P.start (Gn.new P.start none none n)
def waysS (l : Nat) : List GS := [⟨0, 0, 0, .non, ⟨3, some 0, some (.bin .same (.name 0) (.num (l : Nat)))⟩⟩]
def deepS : List GS := [⟨0, 0, 0, .non, ⟨5, none, some (.bin .same (.name 0) (.num 7))⟩⟩]
theorem ways_dec : ∀ l, l < 4 → endV (waysP 5).env (gone (waysP 5) (waysS l) 500).1 (waysS l) (gone (waysP 5) (waysS l) 500).2 = some (if l < 2 then [.str "stop", .int 0, .int 3, .int 0] else [.str "over"]) ∧
    (l < 2 → ((gone (waysP 5) (waysS l) 500).1.stk 0)[0]?.map (fun f => f.names[0]?) = some (some (l : Int))) := by decide +kernel
theorem deep_dec : endV (deepP 25).env (gone (deepP 25) deepS 500).1 deepS (gone (deepP 25) deepS 500).2 = some [.str "stop", .int 0, .int 5, .int 0] ∧ ((gone (deepP 25) deepS 500).1.stk 0).length = 20 := by decide +kernel
theorem ways_go {l : Nat} {ss : List GS} {m' : Mch} {n' : Gn} {xs : List V} (hl : l < 4) (hs : ss.map GS.z = waysS l) (h : goRun (waysP 5).env ss 500 (waysP 5).start (Gn.new (waysP 5).start none none 500) = (m', n')) (he : endV (waysP 5).env m' ss n' = some xs) :
    xs = (if l < 2 then [.str "stop", .int 0, .int 3, .int 0] else [.str "over"]) ∧ (l < 2 → ∃ f, (m'.stk 0)[0]? = some f ∧ f.names[0]? = some (l : Int)) := by
  rw [← goRun_z, hs] at h
  rw [← endV_z, hs] at he
  obtain ⟨h1, h2⟩ := ways_dec l hl
  have e : gone (waysP 5) (waysS l) 500 = (m', n') := h
  rw [e] at h1 h2
  rw [he] at h1
  refine ⟨Option.some.inj h1, fun hl2 => ?_⟩
  have h3 := h2 hl2
  dsimp only at h3
  cases ef : (m'.stk 0)[0]? with
  | none =>
    rw [ef] at h3
    cases h3
  | some f =>
    rw [ef] at h3
    exact ⟨f, rfl, Option.some.inj h3⟩
theorem deep_go {ss : List GS} {m' : Mch} {n' : Gn} {xs : List V} (hs : ss.map GS.z = deepS) (h : goRun (deepP 25).env ss 500 (deepP 25).start (Gn.new (deepP 25).start none none 500) = (m', n')) (he : endV (deepP 25).env m' ss n' = some xs) :
    xs = [.str "stop", .int 0, .int 5, .int 0] ∧ (m'.stk 0).length = 20 := by
  rw [← goRun_z, hs] at h
  rw [← endV_z, hs] at he
  obtain ⟨h1, h2⟩ := deep_dec
  have e : gone (deepP 25) deepS 500 = (m', n') := h
  rw [e] at h1 h2
  rw [he] at h1
  exact ⟨Option.some.inj h1, h2⟩
theorem next_ways : (waysP 5).start.next ≠ none := by decide +kernel
theorem next_deep : (deepP 25).start.next ≠ none := by decide +kernel
end S
set_option Elab.async false
set_option linter.all false
set_option maxRecDepth 100000
set_option maxHeartbeats 1000000
namespace S
open PySem PySem.Spec PyProof.Rows L2
instance decBlk : DecidableEq Blk := fun a b => decidable_of_iff (a.pl = b.pl ∧ a.at_ = b.at_ ∧ a.rounds = b.rounds) ⟨fun ⟨h1, h2, h3⟩ => by
  cases a
  cases b
  simp only at h1 h2 h3
  subst h1 h2 h3
  rfl, fun h => by
  subst h
  exact ⟨rfl, rfl, rfl⟩⟩
instance decFrm : DecidableEq Frm := fun a b => decidable_of_iff (a.fn = b.fn ∧ a.names = b.names ∧ a.bs = b.bs) ⟨fun ⟨h1, h2, h3⟩ => by
  cases a
  cases b
  simp only at h1 h2 h3
  subst h1 h2 h3
  rfl, fun h => by
  subst h
  exact ⟨rfl, rfl, rfl⟩⟩
instance decMch : DecidableEq Mch := fun a b => decidable_of_iff (a.hands = b.hands ∧ a.held = b.held ∧ a.said = b.said ∧ a.up = b.up) ⟨fun ⟨h1, h2, h3, h4⟩ => by
  cases a
  cases b
  simp only at h1 h2 h3 h4
  subst h1 h2 h3 h4
  rfl, fun h => by
  subst h
  exact ⟨rfl, rfl, rfl, rfl⟩⟩
def oneP (n : Nat) (hs : List Nat) : Prog := ⟨[0], [⟨0, 1, waysMain n⟩, ⟨1, 2, deepBody⟩, ⟨0, 0, countBody 9⟩], hs⟩
def hsOf (h : Nat) : List Nat := [0, 2, 2].take (h + 1)
theorem oneP_ok (n h : Nat) (hn : n < 10007) (hh : h < 3) : (oneP n (hsOf h)).Ok := by
  have three : ∀ f ∈ (oneP n (hsOf h)).funs, f = ⟨0, 1, waysMain n⟩ ∨ f = ⟨1, 2, deepBody⟩ ∨ f = ⟨0, 0, countBody 9⟩ := fun f hf => by simpa [oneP] using hf
  refine ⟨by simp [oneP], ?_, by simp [oneP], ?_, ?_, ?_, ?_, ?_, ?_⟩
  · intro i hi
    have : i = 0 := by simpa [oneP] using hi
    subst this
    decide
  · intro f hf
    rcases three f hf with rfl | rfl | rfl <;> simp
  · show 1 ≤ (hsOf h).length ∧ (hsOf h).length ≤ 3
    match h, hh with
    | 0, _ => decide
    | 1, _ => decide
    | 2, _ => decide
  · intro j hj
    have : j = 0 ∨ j = 2 := by
      have h1 : j ∈ [0, 2, 2] := List.mem_of_mem_take (show j ∈ hsOf h from hj)
      simp at h1
      omega
    rcases this with rfl | rfl
    · exact ⟨_, rfl, rfl⟩
    · exact ⟨_, rfl, rfl⟩
  · intro f hf
    rcases three f hf with rfl | rfl | rfl
    · simp [waysMain, oneP, Body.ok, Part.ok]
      omega
    · simp [deepBody, oneP, Body.ok, Part.ok]
    · simp [countBody, oneP, Body.ok, Part.ok]
  · simp [oneP, waysMain, deepBody, countBody, Body.things, Part.size]
  · intro f hf
    rcases three f hf with rfl | rfl | rfl <;> simp [waysMain, deepBody, countBody, Body.above, Part.deep]
def S18 : List GS := [⟨0, 0, 0, .non, ⟨3, some 0, none⟩⟩]
def goneX (P : Prog) (m : Mch) (n0 : Gn) : Mch × Option (List V) := ((goRun P.env S18 500 m n0).1, endV P.env (goRun P.env S18 500 m n0).1 S18 (goRun P.env S18 500 m n0).2)
def stepX (P : Prog) (m : Mch) (y : Way) : Mch × Option (List V) := goneX P m (Gn.new m (some 0) (some y) 500)
def goX (P : Prog) (m : Mch) : Mch × Option (List V) := goneX P m (Gn.new m none none 500)
def endX (many h : Nat) (m : Mch) : Bool := decide (m.said = [(0, ((5 + many : Nat) : Int))]) && decide (m.held = [((9 * h : Nat) : Int)])
def lastX (P : Prog) (many h : Nat) (m : Mch) (y : Way) : Bool := (decide ((stepX P m y).2 = some [.str "ended", .int 0]) || decide ((stepX P m y).2 = some [.str "over"])) && ((stepX P m y).1.stk 0).isEmpty &&
  (if (stepX P m y).1.next = none then endX many h (stepX P m y).1 else endX many h (goX P (stepX P m y).1).1 && (goX P (stepX P m y).1).2.isSome)
def finX (P : Prog) (many h : Nat) (m : Mch) : Bool := !(m.stk 0).isEmpty && (lastX P many h m .out && (lastX P many h m .over && lastX P many h m .in_))
def namesX (many k : Nat) : List Int := if 0 < k then [((many - k + 1 : Nat) : Int), ((5 + many - k : Nat) : Int)] else [((5 + many : Nat) : Int)]
def toldX (k : Nat) : List V := [.str "step", .int 0, .int (if 0 < k then 5 else 1)]
def loopX (P : Prog) (many h : Nat) : Nat → Mch → Bool
  | 0, m => finX P many h m
  | k + 1, m => let o := stepX P m .out
    !(m.stk 0).isEmpty && (decide (o.2 = some (toldX k)) && (decide ((o.1.stk 0).length = k + 1) && (decide ((o.1.stk 0)[0]?.map Frm.names = some (namesX many k)) && ((decide (k = many) || decide (stepX P m .over = o)) && loopX P many h k o.1))))
def chkX (many h : Nat) : Bool := let P := oneP many (hsOf h)
  let a := goX P P.start
  decide (P.start.next ≠ none) && (decide (a.2 = some [.str "stop", .int 0, .int 3, .int 0]) && (decide ((stackM P.env a.1 0).map Prod.snd = 3 :: (List.replicate many 4 ++ [0])) && loopX P many h (many + 1) a.1))
theorem chkX_all : ∀ many, many < 18 → ∀ h, h < 3 → chkX many h = true := by decide +kernel
end S
set_option Elab.async false
set_option linter.all false
set_option maxRecDepth 100000
set_option maxHeartbeats 1000000
namespace S
open PySem PySem.Spec PyProof.Rows L2
section
variable {K : PySem.W.Frag}
theorem sq_asgG {te : TE} {g : TG} {u : TS} {D : Ends} {σ : L2.St} {H : Hp} (h : te σ H fun v H1 => g v σ H1 (u D)) : tSeq (tAsg te g) u D σ H := h
theorem sq_par {i j : Nat} {ta : TA} {u : TS} {D : Ends} {σ : L2.St} {H : Hp} (h : ta σ H fun vs H1 => ∃ v w, vs = [v, w] ∧ u D ((σ.set i (some v)).set j (some w)) H1) : tSeq (tPar i j ta) u D σ H := h
def LS (K : PySem.W.Frag) (F : Hp) (s : Addr) (xs : List Int) (d : Addr) (r : Reg) (H : Hp) : Prop := SqL K F s (xs.map V.int) ∧ xs.length ≤ 64 ∧ ∃ at_ mix rest : Int, DiceOk at_ mix rest ∧ Sat F ((d, diceO s at_ mix rest) :: r) H
variable {F F' H H' : Hp} {s d : Addr} {xs : List Int} {r : Reg}
theorem keeps_LS : Keeps fun F H => LS K F s xs d r H :=
  ⟨fun _ _ ⟨_, _, _, _, _, _, w⟩ => w.fr, fun _ _ p o ⟨h1, h2, a, m, e, h3, w⟩ hp => ⟨same_seqL (same_new (w.fr.free hp)) h1, h2, a, m, e, h3, w.keep hp⟩⟩
theorem LS.of_dice (D : DiceAt K F s xs d H) : LS K F s xs d [] H := let ⟨a, m, e, h1, h2, h3, w⟩ := D; ⟨h1, h2, a, m, e, h3, w⟩
theorem LS.next {Q : VK} {E : XK} {many : Int} (L : LS K F s xs d r H) (m0 : 0 < many) (m1 : many < 1073741824) (q : ∀ (i : Nat) H', (i : Int) < many → LS K F s xs d r H' → Q (.int (i : Nat)) H') : sp__law_next K [.ref d, .int many] H Q E := by
  obtain ⟨h1, h2, a, m, e, h3, w⟩ := L
  have w1 : Sat F (r ++ [(d, diceO s a m e)]) H := w.perm (by (refine perm_sum fun f => ?_; simp only [List.map_append, List.map_cons, List.map_nil, List.sum_append, List.sum_cons, List.sum_nil]; omega))
  refine ⟨addR F r, s, xs, d, many, rfl, ⟨a, m, e, same_seqL (same_addR w1.init.off) h1, h2, h3, w1.focus⟩, m0, m1, fun i H' i0 i1 D => ?_⟩
  obtain ⟨a', m', e', _, _, h3', w'⟩ := D
  have w2 := (w1.unfocus w').perm (r1 := (d, diceO s a' m' e') :: r) (by (refine perm_sum fun f => ?_; simp only [List.map_append, List.map_cons, List.map_nil, List.sum_append, List.sum_cons, List.sum_nil]; omega))
  obtain ⟨k, hk⟩ : ∃ k : Nat, i = (k : Int) := ⟨i.toNat, by omega⟩
  subst hk
  exact q k H' i1 ⟨h1, h2, a', m', e', h3', w2⟩
theorem LS.nextC {td tm : TE} {σ : L2.St} {Q : VK} (many : Int) (L : LS K F s xs d r H) (h0 : Val td σ H (.ref d)) (h1 : Val tm σ H (.int many)) (m0 : 0 < many) (m1 : many < 1073741824) (q : ∀ (i : Nat) H', (i : Int) < many → LS K F s xs d r H' → Q (.int (i : Nat)) H') : tCall (sp__law_next K) [] E0 (tCons td (tCons tm tNil)) σ H Q :=
  call_args (args_cons (h0 _ (args_cons (h1 _ (args_nil (L.next m0 m1 q))))))
theorem LS.frozen (L : LS K F s xs d r H) : ∃ R : Hp, Same F R ∧ Sat R [] H ∧ ∀ (new : Reg) (H' : Hp), Sat R new H' → LS K F s xs d (r ++ new) H' := by
  obtain ⟨h1, h2, a, m, e, h3, w⟩ := L
  have w1 : Sat F (((d, diceO s a m e) :: r) ++ []) H := by rw [List.append_nil]; exact w
  exact ⟨_, same_addR w1.init.off, w1.focus, fun new H' w' => ⟨h1, h2, a, m, e, h3, w1.unfocus w'⟩⟩
theorem LS.open (L : LS K F s xs d r H) : ∃ R : Hp, Same F R ∧ Sat R r H ∧ ∀ (r' : Reg) (H' : Hp), Sat R r' H' → LS K F s xs d r' H' := by
  obtain ⟨h1, h2, a, m, e, h3, w⟩ := L
  have w1 : Sat F ([(d, diceO s a m e)] ++ r) H := w
  exact ⟨_, same_addR w1.init.off, w1.focus, fun r' H' w' => ⟨h1, h2, a, m, e, h3, w1.unfocus w'⟩⟩
theorem LS.fr (L : LS K F s xs d r H) : Same F H := keeps_LS.fr _ _ L
theorem LS.drop {r1 r2 : Reg} (L : LS K F s xs d (r1 ++ r2) H) : LS K F s xs d r1 H := by
  obtain ⟨h1, h2, a, m, e, h3, w⟩ := L
  have w1 : Sat F (((d, diceO s a m e) :: r1) ++ r2) H := w
  exact ⟨h1, h2, a, m, e, h3, w1.init⟩
theorem LS.dropL {r1 r2 : Reg} (L : LS K F s xs d (r1 ++ r2) H) : LS K F s xs d r2 H := by
  obtain ⟨h1, h2, a, m, e, h3, w⟩ := L
  have w1 : Sat F (r1 ++ ((d, diceO s a m e) :: r2)) H := w.perm (by (refine perm_sum fun f => ?_; simp only [List.map_append, List.map_cons, List.map_nil, List.sum_append, List.sum_cons, List.sum_nil]; omega))
  exact ⟨h1, h2, a, m, e, h3, w1.tail⟩
theorem LS.keep {p : Addr} {o : HO} (L : LS K F s xs d r H) (hp : H p = none) : LS K (upd F p o) s xs d r (upd H p o) := keeps_LS.keep F H p o L hp
theorem LS.grow (L : LS K F s xs d r H) (e : Same H H') : LS K F s xs d r H' := let ⟨h1, h2, a, m, x, h3, w⟩ := L; ⟨h1, h2, a, m, x, h3, w.grow e⟩
theorem LS.sub {p : Addr} {o : HO} (L : LS K F s xs d r H) (hp : H p = none) : Same F (upd F p o) := same_new (L.fr.free hp)
theorem make_watched {σ : L2.St} {te : TE} {P : Prog} {Q : VK} (L : LS K F s xs d r H) (b : BV te σ (fun F H => LS K F s xs d r H) F (IsProg K P)) (ok : P.Ok)
    (q : ∀ (F' G : Hp) (da : Nat → Addr) (w : GW) (H' : Hp), Same F F' → w.ss = [] → w.n = 0 → w.g.m = P.start → WOk K F' G da P w → LS K F' s xs d (w.reg K ++ r) H' → Q (.ref w.a) H') : tMake (He.ga K "Watched") (sp_Watched_init K) [] E0 (tCons te tNil) σ H Q := by
  refine b F H _ (Same.refl _) L ?_
  rintro F1 H1 v e1 ⟨h1, h2, a, m, e, h3, w⟩ ⟨pa, rfl, hP⟩
  refine args_nil ?_
  intro x dx hx hdx ne
  have w1 := w.make (o := .ins (He.ga K "Watched") dx []) (u := .own x) hx hdx ne
  refine ⟨F1, x, dx, pa, P, _, rfl, w1, hP, ok, fun F' G da gw H' e2 ea ess en em o sat => ⟨rfl, ?_⟩⟩
  rw [← ea]
  exact q F' G da gw H' (e1.trans e2) ess en em o ⟨same_seqL e2 h1, h2, a, m, e, h3, sat.perm (by (refine perm_sum fun f => ?_; simp only [List.map_append, List.map_cons, List.map_nil, List.sum_append, List.sum_cons, List.sum_nil]; omega))⟩
end
end S
set_option Elab.async false
set_option linter.all false
set_option maxRecDepth 100000
set_option maxHeartbeats 1000000
namespace S
open PySem PySem.Spec PyProof.Rows L2
section
variable {K : PySem.W.Frag}
variable {F F' H H' : Hp} {s d : Addr} {xs : List Int} {r : Reg}
def sp_builds' (K : PySem.W.Frag) (R : Nat → Prop) (P : Nat → Prog) : Sp := fun vs H Q _ => ∃ (n : Nat) (I : Hp → Hp → Prop) (F : Hp), vs = [.int (n : Nat)] ∧ R n ∧ Keeps I ∧ I F H ∧ ∀ (F' H' : Hp) (a : Addr), Same F F' → I F' H' → ProgAt K F' a (P n) → Q (.ref a) H'
theorem LS.plain {te : TE} {σ : L2.St} {P : Prog} {n : Nat} {Q : VK} (L : LS K F s xs d r H) (b : BV te σ (fun F H => LS K F s xs d r H) F (IsProg K P)) (ok : P.Ok) (hn : n ≤ 2000)
    (q : ∀ (F' : Hp) (t sp he : Addr) (ts : List Addr) (H' : Hp), Same F F' → ts.length = (runM P.env n P.start).1.said.length →
      LS K F' s xs d (r ++ ((t, .tup [.ref sp, .ref he, .bl (runM P.env n P.start).1.next.isNone, .int ((runM P.env n P.start).2 : Nat)]) :: (sp, .lst (ts.map V.ref)) :: (he, .lst ((runM P.env n P.start).1.held.map V.int)) :: saidR ts (runM P.env n P.start).1.said)) H' → Q (.ref t) H') :
    tCall (sp_plain K) [] E0 (tCons te (tCons (tC (.int (n : Nat))) tNil)) σ H Q := by
  refine call_args (args_cons (b F H _ (Same.refl _) L ?_))
  rintro F1 H1 v e1 L1 ⟨pa, rfl, hP⟩
  refine args_cons (val_c _ (args_nil ?_))
  obtain ⟨R, eR, s1, un⟩ := L1.frozen
  refine ⟨R, pa, P, n, rfl, s1.fr, hP.mono eR, ok, hn, fun t sp he ts H' => ?_⟩
  intro m hts w
  exact q F1 t sp he ts H' e1 hts (un _ _ w)
theorem LS.plainX {ι : Type} {R : ι → Prop} {P : ι → Prog} {te : TE} {σ : L2.St} {n : Nat} {Q : VK} (L : LS K F s xs d r H) (b : BV te σ (fun F H => LS K F s xs d r H) F (fun F v => ∃ i, R i ∧ IsProg K (P i) F v)) (ok : ∀ i, R i → (P i).Ok) (hn : n ≤ 2000)
    (q : ∀ (i : ι) (F' : Hp) (t sp he : Addr) (ts : List Addr) (H' : Hp), R i → Same F F' → ts.length = (runM (P i).env n (P i).start).1.said.length →
      LS K F' s xs d (r ++ ((t, .tup [.ref sp, .ref he, .bl (runM (P i).env n (P i).start).1.next.isNone, .int ((runM (P i).env n (P i).start).2 : Nat)]) :: (sp, .lst (ts.map V.ref)) :: (he, .lst ((runM (P i).env n (P i).start).1.held.map V.int)) :: saidR ts (runM (P i).env n (P i).start).1.said)) H' → Q (.ref t) H') :
    tCall (sp_plain K) [] E0 (tCons te (tCons (tC (.int (n : Nat))) tNil)) σ H Q := by
  refine call_args (args_cons (b F H _ (Same.refl _) L ?_))
  rintro F1 H1 v e1 L1 ⟨i, hi, pa, rfl, hP⟩
  refine args_cons (val_c _ (args_nil ?_))
  obtain ⟨R, eR, s1, un⟩ := L1.frozen
  refine ⟨R, pa, P i, n, rfl, s1.fr, hP.mono eR, ok i hi, hn, fun t sp he ts H' => ?_⟩
  intro m hts w
  exact q i F1 t sp he ts H' hi e1 hts (un _ _ w)
theorem bv_progX {ι : Type} {R : ι → Prop} {hs : ι → List Nat} {cells : List Int} {funs : List Fn} {σ : L2.St} {I : Hp → Hp → Prop} {F0 : Hp} {t1 t2 t3 : TE} (k : Keeps I) (h1 : BV t1 σ I F0 (IsInts K cells)) (h2 : BV t2 σ I F0 (IsFns K funs)) (h3 : BV t3 σ I F0 (fun F v => ∃ i, R i ∧ IsInts K ((hs i).map fun h : Nat => (h : Int)) F v)) :
    BV (tTup (tCons t1 (tCons t2 (tCons t3 tNil)))) σ I F0 (fun F v => ∃ i, R i ∧ IsProg K ⟨cells, funs, hs i⟩ F v) := by
  refine bv_tup (DD := fun F xs => ∃ i, R i ∧ ∃ ca fa ha fs, xs = [.ref ca, .ref fa, .ref ha] ∧ SqT K F ca (cells.map V.int) ∧ SqT K F fa fs ∧ FnsAt K F fs funs ∧ SqT K F ha ((hs i).map fun h => V.int (h : Nat))) K k
    (ba_cons (D2 := fun F xs => ∃ i, R i ∧ ∃ fa ha fs, xs = [.ref fa, .ref ha] ∧ SqT K F fa fs ∧ FnsAt K F fs funs ∧ SqT K F ha ((hs i).map fun h => V.int (h : Nat))) h1 mono_ints
      (ba_cons (D2 := fun F xs => ∃ i, R i ∧ ∃ ha, xs = [.ref ha] ∧ SqT K F ha ((hs i).map fun h => V.int (h : Nat))) h2 mono_fns (ba_cons (D2 := fun F xs => xs = []) h3 (fun F F' v e ⟨i, hi, h⟩ => ⟨i, hi, mono_ints F F' v e h⟩) (ba_nil fun _ => rfl) ?_) ?_) ?_) ?_ ?_ ?_
  · rintro F v vs ⟨i, hi, ha, rfl, h⟩ rfl
    exact ⟨i, hi, ha, rfl, by rw [List.map_map] at h; exact h⟩
  · rintro F v vs ⟨fa, fs, rfl, h1, h2⟩ ⟨i, hi, ha, rfl, h'⟩
    exact ⟨i, hi, fa, ha, fs, rfl, h1, h2, h'⟩
  · rintro F v vs ⟨ca, rfl, h⟩ ⟨i, hi, fa, ha, fs, rfl, h1, h2, h'⟩
    exact ⟨i, hi, ca, fa, ha, fs, rfl, h, h1, h2, h'⟩
  · rintro F F' v e ⟨i, hi, ca, fa, ha, fs, rfl, h, h1, h2, h'⟩
    exact ⟨i, hi, ca, fa, ha, fs, rfl, same_seqT e h, same_seqT e h1, h2.mono e, same_seqT e h'⟩
  · rintro F vs ⟨i, hi, ca, fa, ha, fs, rfl, h⟩
    show 3 ≤ 1000
    decide
  · rintro F p xs hs' ⟨i, hi, ca, fa, ha, fs, rfl, h, h1, h2, h'⟩
    exact ⟨i, hi, p, rfl, ⟨ca, fa, ha, fs, hs', h, h1, h2, h'⟩⟩
theorem bv_call_ {te : TE} {σ : L2.St} {sp : Sp} {D : Hp → V → Prop} {I : Hp → Hp → Prop} {F0 : Hp} {v : V} (h : ∀ (F H : Hp), Same F0 F → I F H → Val te σ H v) (c : ∀ (F H : Hp) (Q : VK), Same F0 F → I F H → (∀ F' H' v, Same F F' → I F' H' → D F' v → Q v H') → sp [v] H Q E0) : BV (tCall sp [] E0 (tCons te tNil)) σ I F0 D :=
  fun F H Q e i q => call_args (args_cons (h F H e i _ (args_nil (c F H Q e i q))))
theorem ne_said {σ : L2.St} {H : Hp} {ta tb : TE} {a b : Addr} {i j : Int} {ys zs : List V} {Q : VK} (ha : Val ta σ H (.ref a)) (h1 : SqL K H a ys) (y1 : DpAll K H ys [.tuple [.int i, .int j]])
    (hb : ∀ Q : VK, (∀ b H', Same H H' → SqL K H' b zs → DpAll K H' zs [.tuple [.int i, .int j]] → Q (.ref b) H') → tb σ H Q) (mono : ∀ H', Same H H' → SqL K H' a ys ∧ DpAll K H' ys [.tuple [.int i, .int j]]) (q : ∀ H', Same H H' → Q (.bl false) H') : tOp (rNeD K) ta tb σ H Q := by
  refine ha _ (hb _ fun b H' e h2 y2 => ?_)
  obtain ⟨m1, m2⟩ := mono H' e
  refine ⟨.list [.tuple [.int i, .int j]], .list [.tuple [.int i, .int j]], .lst m1 m2, .lst h2 y2, by rfl, by rfl, ?_⟩
  have ev : PyData.eqv (.list [.tuple [.int i, .int j]]) (.list [.tuple [.int i, .int j]]) = true := by simp [PyData.eqv, PyData.eqvAll]
  rw [ev]
  exact q H' e
theorem WOk.rebase {R G : Hp} {da : Nat → Addr} {P : Prog} {w w' : GW} (h : WOk K R G da P w') (o : WOk K F G da P w) (e : w'.pa = w.pa) (hw : ∀ g ∈ w'.ss, WishAt K F g.wv g.s.wish) : WOk K F G da P w' :=
  ⟨o.sub, h.env, h.wf, by rw [e]; exact o.prog, h.ok, h.mok, h.nh, hw, h.wok, h.ns, h.many⟩
theorem WishAt.mono {R : Hp} {v : V} {q : Option Part} (e : Same F R) (h : WishAt K F v q) : WishAt K R v q := by
  cases q with
  | none => exact h
  | some p =>
    obtain ⟨a, e1, e2⟩ := h
    exact ⟨a, e1, e2.mono e⟩
variable {G : Hp} {da : Nat → Addr} {P : Prog} {w : GW} {σ : L2.St} {tw ta tb tc : TE} {Q : VK}
theorem LS.get {a : Addr} {o : HO} (L : LS K F s xs d r H) (h : (a, o) ∈ r) : H a = some o := let ⟨_, _, _, _, _, _, w⟩ := L; w.get (List.mem_cons_of_mem _ h)
theorem LS.stop {p : Nat} {hand : Option Nat} {wish : Option Part} {i : DInfo} (L : LS K F s xs d (w.reg K) H) (o : WOk K F G da P w) (hw : ∀ H, Val tw σ H (.ref w.a)) (h1 : ∀ H, Val ta σ H (.int (p : Nat))) (h2 : ∀ H, Val tb σ H (optI hand))
    (b : BV tc σ (fun F H => LS K F s xs d (w.reg K) H) F (fun F v => WishAt K F v wish)) (hi : P.env.tbl[p]? = some i) (hh : ∀ k ∈ hand, k < P.hands.length) (hok : ∀ q ∈ wish, P.env.part i.fn q) (hlen : w.ss.length < 20)
    (q : ∀ (F' : Hp) (w' : GW) (H' : Hp) (x dx : Addr) (wv : V), Same F F' → w'.a = w.a → w'.g = w.g → w'.n = w.n + 1 → w'.ss = w.ss ++ [⟨w.n, x, dx, wv, ⟨p, hand, wish⟩⟩] → WOk K F' G da P w' → LS K F' s xs d (w'.reg K) H' → Q (.int (w.n : Nat)) H') :
    tMeth (He.ga K "Watched") "stop" (sp_Watched_stop K) [] E0 tw (tCons ta (tCons tb (tCons tc tNil))) σ H Q := by
  refine hw H _ ⟨w.a, w.dx, _, rfl, L.get regW_self, rfl, args_cons (h1 H _ (args_cons (h2 H _ (args_cons (b F H _ (Same.refl _) L ?_)))))⟩
  intro F1 H1 v e1 L1 hv
  refine args_nil ?_
  obtain ⟨R, eR, s1, un⟩ := L1.open
  have o1 := o.base e1
  refine ⟨R, G, da, P, w, ⟨p, hand, wish⟩, v, i, rfl, o1.base eR, s1, hi, hh, hv.mono eR, hok, hlen, fun w' H' x dx ea ep eg en es o' s' => ?_⟩
  refine q F1 w' H' x dx v e1 ea eg en es (o'.rebase o1 ep fun g hg => ?_) (un _ _ s')
  rw [es] at hg
  rcases List.mem_append.mp hg with z | z
  · exact o1.wish g z
  · have : g = ⟨w.n, x, dx, v, ⟨p, hand, wish⟩⟩ := by simpa using z
    rw [this]
    exact hv
def GoneTo (K : PySem.W.Frag) (F : Hp) (s : Addr) (xs : List Int) (d : Addr) (G : Hp) (da : Nat → Addr) (P : Prog) (w : GW) (n0 : Gn) (B : Nat) (Q : VK) : Prop := ∀ (F' : Hp) (w' : GW) (n' : Gn) (ys : List V) (t : Addr) (H' : Hp), Same F F' → w'.a = w.a → w'.n = w.n → w'.ss = w.ss →
  goRun P.env w.ss n0.many w.g.m n0 = (w'.g.m, n') → endV P.env w'.g.m w.ss n' = some ys → w'.g.m.Big (B + n0.many) → WOk K F' G da P w' → LS K F' s xs d (w'.reg K) H' → F' t = some (.tup ys) → Q (.ref t) H'
theorem LS.gone {n0 : Gn} {B : Nat} (L : LS K F s xs d (w.reg K) H) (o : WOk K F G da P w) (z : n0.done = 0) (q : GoneTo K F s xs d G da P w n0 B Q) : ∃ R : Hp, WOk K R G da P w ∧ Sat R (w.reg K) H ∧ EndedAt K R G da P w n0 B Q := by
  obtain ⟨R, eR, s1, un⟩ := L.open
  refine ⟨R, o.base eR, s1, fun w' n' ys t H0 ea ep en es er ee big o' s' ht => ?_⟩
  rw [z, Nat.sub_zero] at er big
  have L1 := un _ _ s'
  refine q (upd F t (.tup ys)) w' n' ys t _ (L1.sub ht) ea en es er ee big ((o'.rebase o ep fun g hg => ?_).base (L1.sub ht)) (L1.keep ht) upd_same
  rw [es] at hg
  exact o.wish g hg
theorem LS.go {n B : Nat} (L : LS K F s xs d (w.reg K) H) (o : WOk K F G da P w) (hw : ∀ H, Val tw σ H (.ref w.a)) (hv : ∀ H, Val ta σ H (.int (n : Nat))) (hn : n ≤ 2000) (hx : w.g.m.next ≠ none) (big : w.g.m.Big B) (hB : B + n ≤ 15000000)
    (q : GoneTo K F s xs d G da P w (Gn.new w.g.m none none n) B Q) : tMeth (He.ga K "Watched") "go" (sp_Watched_go K) [] E0 tw (tCons ta tNil) σ H Q := by
  obtain ⟨R, o1, s1, q1⟩ := L.gone o rfl q
  exact hw H _ ⟨w.a, w.dx, _, rfl, L.get regW_self, rfl, args_cons (hv H _ (args_nil ⟨R, G, da, P, w, n, B, rfl, o1, s1, hn, hx, big, hB, q1⟩))⟩
theorem LS.step {k n B : Nat} {y : Way} (L : LS K F s xs d (w.reg K) H) (o : WOk K F G da P w) (hw : ∀ H, Val tw σ H (.ref w.a)) (h1 : ∀ H, Val ta σ H (.int (k : Nat))) (h2 : ∀ H, Val tb σ H (.str y.str)) (hv : ∀ H, Val tc σ H (.int (n : Nat))) (hn : n ≤ 2000) (hk : k < P.hands.length) (hst : w.g.m.stk k ≠ [])
    (big : w.g.m.Big B) (hB : B + n ≤ 15000000) (q : GoneTo K F s xs d G da P w (Gn.new w.g.m (some k) (some y) n) B Q) : tMeth (He.ga K "Watched") "step" (sp_Watched_step K) [] E0 tw (tCons ta (tCons tb (tCons tc tNil))) σ H Q := by
  obtain ⟨R, o1, s1, q1⟩ := L.gone o rfl q
  exact hw H _ ⟨w.a, w.dx, _, rfl, L.get regW_self, rfl, args_cons (h1 H _ (args_cons (h2 H _ (args_cons (hv H _ (args_nil ⟨R, G, da, P, w, k, y, n, B, rfl, o1, s1, hn, hk, hst, big, hB, q1⟩))))))⟩
theorem LS.look {k e : Nat} {f : Frm} (L : LS K F s xs d (w.reg K) H) (hw : ∀ H, Val tw σ H (.ref w.a)) (h1 : ∀ H, Val ta σ H (.int (k : Nat))) (h2 : ∀ H, Val tb σ H (.int (e : Nat))) (hf : (w.g.m.stk k)[e]? = some f)
    (q : ∀ l H', LS K F s xs d (w.reg K ++ [(l, .lst (f.names.map V.int))]) H' → Q (.ref l) H') : tMeth (He.ga K "Watched") "look" (sp_Watched_look K) [] E0 tw (tCons ta (tCons tb tNil)) σ H Q := by
  obtain ⟨R, eR, s1, un⟩ := L.open
  exact hw H _ ⟨w.a, w.dx, _, rfl, L.get regW_self, rfl, args_cons (h1 H _ (args_cons (h2 H _ (args_nil ⟨R, w, k, e, f, rfl, s1, hf, fun l H' s' => q l H' (un _ _ (s'.perm (by (refine perm_sum fun f => ?_; simp only [List.map_append, List.map_cons, List.map_nil, List.sum_append, List.sum_cons, List.sum_nil]; omega))))⟩))))⟩
theorem LS.stack {k : Nat} (L : LS K F s xs d (w.reg K) H) (o : WOk K F G da P w) (hw : ∀ H, Val tw σ H (.ref w.a)) (h1 : ∀ H, Val ta σ H (.int (k : Nat))) (hk : k < P.hands.length)
    (q : ∀ l ts H', ts.length = (stackM P.env w.g.m k).length → LS K F s xs d (w.reg K ++ ((l, .lst (ts.map V.ref)) :: saidR ts (stackM P.env w.g.m k))) H' → Q (.ref l) H') : tMeth (He.ga K "Watched") "stack" (sp_Watched_stack K) [] E0 tw (tCons ta tNil) σ H Q := by
  obtain ⟨R, eR, s1, un⟩ := L.open
  exact hw H _ ⟨w.a, w.dx, _, rfl, L.get regW_self, rfl, args_cons (h1 H _ (args_nil ⟨R, G, da, P, w, k, rfl, o.base eR, s1, hk, fun l ts H' hl s' => q l ts H' hl (un _ _ (s'.perm (by (refine perm_sum fun f => ?_; simp only [List.map_append, List.map_cons, List.map_nil, List.sum_append, List.sum_cons, List.sum_nil]; omega))))⟩))⟩
end
end S
set_option Elab.async false
set_option linter.all false
set_option maxRecDepth 100000
set_option maxHeartbeats 1000000
namespace S
open PySem PySem.Spec PyProof.Rows L2
def sp__law_deep_one (K : PySem.W.Frag) : Sp := fun vs H Q _ => ∃ (n : Nat) (hs : List Nat) (ha : Addr) (I : Hp → Hp → Prop) (F : Hp), vs = [.int (n : Nat), .ref ha] ∧ Keeps I ∧ I F H ∧ SqT K F ha ((hs.map fun h : Nat => (h : Int)).map V.int) ∧ ∀ (F' H' : Hp) (a : Addr), Same F F' → I F' H' → ProgAt K F' a (oneP n hs) → Q (.ref a) H'
def sp_law (K : PySem.W.Frag) : Sp := fun vs H Q _ => ∃ (F : Hp) (s : Addr) (xs : List Int), vs = [.ref s] ∧ Same F H ∧ SqL K F s (xs.map V.int) ∧ xs.length ≤ 64 ∧ ∀ H', Q (.bl true) H'
end S
set_option Elab.async false
set_option linter.all false
set_option maxRecDepth 100000
namespace S
open PySem PySem.Spec PyProof.Rows L2
def n__law_deep_one : List Str := ["_law_many", "_law_hands", "_law_body", "_law_main", "_law_beside", "_law_n0", "_law_n1"]
def t__law_deep_one (K : PySem.W.Frag) : TS :=
    (tSeq (tAsg (tTup (tCons (tTup (tCons (tC (.str "name")) (tCons (tC (.int 0)) tNil))) (tCons (tTup (tCons (tC (.str "name")) (tCons (tC (.int 1)) tNil))) tNil))) (gTup K 2 (gCons (gName 5) (gCons (gName 6) gNil))))
    (tSeq (tAsg (tTup (tCons (tTup (tCons (tC (.str "if")) (tCons (tTup (tCons (tC (.str "same")) (tCons (tVar 5) (tCons (tTup (tCons (tC (.str "num")) (tCons (tC (.int 0)) tNil))) tNil)))) (tCons (tTup (tCons (tTup (tCons (tC (.str "return")) (tCons (tTup (tCons (tC (.str "num")) (tCons (tC (.int 5)) tNil))) tNil))) tNil)) (tCons (tTup tNil) tNil))))) (tCons (tTup (tCons (tC (.str "call")) (tCons (tC (.int 1)) (tCons (tTup (tCons (tTup (tCons (tC (.str "take")) (tCons (tVar 5) (tCons (tTup (tCons (tC (.str "num")) (tCons (tC (.int 1)) tNil))) tNil)))) tNil)) (tCons (tC (.int 1)) tNil))))) (tCons (tTup (tCons (tC (.str "return")) (tCons (tTup (tCons (tC (.str "add")) (tCons (tVar 6) (tCons (tTup (tCons (tC (.str "num")) (tCons (tC (.int 1)) tNil))) tNil)))) tNil))) tNil)))) (gName 2))
    (tSeq (tAsg (tTup (tCons (tTup (tCons (tC (.str "call")) (tCons (tC (.int 1)) (tCons (tTup (tCons (tTup (tCons (tC (.str "num")) (tCons (tVar 0) tNil))) tNil)) (tCons (tC (.int 0)) tNil))))) (tCons (tTup (tCons (tC (.str "say")) (tCons (tVar 5) tNil))) tNil))) (gName 3))
    (tSeq (tAsg (tTup (tCons (tTup (tCons (tC (.str "again")) (tCons (tTup (tCons (tC (.str "num")) (tCons (tC (.int 9)) tNil))) (tCons (tTup (tCons (tTup (tCons (tC (.str "put")) (tCons (tC (.int 0)) (tCons (tTup (tCons (tC (.str "add")) (tCons (tTup (tCons (tC (.str "cell")) (tCons (tC (.int 0)) tNil))) (tCons (tTup (tCons (tC (.str "num")) (tCons (tC (.int 1)) tNil))) tNil)))) tNil)))) tNil)) tNil)))) tNil)) (gName 4))
    (tRet (tTup (tCons (tTup (tCons (tC (.int 0)) tNil)) (tCons (tTup (tCons (tTup (tCons (tC (.int 0)) (tCons (tC (.int 1)) (tCons (tVar 3) tNil)))) (tCons (tTup (tCons (tC (.int 1)) (tCons (tC (.int 2)) (tCons (tVar 2) tNil)))) (tCons (tTup (tCons (tC (.int 0)) (tCons (tC (.int 0)) (tCons (tVar 4) tNil)))) tNil)))) (tCons (tVar 1) tNil)))))))))
def n_law : List Str := ["_law_script", "_law_d", "_law_many", "_law_hands", "_law_watched", "_law_left", "_law_bound_here", "_law_way", "_law_told", "_law_row"]
def t_law (K : PySem.W.Frag) : TS :=
    (tSeq (tAsg (tCall (sp__law_dice K) [] E0 (tCons (tVar 0) tNil)) (gName 1))
    (tSeq (tAsg (tCall (sp__law_next K) [] E0 (tCons (tVar 1) (tCons (tC (.int 18)) tNil))) (gName 2))
    (tSeq (tAsg (tSl (rSlA K) (tTup (tCons (tC (.int 0)) (tCons (tC (.int 2)) (tCons (tC (.int 2)) tNil)))) tNoPart (tPart (tOp (rI0 fun i j => .int (i + j)) (tC (.int 1)) (tCall (sp__law_next K) [] E0 (tCons (tVar 1) (tCons (tC (.int 3)) tNil)))))) (gName 3))
    (tSeq (tAsg (tMake (He.ga K "Watched") (sp_Watched_init K) [] E0 (tCons (tCall (sp__law_deep_one K) [] E0 (tCons (tVar 2) (tCons (tVar 3) tNil))) tNil)) (gName 4))
    (tSeq (tIfS (tOr (tTest (tOp rNe (tMeth (He.ga K "Watched") "stop" (sp_Watched_stop K) [] E0 (tVar 4) (tCons (tC (.int 3)) (tCons (tC (.int 0)) (tCons (tC .non) tNil)))) (tC (.int 0)))) (tTest (tOp (rNeD K) (tMeth (He.ga K "Watched") "go" (sp_Watched_go K) [] E0 (tVar 4) (tCons (tC (.int 500)) tNil)) (tTup (tCons (tC (.str "stop")) (tCons (tC (.int 0)) (tCons (tC (.int 3)) (tCons (tC (.int 0)) tNil))))))))
      (tRet (tC (.bl false)))
      tNext)
    (tSeq (tIfS (tTest (tOp (rNeD K) (tLc (iList K (tMeth (He.ga K "Watched") "stack" (sp_Watched_stack K) [] E0 (tVar 4) (tCons (tC (.int 0)) tNil))) (gName 9) tYes (tOp (rIxT K) (tVar 9) (tC (.int 1))) [9]) (tOp rCat (tOp rCat (tLst (tCons (tC (.int 3)) tNil)) (tOp rRep (tLst (tCons (tC (.int 4)) tNil)) (tVar 2))) (tLst (tCons (tC (.int 0)) tNil)))))
      (tRet (tC (.bl false)))
      tNext)
    (tSeq (tAsg (tVar 2) (gName 5))
    (tSeq (tWhile (tTest (tOp (rI0 fun i j => .bl (decide (j < i))) (tVar 5) (tUn (rU fun i => .int (-i)) (tC (.int 1)))))
      (tSeq (tAsg (tOp (rIxL K) (tLst (tCons (tC (.str "out")) (tCons (tC (.str "over")) tNil))) (tOp (rI CMul fun i j => .int (i * j)) (tCall (sp__law_next K) [] E0 (tCons (tVar 1) (tCons (tC (.int 2)) tNil))) (tCB rInt1 (tCons (tOp (rI0 fun i j => .bl (decide (i < j))) (tVar 5) (tVar 2)) tNil)))) (gName 7))
      (tSeq (tAsg (tMeth (He.ga K "Watched") "step" (sp_Watched_step K) [] E0 (tVar 4) (tCons (tC (.int 0)) (tCons (tVar 7) (tCons (tC (.int 500)) tNil)))) (gName 8))
      (tSeq (tIfS (tOr (tTest (tOp (rNeD K) (tVar 8) (tTup (tCons (tC (.str "step")) (tCons (tC (.int 0)) (tCons (tIf (tTest (tOp (rI0 fun i j => .bl (decide (j < i))) (tVar 5) (tC (.int 0)))) (tC (.int 5)) (tC (.int 1))) tNil)))))) (tTest (tOp rNe (tCB (Evl.rLenS K) (tCons (tMeth (He.ga K "Watched") "stack" (sp_Watched_stack K) [] E0 (tVar 4) (tCons (tC (.int 0)) tNil)) tNil)) (tOp (rI0 fun i j => .int (i + j)) (tVar 5) (tC (.int 1))))))
        (tRet (tC (.bl false)))
        tNext)
      (tSeq (tIfS (tTest (tOp (rNeD K) (tMeth (He.ga K "Watched") "look" (sp_Watched_look K) [] E0 (tVar 4) (tCons (tC (.int 0)) (tCons (tC (.int 0)) tNil))) (tIf (tTest (tOp (rI0 fun i j => .bl (decide (j < i))) (tVar 5) (tC (.int 0)))) (tLst (tCons (tOp (rI0 fun i j => .int (i + j)) (tOp (rI0 fun i j => .int (i - j)) (tVar 2) (tVar 5)) (tC (.int 1))) (tCons (tOp (rI0 fun i j => .int (i - j)) (tOp (rI0 fun i j => .int (i + j)) (tC (.int 5)) (tVar 2)) (tVar 5)) tNil))) (tLst (tCons (tOp (rI0 fun i j => .int (i + j)) (tC (.int 5)) (tVar 2)) tNil)))))
        (tRet (tC (.bl false)))
        tNext)
      (tAsg (tOp (rI0 fun i j => .int (i - j)) (tVar 5) (tC (.int 1))) (gName 5)))))))
    (tSeq (tFor (iRng1 (tCons (tC (.int 2000)) tNil)) (gName 6)
      (tSeq (tIfS (tTest (tOp (rEqD K) (tMeth (He.ga K "Watched") "stack" (sp_Watched_stack K) [] E0 (tVar 4) (tCons (tC (.int 0)) tNil)) (tLst tNil)))
        tBreak
        tNext)
      (tAsg (tMeth (He.ga K "Watched") "step" (sp_Watched_step K) [] E0 (tVar 4) (tCons (tC (.int 0)) (tCons (tOp (rIxL K) (tLst (tCons (tC (.str "out")) (tCons (tC (.str "over")) (tCons (tC (.str "in")) tNil)))) (tCall (sp__law_next K) [] E0 (tCons (tVar 1) (tCons (tC (.int 3)) tNil)))) (tCons (tC (.int 500)) tNil)))) (gName 8))))
    (tSeq (tIfS (tTest (tOp (rIn K true) (tOp (rIxT K) (tVar 8) (tC (.int 0))) (tTup (tCons (tC (.str "ended")) (tCons (tC (.str "over")) tNil)))))
      (tRet (tC (.bl false)))
      tNext)
    (tSeq (tIfS (tNot (tB (tMeth (He.ga K "Watched") "is_over" (sp_Watched_is_over K) [] E0 (tVar 4) tNil)))
      (tDrop (tMeth (He.ga K "Watched") "go" (sp_Watched_go K) [] E0 (tVar 4) (tCons (tC (.int 500)) tNil)))
      tNext)
    (tRet (tAndV (tOp (rEqD K) (tMeth (He.ga K "Watched") "said" (sp_Watched_said K) [] E0 (tVar 4) tNil) (tLst (tCons (tTup (tCons (tC (.int 0)) (tCons (tOp (rI0 fun i j => .int (i + j)) (tC (.int 5)) (tVar 2)) tNil))) tNil))) (tOp (rEqD K) (tMeth (He.ga K "Watched") "cells" (sp_Watched_cells K) [] E0 (tVar 4) tNil) (tLst (tCons (tOp (rI CMul fun i j => .int (i * j)) (tC (.int 9)) (tOp (rI0 fun i j => .int (i - j)) (tCB (Evl.rLenS K) (tCons (tVar 3) tNil)) (tC (.int 1)))) tNil))))))))))))))))
end S
set_option Elab.async false
set_option linter.all false
set_option maxRecDepth 100000
set_option maxHeartbeats 1000000
namespace S
open PySem PySem.Spec PyProof.Rows L2
section
variable {K : PySem.W.Frag}
theorem two_parts {F : Hp} {xs : List V} {p q : Part} (h : PartsAt K F xs [p, q]) : ∃ a b, xs = [.ref a, .ref b] ∧ PartAt K F a p ∧ PartAt K F b q := by
  cases h with
  | cons h1 t =>
    cases t with
    | cons h2 t =>
      cases t
      exact ⟨_, _, rfl, h1, h2⟩
theorem bvc {σ : L2.St} {I : Hp → Hp → Prop} {F0 : Hp} {v : V} : BV (tC v) σ I F0 (IsV v) := bv_c fun _ => rfl
theorem rd__law_deep_one (vs : List V) (H : Hp) (Q : VK) (E : XK) (h : sp__law_deep_one K vs H Q E) : t__law_deep_one K { nx := fun _ H' => Q .non H', rt := Q } (start n__law_deep_one vs) H := by
  obtain ⟨n, hs, ha, I, F, rfl, k, i, hha, q⟩ := h
  refine sq_asgG ?_
  refine (bv_parts k (by decide) (bp_cons (bv_name (i := 0) k bvc) (bp_cons (bv_name (i := 1) k bvc) bp_nil)) : BV _ _ I F (IsParts K [.name 0, .name 1])) F H _ (Same.refl _) i ?_
  rintro F1 H1 v e1 i1 ⟨t, xs, rfl, ht, hp⟩
  obtain ⟨a0, a1, rfl, p0, p1⟩ := two_parts hp
  refine ⟨t, _, rfl, same_seqT (k.fr _ _ i1) ht, rfl, _, _, rfl, _, _, rfl, rfl, ?_⟩
  refine sq_asg ?_
  have v5 : ∀ {σ : L2.St} {I : Hp → Hp → Prop} {F0 : Hp}, σ[5]? = some (some (.ref a0)) → Same F1 F0 → BV (tVar 5) σ I F0 (IsPart K (.name 0)) := fun h e0 => bv_var h fun F e => ⟨a0, rfl, p0.mono (e0.trans e)⟩
  refine (bv_body k (by decide) (bd_if (bv_if k (bv_bin .same k rfl (v5 rfl (Same.refl _)) (bv_num (i := 0) k bvc)) (bv_body k (by decide) (bd_ret (bv_ret k (bv_num (i := 5) k bvc)) bd_nil)) (bv_body k (by decide) bd_nil))
    (bd_call (bv_call (f := 1) (n := 1) k bvc (bv_parts k (by decide) (bp_cons (bv_bin .take k rfl (v5 rfl (Same.refl _)) (bv_num (i := 1) k bvc)) bp_nil)) bvc)
    (bd_ret (bv_ret k (bv_bin .add k rfl (bv_var rfl fun F e => ⟨a1, rfl, p1.mono e⟩) (bv_num (i := 1) k bvc))) bd_nil))) : BV _ _ I F1 (IsBody K deepBody)) F1 H1 _ (Same.refl _) i1 ?_
  rintro F2 H2 v e2 i2 ⟨ba, ys, rfl, hb1, hb2⟩
  refine sq_asg ?_
  refine (bv_body k (by first | decide | simp [oneP, waysMain, countBody, Body.top]) (bd_call (bv_call (f := 1) (n := 0) k bvc (bv_parts k (by first | decide | simp [oneP, waysMain, countBody, Body.top]) (bp_cons (bv_num (i := (n : Nat)) k (bv_var rfl fun _ _ => rfl)) bp_nil)) bvc)
    (bd_say (bv_say k (v5 rfl e2)) bd_nil)) : BV _ _ I F2 (IsBody K (waysMain n))) F2 H2 _ (Same.refl _) i2 ?_
  rintro F3 H3 v e3 i3 ⟨ma, zs, rfl, hm1, hm2⟩
  refine sq_asg ?_
  refine (bv_body k (by decide) (bd_again (bv_again k (bv_num (i := 9) k bvc) (bv_body k (by decide) (bd_put (bv_put (n := 0) k bvc (bv_bin .add k rfl (bv_cell (i := 0) k bvc) (bv_num (i := 1) k bvc))) bd_nil))) bd_nil) : BV _ _ I F3 (IsBody K (countBody 9))) F3 H3 _ (Same.refl _) i3 ?_
  rintro F4 H4 v e4 i4 ⟨ca, us, rfl, hc1, hc2⟩
  refine st_retI ?_
  refine (bv_prog (P := oneP n hs) k (bv_ints k (by first | decide | simp [oneP, waysMain, countBody, Body.top]) (bi_cons bvc bi_nil)) (bv_fns k (by first | decide | simp [oneP, waysMain, countBody, Body.top]) (bf_cons (bv_fn k bvc bvc (bv_var rfl fun F e => ⟨ma, zs, rfl, same_seqT (e4.trans e) hm1, hm2.mono (e4.trans e)⟩)) (bf_cons (bv_fn k bvc bvc (bv_var rfl fun F e => ⟨ba, ys, rfl, same_seqT ((e3.trans e4).trans e) hb1, hb2.mono ((e3.trans e4).trans e)⟩)) (bf_cons (bv_fn k bvc bvc (bv_var rfl fun F e => ⟨ca, us, rfl, same_seqT e hc1, hc2.mono e⟩)) bf_nil))))
    (bv_var rfl fun F e => ⟨ha, rfl, same_seqT ((((e1.trans e2).trans e3).trans e4).trans e) hha⟩) : BV _ _ I F4 (IsProg K (oneP n hs))) F4 H4 _ (Same.refl _) i4 ?_
  rintro F5 H5 v e5 i5 ⟨a, rfl, hP⟩
  exact q F5 H5 a ((((e1.trans e2).trans e3).trans e4).trans e5) i5 hP
end
end S
set_option Elab.async false
set_option linter.all false
set_option maxRecDepth 100000
set_option maxHeartbeats 1000000
namespace S
open PySem PySem.Spec PyProof.Rows L2
section
variable {K : PySem.W.Frag} {H : Hp} {a b : Addr} {Q : VK}
theorem dp_ints : ∀ is : List Int, DpAll K H (is.map V.int) (is.map PyData.int)
  | [] => .nil
  | i :: is => .cons (.int i) (dp_ints is)
theorem lay_ints : ∀ is : List Int, PyData.canLayAll0 (is.map PyData.int) = true
  | [] => rfl
  | i :: is => by simp [PyData.canLayAll0, PyData.canLay0, lay_ints is]
theorem depth_ints : ∀ is : List Int, PyData.depthAll (is.map PyData.int) = 0
  | [] => rfl
  | i :: is => by simp [PyData.depthAll, PyData.depth, depth_ints is]
theorem shaped_ints (is : List Int) : SeqAt.shaped (.list (is.map PyData.int)) = true := by
  unfold SeqAt.shaped
  simp [PyData.canLay0, PyData.depth, lay_ints, depth_ints]
def pairD (p : Nat × Int) : PyData := .tuple [.int (p.1 : Nat), .int p.2]
theorem lay_pairs : ∀ ps : List (Nat × Int), PyData.canLayAll0 (ps.map pairD) = true
  | [] => rfl
  | p :: ps => by simp [pairD, PyData.canLayAll0, PyData.canLay0]; exact lay_pairs ps
theorem depth_pairs : ∀ ps : List (Nat × Int), PyData.depthAll (ps.map pairD) ≤ 1
  | [] => Nat.zero_le _
  | p :: ps => by
    have := depth_pairs ps
    simp [pairD, PyData.depthAll, PyData.depth]
    exact Nat.max_le.mpr ⟨Nat.le_refl _, this⟩
theorem shaped_pairs (ps : List (Nat × Int)) : SeqAt.shaped (.list (ps.map pairD)) = true := by
  have h1 := lay_pairs ps
  have h2 := depth_pairs ps
  unfold SeqAt.shaped
  simp [PyData.canLay0, PyData.depth, h1]
  omega
theorem lay_of_shaped {d : PyData} (h : SeqAt.shaped d = true) : d.canLay0 = true := (Bool.and_eq_true_iff.mp h).1
theorem eq_self {d : PyData} (h : SeqAt.shaped d = true) : PyData.eqv d d = true := PySem.SeqAt.eqv_refl d (lay_of_shaped h)
theorem dp_pairs : ∀ {ts : List Addr} {ps : List (Nat × Int)}, ts.length = ps.length → (∀ e ∈ saidR ts ps, H e.1 = some e.2) → DpAll K H (ts.map V.ref) (ps.map pairD)
  | [], [], _, _ => .nil
  | [], _ :: _, h, _ => by cases h
  | _ :: _, [], h, _ => by cases h
  | t :: ts, p :: ps, h, hr => .cons (.tup (xs := [.int (p.1 : Nat), .int p.2]) (SqT.of (hr (t, saidO p) List.mem_cons_self)) (.cons (.int _) (.cons (.int _) .nil))) (dp_pairs (by simpa using h) fun e he => hr e (List.mem_cons_of_mem _ he))
theorem ne_same {x y : V} {d : PyData} (hx : Dp K H x d) (hy : Dp K H y d) (hs : SeqAt.shaped d = true) (q : Q (.bl false) H) : rNeD K x y H Q := ⟨d, d, hx, hy, hs, hs, by rw [eq_self hs]; exact q⟩
theorem eq_same {x y : V} {d : PyData} (hx : Dp K H x d) (hy : Dp K H y d) (hs : SeqAt.shaped d = true) (q : Q (.bl true) H) : rEqD K x y H Q := ⟨d, d, hx, hy, hs, hs, by rw [eq_self hs]; exact q⟩
section
variable {F G : Hp} {s d : Addr} {xs : List Int} {r : Reg} {da : Nat → Addr} {P : Prog} {w : GW} {σ : L2.St} {tw : TE}
theorem LS.stepE {k n B : Nat} {ta tb tc : TE} (L : LS K F s xs d (w.reg K) H) (o : WOk K F G da P w) (hw : ∀ H, Val tw σ H (.ref w.a)) (h1 : ∀ H, Val ta σ H (.int (k : Nat))) (hb : ∀ Q : VK, (∀ (y : Way) H', LS K F s xs d (w.reg K) H' → Q (.str y.str) H') → tb σ H Q) (hv : ∀ H, Val tc σ H (.int (n : Nat))) (hn : n ≤ 2000) (hk : k < P.hands.length) (hst : w.g.m.stk k ≠ [])
    (big : w.g.m.Big B) (hB : B + n ≤ 15000000) (q : ∀ y, GoneTo K F s xs d G da P w (Gn.new w.g.m (some k) (some y) n) B Q) : tMeth (He.ga K "Watched") "step" (sp_Watched_step K) [] E0 tw (tCons ta (tCons tb (tCons tc tNil))) σ H Q :=
  hw H _ ⟨w.a, w.dx, _, rfl, L.get regW_self, rfl, args_cons (h1 H _ (args_cons (hb _ fun y H1 L1 => args_cons (hv H1 _ (args_nil (by
    obtain ⟨R, o1, s1, q1⟩ := L1.gone o rfl (q y)
    exact ⟨R, G, da, P, w, k, y, n, B, rfl, o1, s1, hn, hk, hst, big, hB, q1⟩))))))⟩
theorem LS.said (L : LS K F s xs d (w.reg K) H) (hw : ∀ H, Val tw σ H (.ref w.a)) (q : ∀ l H', LS K F s xs d (w.reg K ++ [(l, .lst (w.g.ts.map V.ref))]) H' → Q (.ref l) H') : tMeth (He.ga K "Watched") "said" (sp_Watched_said K) [] E0 tw tNil σ H Q := by
  obtain ⟨R, eR, s1, un⟩ := L.open
  exact hw H _ ⟨w.a, w.dx, _, rfl, L.get regW_self, rfl, args_nil ⟨R, w, rfl, s1, fun l H' s' => q l H' (un _ _ (s'.perm (by (refine perm_sum fun f => ?_; simp only [List.map_append, List.map_cons, List.map_nil, List.sum_append, List.sum_cons, List.sum_nil]; omega))))⟩⟩
theorem LS.cells (L : LS K F s xs d (w.reg K) H) (hw : ∀ H, Val tw σ H (.ref w.a)) (q : ∀ l H', LS K F s xs d (w.reg K ++ [(l, .lst (w.g.held.map V.int))]) H' → Q (.ref l) H') : tMeth (He.ga K "Watched") "cells" (sp_Watched_cells K) [] E0 tw tNil σ H Q := by
  obtain ⟨R, eR, s1, un⟩ := L.open
  exact hw H _ ⟨w.a, w.dx, _, rfl, L.get regW_self, rfl, args_nil ⟨R, w, rfl, s1, fun l H' s' => q l H' (un _ _ (s'.perm (by (refine perm_sum fun f => ?_; simp only [List.map_append, List.map_cons, List.map_nil, List.sum_append, List.sum_cons, List.sum_nil]; omega))))⟩⟩
theorem LS.over (L : LS K F s xs d (w.reg K) H) (o : WOk K F G da P w) (hw : ∀ H, Val tw σ H (.ref w.a)) : Val (tMeth (He.ga K "Watched") "is_over" (sp_Watched_is_over K) [] E0 tw tNil) σ H (.bl w.g.m.next.isNone) := by
  intro Q q
  obtain ⟨R, eR, s1, un⟩ := L.open
  exact hw H _ ⟨w.a, w.dx, _, rfl, L.get regW_self, rfl, args_nil ⟨R, G, da, P, w, rfl, o.base eR, s1, q⟩⟩
theorem regM_said {g : GM} : ∀ e ∈ saidR g.ts g.said, e ∈ g.reg K := fun e he => List.mem_cons_of_mem _ (List.mem_cons_of_mem _ (List.mem_cons_of_mem _ (List.mem_cons_of_mem _ (List.mem_append_left _ he))))
theorem op_I {r : R2} {ta tb : TE} {Q : VK} (h : ta σ H fun x H1 => tb σ H1 fun y H2 => r x y H2 Q) : tOp r ta tb σ H Q := h
theorem or_I {t u : TT} {Q : Bool → Hp → Prop} (h : t σ H fun b H1 => if b = true then Q true H1 else u σ H1 Q) : tOr t u σ H Q := h
theorem andV_I {t u : TE} (h : t σ H fun x H1 => ∃ c, x = .bl c ∧ if c = true then u σ H1 Q else Q (.bl false) H1) : tAndV t u σ H Q := h
theorem test_opI {r : R2} {ta tb : TE} {Q : Bool → Hp → Prop} (h : ta σ H fun x H1 => tb σ H1 fun y H2 => r x y H2 fun v H' => ∃ b, v = .bl b ∧ Q b H') : tTest (tOp r ta tb) σ H Q := h
def LcL (J : It) (g : TG) (tt : TT) (te : TE) (vs : List Nat) (σ : L2.St) (Q : VK) (H1 : Hp) : Prop := ∀ D, H1 D = none → ∃ W : Nat → Nat → Hp → Prop, (∃ m, W 0 m (upd H1 D (.lst []))) ∧ ∀ i m H, W i m H →
  (J.stop i H ∧ Q (.ref D) H) ∨ (J.go i H ∧ ∃ Nx : Hp → Prop, (∀ H', Nx H' → ∃ m', m' < m ∧ W (i + 1) m' H') ∧ ∀ x H', J.yld i H x H' → g x (wipe σ vs) H' fun σ2 H2 => wipe σ2 vs = wipe σ vs ∧ tt σ2 H2 fun b H3 =>
    if b = true then te σ2 H3 fun y H4 => ∃ acc, H4 D = some (.lst acc) ∧ acc.length < sizeLine ∧ Nx (upd H4 D (.lst (acc ++ [y]))) else Nx H3)
theorem lc_listI {tl te : TE} {g : TG} {tt : TT} {vs : List Nat} (h : tl σ H fun x H1 => ∃ a, x = .ref a ∧ (∃ xs, SqL K H1 a xs) ∧ LcL (Itl K a) g tt te vs σ Q H1) : tLc (iList K tl) g tt te vs σ H Q := h
theorem lc_tupI0 {tl te : TE} {g : TG} {tt : TT} {vs : List Nat} (h : tl σ H fun x H1 => ∃ a, x = .ref a ∧ (∃ xs, SqT K H1 a xs) ∧ LcL (Itt K a) g tt te vs σ Q H1) : tLc (iTup K tl) g tt te vs σ H Q := h
end
end
end S
set_option Elab.async false
set_option linter.all false
set_option maxRecDepth 100000
set_option maxHeartbeats 2000000
namespace S
open PySem PySem.Spec PyProof.Rows L2
section
variable {K : PySem.W.Frag}
theorem cut18 : ∀ h, h < 3 → cutV [.int 0, .int 2, .int 2] none (some (1 + (h : Nat))) = ((hsOf h).map fun h : Nat => (h : Int)).map V.int := by decide +kernel
theorem whole18 : ∀ h, h < 3 → HT.sIx 3 3 (some (1 + (h : Nat))) = 3 → h = 2 := by decide +kernel
theorem bv_hands18 {td : TE} {σ : L2.St} {F0 : Hp} {s d : Addr} {xs : List Int} {r : Reg} (hd : ∀ H, Val td σ H (.ref d)) : BV (tSl (rSlA K) (tTup (tCons (tC (.int 0)) (tCons (tC (.int 2)) (tCons (tC (.int 2)) tNil)))) tNoPart (tPart (tOp (rI0 fun i j => .int (i + j)) (tC (.int 1)) (tCall (sp__law_next K) [] E0 (tCons td (tCons (tC (.int 3)) tNil))))))
    σ (fun F H => LS K F s xs d r H) F0 (fun F v => ∃ h : Nat, h < 3 ∧ IsInts K ((hsOf h).map fun h : Nat => (h : Int)) F v) := by
  intro F H Q e L q
  refine tup_I' (args_cons (val_c _ (args_cons (val_c _ (args_cons (val_c _ (args_nil ⟨(by show 3 ≤ sizeLine; decide), fun p hp => ?_⟩)))))))
  have e1 := L.sub (o := .tup [.int 0, .int 2, .int 2]) hp
  have L1 := L.keep (o := .tup [.int 0, .int 2, .int 2]) hp
  have hp1 : (upd F p (.tup [.int 0, .int 2, .int 2])) p = some (.tup [.int 0, .int 2, .int 2]) := upd_same
  generalize upd F p _ = F1 at e1 L1 hp1
  generalize upd H p _ = H1 at L1 ⊢
  refine val_c (σ := σ) (v := .int 1) (fun x H1 => (tCall (sp__law_next K) [] E0 (tCons td (tCons (tC (.int 3)) tNil))) σ H1 fun y H2 => (rI0 fun i j => .int (i + j)) x y H2 _) ?_
  refine L1.nextC 3 (hd H1) val_c (by decide) (by decide) fun h H2 hh L2 => ?_
  replace hh : h < 3 := by omega
  refine ⟨1, (h : Nat), rfl, rfl, 1 + (h : Nat), rfl, ?_⟩
  refine ⟨p, [.int 0, .int 2, .int 2], rfl, SqT.of (L2.fr _ _ hp1), fun hw => ?_, fun _ p2 hp2 => ?_⟩
  · refine q F1 H2 (.ref p) e1 L2 ⟨h, hh, p, rfl, ?_⟩
    have := whole18 h hh hw.2
    subst this
    exact SqT.of hp1
  · refine q _ _ (.ref p2) (e1.trans (L2.sub hp2)) (L2.keep hp2) ⟨h, hh, p2, rfl, ?_⟩
    rw [← cut18 h hh]
    exact SqT.of upd_same
theorem bv_one {t1 t2 : TE} {σ : L2.St} {I : Hp → Hp → Prop} {F0 : Hp} {n : Nat} {hs : List Nat} {ha : Addr} (k : Keeps I) (h1 : ∀ F H, Same F0 F → I F H → Val t1 σ H (.int (n : Nat))) (h2 : ∀ F H, Same F0 F → I F H → Val t2 σ H (.ref ha)) (hha : SqT K F0 ha ((hs.map fun h : Nat => (h : Int)).map V.int)) :
    BV (tCall (sp__law_deep_one K) [] E0 (tCons t1 (tCons t2 tNil))) σ I F0 (IsProg K (oneP n hs)) := fun F H Q e i q =>
  call_args (args_cons (h1 F H e i _ (args_cons (h2 F H e i _ (args_nil ⟨n, hs, ha, I, F, rfl, k, i, same_seqT e hha, fun F' H' a e' i' hP => q F' H' (.ref a) e' i' ⟨a, rfl, hP⟩⟩)))))
theorem gone_X {P : Prog} {ss : List GS} {m m' : Mch} {n0 n' : Gn} {ys : List V} (hs : ss.map GS.z = S18) (hm : n0.many = 500) (h : goRun P.env ss n0.many m n0 = (m', n')) (he : endV P.env m' ss n' = some ys) : goneX P m n0 = (m', some ys) := by
  rw [hm, ← goRun_z, hs] at h
  rw [← endV_z, hs] at he
  unfold goneX
  rw [h, he]
theorem ne_told {H : Hp} {t p : Addr} {ys : List V} {ds : List PyData} {Q : VK} (h1 : SqT K H t ys) (h2 : SqT K H p ys) (d : DpAll K H ys ds) (hs : SeqAt.shaped (.tuple ds) = true) (q : Q (.bl false) H) : rNeD K (.ref t) (.ref p) H Q :=
  ne_same (.tup h1 d) (.tup h2 d) hs q
theorem dp_stop {H : Hp} {i j l : Int} {z : Str} : DpAll K H [.str z, .int i, .int j, .int l] [.str z, .int i, .int j, .int l] := .cons (.str _) (.cons (.int _) (.cons (.int _) (.cons (.int _) .nil)))
theorem dp_step {H : Hp} {i j : Int} {z : Str} : DpAll K H [.str z, .int i, .int j] [.str z, .int i, .int j] := .cons (.str _) (.cons (.int _) (.cons (.int _) .nil))
structure W18 (K : PySem.W.Frag) (s d : Addr) (xs : List Int) (G : Hp) (da : Nat → Addr) (n h : Nat) (wa : Addr) (F : Hp) (w : GW) (H : Hp) : Prop where
  a : w.a = wa
  ss : w.ss.map GS.z = S18
  o : WOk K F G da (oneP n (hsOf h)) w
  L : LS K F s xs d (w.reg K) H
theorem W18.grow {s d : Addr} {xs : List Int} {G : Hp} {da : Nat → Addr} {n h : Nat} {wa : Addr} {F H H' : Hp} {w : GW} (W : W18 K s d xs G da n h wa F w H) (e : Same H H') : W18 K s d xs G da n h wa F w H' := ⟨W.a, W.ss, W.o, W.L.grow e⟩
theorem hs_len : ∀ h, h < 3 → (hsOf h).length = h + 1 := by decide
theorem rep_one (n : Nat) (x : V) : (List.replicate n [x]).flatten = List.replicate n x := by
  induction n with
  | zero => rfl
  | succ n ih => rw [List.replicate_succ, List.flatten_cons, ih]; rfl
theorem test_rows {s d ha : Addr} {xs : List Int} {G : Hp} {da : Nat → Addr} {n h : Nat} {wa : Addr} {F H : Hp} {w : GW} (W : W18 K s d xs G da n h wa F w H) (hn : n < 18) (hh : h < 3) (c : (stackM (oneP n (hsOf h)).env w.g.m 0).map Prod.snd = 3 :: (List.replicate n 4 ++ [0])) :
    AnsH (tTest (tOp (rNeD K) (tLc (iList K (tMeth (He.ga K "Watched") "stack" (sp_Watched_stack K) [] E0 (tVar 4) (tCons (tC (.int 0)) tNil))) (gName 9) tYes (tOp (rIxT K) (tVar 9) (tC (.int 1))) [9]) (tOp rCat (tOp rCat (tLst (tCons (tC (.int 3)) tNil)) (tOp rRep (tLst (tCons (tC (.int 4)) tNil)) (tVar 2))) (tLst (tCons (tC (.int 0)) tNil)))))
      [some (.ref s), some (.ref d), some (.int (n : Nat)), some (.ref ha), some (.ref wa), none, none, none, none, none] H false (fun H' => LS K F s xs d (w.reg K) H') := by
  intro Q q
  refine test_opI (lc_listI ?_)
  refine W.L.stack (k := 0) W.o (fun H => by rw [W.a]; exact val_var rfl) (fun H => val_c) (by show 0 < (hsOf h).length; rw [hs_len h hh]; omega) fun a ts H1 hts L1 => ?_
  have ga : H1 a = some (.lst (ts.map V.ref)) := L1.get (List.mem_append_right _ List.mem_cons_self)
  have gt : ∀ e ∈ saidR ts (stackM (oneP n (hsOf h)).env w.g.m 0), H1 e.1 = some e.2 := fun e he => L1.get (List.mem_append_right _ (List.mem_cons_of_mem _ he))
  generalize hrow : stackM (oneP n (hsOf h)).env w.g.m 0 = rows at c hts gt
  refine ⟨a, rfl, ⟨_, SqL.of ga⟩, fun D hD => ?_⟩
  have s0 := (Sat.nil (Same.refl H1)).new (o := .lst []) hD
  have hrl : rows.length = n + 2 := by
    have := congrArg List.length c
    simp at this
    omega
  refine lc_list (K := K) (a := a) (xs := ts.map V.ref) (fun j H' => Sat H1 [(D, .lst (((rows.map Prod.snd).take j).map V.int))] H') s0 (fun j H' _ w => SqL.of (w.fr _ _ ga)) ?_ ?_
  · intro j y H2 hv w2
    rw [List.getElem?_map] at hv
    cases ei : ts[j]? with
    | none =>
      rw [ei] at hv
      cases hv
    | some t =>
    rw [ei] at hv
    have ey : V.ref t = y := by simpa using hv
    subst ey
    have hj : j < ts.length := (List.getElem?_eq_some_iff.mp ei).1
    obtain ⟨row, er⟩ : ∃ row, rows[j]? = some row := ⟨rows[j]'(by omega), by simp [show j < rows.length by omega]⟩
    have hm : (t, saidO row) ∈ saidR ts rows := by
      unfold saidR
      refine List.mem_of_getElem? (i := j) ?_
      rw [List.getElem?_zip_eq_some]
      exact ⟨ei, by rw [List.getElem?_map, er]; rfl⟩
    refine ⟨rfl, ?_⟩
    unfold tYes
    refine Eq.mpr (if_pos rfl) ?_
    refine ⟨_, rfl, t, _, 1, .int row.2, rfl, rfl, SqT.of (w2.fr _ _ (gt _ hm)), atI_nat (j := 1) rfl, ?_⟩
    refine ⟨_, w2.get List.mem_cons_self, ?_, ?_⟩
    · rw [List.length_map, List.length_take, List.length_map]
      exact Nat.lt_of_le_of_lt (by omega : _ ≤ 30) (by decide)
    · have et : (rows.map Prod.snd).take (j + 1) = (rows.map Prod.snd).take j ++ [row.2] := by
        rw [List.take_succ, List.getElem?_map, er]
        rfl
      rw [et, List.map_append]
      exact w2.put
  · intro H2 w2
    have e0 : (rows.map Prod.snd).take (ts.map V.ref).length = rows.map Prod.snd := List.take_of_length_le (by rw [List.length_map, List.length_map]; omega)
    rw [e0, c] at w2
    have gD : H2 D = some (.lst ((3 :: (List.replicate n 4 ++ [0]) : List Int).map V.int)) := w2.get List.mem_cons_self
    have e12 := w2.fr
    refine op_I (op_I (lst_I' (args_cons (val_c _ (args_nil ⟨(by show 1 ≤ sizeLine; decide), fun p1 hp1 => ?_⟩)))))
    have g1 : (upd H2 p1 (.lst [.int 3])) p1 = some (.lst [.int 3]) := upd_same
    have e23 : Same H2 (upd H2 p1 (.lst [.int 3])) := same_new hp1
    generalize upd H2 p1 _ = H3 at g1 e23 ⊢
    refine op_I (lst_I' (args_cons (val_c _ (args_nil ⟨(by show 1 ≤ sizeLine; decide), fun p2 hp2 => ?_⟩))))
    have g2 : (upd H3 p2 (.lst [.int 4])) p2 = some (.lst [.int 4]) := upd_same
    have e34 : Same H3 (upd H3 p2 (.lst [.int 4])) := same_new hp2
    generalize upd H3 p2 _ = H4 at g2 e34 ⊢
    refine ⟨_, rfl, ?_⟩
    refine ⟨p2, (n : Nat), _, rfl, rfl, g2, by omega, by omega, ?_, fun p3 hp3 => ?_⟩
    · show 1 * n ≤ sizeLine
      exact Nat.le_trans (by omega : _ ≤ 30) (by decide)
    rw [show ((n : Nat) : Int).toNat = n from rfl, rep_one]
    have g3 : (upd H4 p3 (.lst (List.replicate n (.int 4)))) p3 = some (.lst (List.replicate n (.int 4))) := upd_same
    have e45 : Same H4 (upd H4 p3 (.lst (List.replicate n (.int 4)))) := same_new hp3
    generalize upd H4 p3 _ = H5 at g3 e45 ⊢
    refine ⟨p1, p3, _, _, rfl, rfl, (e34.trans e45) _ _ g1, g3, ?_, fun p4 hp4 => ?_⟩
    · rw [List.length_replicate]
      exact Nat.le_trans (by show 1 + n ≤ 30; omega) (by decide)
    have g4 : (upd H5 p4 (.lst ([.int 3] ++ List.replicate n (.int 4)))) p4 = some (.lst ([.int 3] ++ List.replicate n (.int 4))) := upd_same
    have e56 : Same H5 (upd H5 p4 (.lst ([.int 3] ++ List.replicate n (.int 4)))) := same_new hp4
    generalize upd H5 p4 _ = H6 at g4 e56 ⊢
    refine lst_I' (args_cons (val_c _ (args_nil ⟨(by show 1 ≤ sizeLine; decide), fun p5 hp5 => ?_⟩)))
    have g5 : (upd H6 p5 (.lst [.int 0])) p5 = some (.lst [.int 0]) := upd_same
    have e67 : Same H6 (upd H6 p5 (.lst [.int 0])) := same_new hp5
    generalize upd H6 p5 _ = H7 at g5 e67 ⊢
    refine ⟨p4, p5, _, _, rfl, rfl, e67 _ _ g4, g5, ?_, fun p6 hp6 => ?_⟩
    · rw [List.length_append, List.length_replicate]
      exact Nat.le_trans (by show 1 + n + 1 ≤ 30; omega) (by decide)
    have e78 : Same H7 (upd H7 p6 (.lst ([.int 3] ++ List.replicate n (.int 4) ++ [.int 0]))) := same_new hp6
    have g6 : (upd H7 p6 (.lst ([.int 3] ++ List.replicate n (.int 4) ++ [.int 0]))) p6 = some (.lst ((3 :: (List.replicate n 4 ++ [0]) : List Int).map V.int)) := by
      rw [upd_same]
      simp
    generalize upd H7 p6 _ = H8 at g6 e78 ⊢
    have e28 := ((((e23.trans e34).trans e45).trans e56).trans e67).trans e78
    refine ne_same (.lst (SqL.of (e28 _ _ gD)) (dp_ints _)) (.lst (SqL.of g6) (dp_ints _)) (shaped_ints _) ?_
    exact ⟨false, rfl, q H8 ((L1.grow (e12.trans e28)).drop)⟩
theorem way_val {σ : L2.St} {F H : Hp} {s d : Addr} {xs : List Int} {r : Reg} {k n : Nat} {Q : VK} (L : LS K F s xs d r H) (hd : ∀ H, Val (tVar 1) σ H (.ref d)) (h5 : ∀ H, Val (tVar 5) σ H (.int (k : Nat))) (h2 : ∀ H, Val (tVar 2) σ H (.int (n : Nat)))
    (q : ∀ (y : Way) H', (y = .out ∨ (y = .over ∧ k < n)) → LS K F s xs d r H' → Q (.str y.str) H') :
    tOp (rIxL K) (tLst (tCons (tC (.str "out")) (tCons (tC (.str "over")) tNil))) (tOp (rI CMul fun i j => .int (i * j)) (tCall (sp__law_next K) [] E0 (tCons (tVar 1) (tCons (tC (.int 2)) tNil))) (tCB rInt1 (tCons (tOp (rI0 fun i j => .bl (decide (i < j))) (tVar 5) (tVar 2)) tNil))) σ H Q := by
  refine op_I (lst_I' (args_cons (val_c _ (args_cons (val_c _ (args_nil ⟨(by show 2 ≤ sizeLine; decide), fun p hp => ?_⟩))))))
  have gp : (upd H p (.lst [.str "out", .str "over"])) p = some (.lst [.str "out", .str "over"]) := upd_same
  have L1 := L.keep (o := .lst [.str "out", .str "over"]) hp
  have gF : (upd F p (.lst [.str "out", .str "over"])) p = some (.lst [.str "out", .str "over"]) := upd_same
  have eF := L.sub (o := .lst [.str "out", .str "over"]) hp
  have back : ∀ {H' : Hp}, LS K (upd F p (.lst [.str "out", .str "over"])) s xs d r H' → LS K F s xs d r H' := fun ⟨_, h2, a, m, e, h3, w⟩ => ⟨L.1, h2, a, m, e, h3, w.less eF⟩
  generalize upd F p _ = F1 at L1 gF eF back
  generalize upd H p _ = H1 at L1 gp ⊢
  refine op_I (L1.nextC 2 (hd H1) val_c (by decide) (by decide) fun i H2 hi L2 => ?_)
  refine args_cons (val_op (h5 H2) (h2 H2) (fun Q q => ⟨_, _, rfl, rfl, q⟩) _ (args_nil (.inr ⟨_, rfl, ?_⟩)))
  have gp2 : SqL K H2 p [.str "out", .str "over"] := SqL.of (L2.fr _ _ gF)
  by_cases hk : k < n
  · rw [decide_eq_true (by omega : ((k : Nat) : Int) < (n : Nat))]
    refine ⟨(i : Nat), 1, rfl, rfl, .inl ⟨by omega, by omega⟩, ?_⟩
    rcases (by omega : i = 0 ∨ i = 1) with rfl | rfl
    · exact ⟨p, _, 0, .str "out", rfl, rfl, gp2, atI_nat (j := 0) rfl, q .out H2 (.inl rfl) (back L2)⟩
    · exact ⟨p, _, 1, .str "over", rfl, rfl, gp2, atI_nat (j := 1) rfl, q .over H2 (.inr ⟨rfl, hk⟩) (back L2)⟩
  · rw [decide_eq_false (by omega : ¬ ((k : Nat) : Int) < (n : Nat))]
    refine ⟨(i : Nat), 0, rfl, rfl, .inl ⟨by omega, by omega⟩, ?_⟩
    exact ⟨p, _, (i : Nat) * 0, .str "out", rfl, rfl, gp2, by rw [Int.mul_zero]; exact atI_nat (j := 0) rfl, q .out H2 (.inl rfl) (back L2)⟩
theorem ans_pos {σ : L2.St} {k : Nat} (H : Hp) (h : Val (tVar 5) σ H (.int (k : Nat))) : Ans (tTest (tOp (rI0 fun i j => .bl (decide (j < i))) (tVar 5) (tC (.int 0)))) σ H (decide (0 < k)) :=
  ans_gt (n := (k : Nat)) (m := 0) h (by
    by_cases z : 0 < k
    · rw [decide_eq_true z, decide_eq_true (by omega)]
    · rw [decide_eq_false z, decide_eq_false (by omega)])
theorem test_step {s d ha t : Addr} {xs : List Int} {G : Hp} {da : Nat → Addr} {n h k : Nat} {wa : Addr} {F H : Hp} {w : GW} {v6 v7 v9 : Option V} (W : W18 K s d xs G da n h wa F w H) (hh : h < 3) (ht : F t = some (.tup (toldX k))) (hl : (w.g.m.stk 0).length = k + 1) :
    AnsH (tOr (tTest (tOp (rNeD K) (tVar 8) (tTup (tCons (tC (.str "step")) (tCons (tC (.int 0)) (tCons (tIf (tTest (tOp (rI0 fun i j => .bl (decide (j < i))) (tVar 5) (tC (.int 0)))) (tC (.int 5)) (tC (.int 1))) tNil)))))) (tTest (tOp rNe (tCB (Evl.rLenS K) (tCons (tMeth (He.ga K "Watched") "stack" (sp_Watched_stack K) [] E0 (tVar 4) (tCons (tC (.int 0)) tNil)) tNil)) (tOp (rI0 fun i j => .int (i + j)) (tVar 5) (tC (.int 1))))))
      [some (.ref s), some (.ref d), some (.int (n : Nat)), some (.ref ha), some (.ref wa), some (.int (k : Nat)), v6, v7, some (.ref t), v9] H false (fun H' => LS K F s xs d (w.reg K) H') := by
  intro Q q
  refine or_I (test_opI ?_)
  refine ⟨_, rfl, ?_⟩
  have vif : Val (tIf (tTest (tOp (rI0 fun i j => .bl (decide (j < i))) (tVar 5) (tC (.int 0)))) (tC (.int 5)) (tC (.int 1))) [some (.ref s), some (.ref d), some (.int (n : Nat)), some (.ref ha), some (.ref wa), some (.int (k : Nat)), v6, v7, some (.ref t), v9] H (.int (if 0 < k then 5 else 1)) := by
    intro Q q
    refine ans_pos H (val_var rfl) _ ?_
    by_cases z : 0 < k
    · rw [decide_eq_true z]
      rw [if_pos z] at q
      exact iteT q
    · rw [decide_eq_false z]
      rw [if_neg z] at q
      exact iteF q
  refine tup_I' (args_cons (val_c _ (args_cons (val_c _ (args_cons (vif _ (args_nil ⟨(by show 3 ≤ sizeLine; decide), fun p hp => ?_⟩)))))))
  have W1 := W.grow (same_new (o := .tup (toldX k)) hp)
  refine ne_told (ds := [.str "step", .int 0, .int (if 0 < k then 5 else 1)]) (SqT.of (W1.L.fr _ _ ht)) (SqT.of upd_same) dp_step (by split <;> decide +kernel) ?_
  refine ⟨false, rfl, iteF ?_⟩
  have W2 : W18 K s d xs G da n h wa F w (upd H p (.tup [.str "step", .int 0, .int (if 0 < k then 5 else 1)])) := W1
  clear W1
  generalize upd H p _ = H1 at W2 ⊢
  refine test_opI ?_
  refine W2.L.stack (k := 0) W2.o (fun H => by rw [W2.a]; exact val_var rfl) (fun H => val_c) (by show 0 < (hsOf h).length; rw [hs_len h hh]; omega) fun a ts H2 hts L1 => ?_
  refine args_nil ⟨a, ts.map V.ref, rfl, .inl (SqL.of (L1.get (List.mem_append_right _ List.mem_cons_self))), ?_⟩
  refine (val_op (val_var rfl) (val_c (v := .int 1)) (fun Q q => ⟨_, _, rfl, rfl, q⟩) : Val (tOp (rI0 fun i j => .int (i + j)) (tVar 5) (tC (.int 1))) [some (.ref s), some (.ref d), some (.int (n : Nat)), some (.ref ha), some (.ref wa), some (.int (k : Nat)), v6, v7, some (.ref t), v9] H2 (.int ((k : Nat) + 1))) _ ?_
  have el : (ts.map V.ref).length = k + 1 := by
    rw [List.length_map, hts]
    show ((w.g.m.stk 0).map _).length = k + 1
    rw [List.length_map]
    exact hl
  rw [el]
  refine ⟨rfl, false, ?_, q H2 L1.drop⟩
  show V.bl (!decide (V.int (((k + 1 : Nat)) : Int) = V.int (((k : Nat) : Int) + 1))) = _
  rw [decide_eq_true (by congr 1)]
  rfl
theorem test_look {s d ha : Addr} {xs : List Int} {G : Hp} {da : Nat → Addr} {n h k : Nat} {wa : Addr} {F H : Hp} {w : GW} {f : Frm} {v6 v7 v8 v9 : Option V} (W : W18 K s d xs G da n h wa F w H) (hk : k ≤ n) (hf : (w.g.m.stk 0)[0]? = some f) (hn : f.names = namesX n k) :
    AnsH (tTest (tOp (rNeD K) (tMeth (He.ga K "Watched") "look" (sp_Watched_look K) [] E0 (tVar 4) (tCons (tC (.int 0)) (tCons (tC (.int 0)) tNil))) (tIf (tTest (tOp (rI0 fun i j => .bl (decide (j < i))) (tVar 5) (tC (.int 0)))) (tLst (tCons (tOp (rI0 fun i j => .int (i + j)) (tOp (rI0 fun i j => .int (i - j)) (tVar 2) (tVar 5)) (tC (.int 1))) (tCons (tOp (rI0 fun i j => .int (i - j)) (tOp (rI0 fun i j => .int (i + j)) (tC (.int 5)) (tVar 2)) (tVar 5)) tNil))) (tLst (tCons (tOp (rI0 fun i j => .int (i + j)) (tC (.int 5)) (tVar 2)) tNil)))))
      [some (.ref s), some (.ref d), some (.int (n : Nat)), some (.ref ha), some (.ref wa), some (.int (k : Nat)), v6, v7, v8, v9] H false (fun H' => LS K F s xs d (w.reg K) H') := by
  intro Q q
  refine test_opI ?_
  refine W.L.look (fun H => by rw [W.a]; exact val_var rfl) (fun H => val_c (v := .int 0)) (fun H => val_c (v := .int 0)) hf fun a H1 L1 => ?_
  have ga : H1 a = some (.lst ((namesX n k).map V.int)) := by rw [← hn]; exact L1.get (List.mem_append_right _ List.mem_cons_self)
  refine ans_pos H1 (val_var rfl) _ ?_
  have v2 : Val (tVar 2) [some (.ref s), some (.ref d), some (.int (n : Nat)), some (.ref ha), some (.ref wa), some (.int (k : Nat)), v6, v7, v8, v9] H1 (.int (n : Nat)) := val_var rfl
  have v5 : Val (tVar 5) [some (.ref s), some (.ref d), some (.int (n : Nat)), some (.ref ha), some (.ref wa), some (.int (k : Nat)), v6, v7, v8, v9] H1 (.int (k : Nat)) := val_var rfl
  by_cases z : 0 < k
  · rw [decide_eq_true z]
    unfold namesX at ga
    rw [if_pos z] at ga
    refine iteT ?_
    have va := val_add (val_sub v2 v5) (val_c (v := .int 1))
    have vb := val_sub (val_add (val_c (v := .int 5)) v2) v5
    refine lst_I' (args_cons (va _ (args_cons (vb _ (args_nil ⟨(by show 2 ≤ sizeLine; decide), fun p hp => ?_⟩)))))
    have e1 : ((n : Nat) : Int) - ((k : Nat) : Int) + 1 = ((n - k + 1 : Nat) : Int) := by omega
    have e2 : (5 : Int) + ((n : Nat) : Int) - ((k : Nat) : Int) = ((5 + n - k : Nat) : Int) := by omega
    rw [e1, e2]
    have eg := same_new (o := .lst [.int ((n - k + 1 : Nat) : Int), .int ((5 + n - k : Nat) : Int)]) hp
    refine ne_same (d := .list (([((n - k + 1 : Nat) : Int), ((5 + n - k : Nat) : Int)] : List Int).map PyData.int)) (.lst (SqL.of (eg _ _ ga)) (dp_ints _)) (.lst (SqL.of upd_same) (dp_ints [((n - k + 1 : Nat) : Int), ((5 + n - k : Nat) : Int)])) (shaped_ints _) ?_
    exact ⟨false, rfl, q _ (L1.grow eg).drop⟩
  · rw [decide_eq_false z]
    unfold namesX at ga
    rw [if_neg z] at ga
    refine iteF ?_
    have va := val_add (val_c (v := .int 5)) v2
    refine lst_I' (args_cons (va _ (args_nil ⟨(by show 1 ≤ sizeLine; decide), fun p hp => ?_⟩)))
    have e1 : (5 : Int) + ((n : Nat) : Int) = ((5 + n : Nat) : Int) := by omega
    rw [e1]
    have eg := same_new (o := .lst [.int ((5 + n : Nat) : Int)]) hp
    refine ne_same (d := .list (([((5 + n : Nat) : Int)] : List Int).map PyData.int)) (.lst (SqL.of (eg _ _ ga)) (dp_ints _)) (.lst (SqL.of upd_same) (dp_ints [((5 + n : Nat) : Int)])) (shaped_ints _) ?_
    exact ⟨false, rfl, q _ (L1.grow eg).drop⟩
theorem test_empty {σ : L2.St} {s d : Addr} {xs : List Int} {G : Hp} {da : Nat → Addr} {n h : Nat} {wa : Addr} {F H : Hp} {w : GW} (W : W18 K s d xs G da n h wa F w H) (hh : h < 3) (h4 : ∀ H, Val (tVar 4) σ H (.ref wa)) :
    AnsH (tTest (tOp (rEqD K) (tMeth (He.ga K "Watched") "stack" (sp_Watched_stack K) [] E0 (tVar 4) (tCons (tC (.int 0)) tNil)) (tLst tNil))) σ H (w.g.m.stk 0).isEmpty (fun H' => LS K F s xs d (w.reg K) H') := by
  intro Q q
  refine test_opI ?_
  refine W.L.stack (k := 0) W.o (fun H => by rw [W.a]; exact h4 H) (fun H => val_c) (by show 0 < (hsOf h).length; rw [hs_len h hh]; omega) fun a ts H1 hts L1 => ?_
  have ga : H1 a = some (.lst (ts.map V.ref)) := L1.get (List.mem_append_right _ List.mem_cons_self)
  have gt : ∀ e ∈ saidR ts (stackM (oneP n (hsOf h)).env w.g.m 0), H1 e.1 = some e.2 := fun e he => L1.get (List.mem_append_right _ (List.mem_cons_of_mem _ he))
  refine lst_I' (args_nil ⟨Nat.zero_le _, fun p hp => ?_⟩)
  have eg := same_new (o := .lst []) hp
  have dl := dp_pairs (K := K) (H := upd H1 p (.lst [])) hts (fun e he => eg _ _ (gt e he))
  refine ⟨.list ((stackM (oneP n (hsOf h)).env w.g.m 0).map pairD), .list [], .lst (SqL.of (eg _ _ ga)) dl, .lst (SqL.of upd_same) .nil, shaped_pairs _, by decide +kernel, ?_⟩
  have ev : PyData.eqv (.list ((stackM (oneP n (hsOf h)).env w.g.m 0).map pairD)) (.list []) = (w.g.m.stk 0).isEmpty := by
    unfold stackM
    cases w.g.m.stk 0 with
    | nil => simp [PyData.eqv, PyData.eqvAll]
    | cons f fs => simp [PyData.eqv, PyData.eqvAll]
  rw [ev]
  exact ⟨_, rfl, q _ (L1.grow eg).drop⟩
theorem way_any {σ : L2.St} {F H : Hp} {s d : Addr} {xs : List Int} {r : Reg} {Q : VK} (L : LS K F s xs d r H) (hd : ∀ H, Val (tVar 1) σ H (.ref d)) (q : ∀ (y : Way) H', LS K F s xs d r H' → Q (.str y.str) H') :
    tOp (rIxL K) (tLst (tCons (tC (.str "out")) (tCons (tC (.str "over")) (tCons (tC (.str "in")) tNil)))) (tCall (sp__law_next K) [] E0 (tCons (tVar 1) (tCons (tC (.int 3)) tNil))) σ H Q := by
  refine op_I (lst_I' (args_cons (val_c _ (args_cons (val_c _ (args_cons (val_c _ (args_nil ⟨(by show 3 ≤ sizeLine; decide), fun p hp => ?_⟩))))))))
  have L1 := L.keep (o := .lst [.str "out", .str "over", .str "in"]) hp
  have gF : (upd F p (.lst [.str "out", .str "over", .str "in"])) p = some (.lst [.str "out", .str "over", .str "in"]) := upd_same
  have eF := L.sub (o := .lst [.str "out", .str "over", .str "in"]) hp
  have back : ∀ {H' : Hp}, LS K (upd F p (.lst [.str "out", .str "over", .str "in"])) s xs d r H' → LS K F s xs d r H' := fun ⟨_, h2, a, m, e, h3, w⟩ => ⟨L.1, h2, a, m, e, h3, w.less eF⟩
  generalize upd F p _ = F1 at L1 gF eF back
  generalize upd H p _ = H1 at L1 ⊢
  refine L1.nextC 3 (hd H1) val_c (by decide) (by decide) fun i H2 hi L2 => ?_
  have gp2 : SqL K H2 p [.str "out", .str "over", .str "in"] := SqL.of (L2.fr _ _ gF)
  rcases (by omega : i = 0 ∨ i = 1 ∨ i = 2) with rfl | rfl | rfl
  · exact ⟨p, _, 0, .str "out", rfl, rfl, gp2, atI_nat (j := 0) rfl, q .out H2 (back L2)⟩
  · exact ⟨p, _, 1, .str "over", rfl, rfl, gp2, atI_nat (j := 1) rfl, q .over H2 (back L2)⟩
  · exact ⟨p, _, 2, .str "in", rfl, rfl, gp2, atI_nat (j := 2) rfl, q .in_ H2 (back L2)⟩
structure End18 (K : PySem.W.Frag) (n h : Nat) (m : Mch) (ys : List V) : Prop where
  stk : m.stk 0 = []
  ys : ys = [.str "ended", .int 0] ∨ ys = [.str "over"]
  fin : if m.next = none then endX n h m = true else (endX n h (goX (oneP n (hsOf h)) m).1 = true ∧ (goX (oneP n (hsOf h)) m).2.isSome = true)
theorem last_end {n h : Nat} {m m' : Mch} {y : Way} {ys : List V} (c : lastX (oneP n (hsOf h)) n h m y = true) (e : stepX (oneP n (hsOf h)) m y = (m', some ys)) : End18 K n h m' ys := by
  unfold lastX at c
  rw [e] at c
  simp only [Bool.and_eq_true, Bool.or_eq_true, decide_eq_true_eq] at c
  obtain ⟨⟨c1, c2⟩, c3⟩ := c
  refine ⟨List.isEmpty_iff.mp c2, ?_, ?_⟩
  · rcases c1 with c1 | c1
    · exact .inl (Option.some.inj c1)
    · exact .inr (Option.some.inj c1)
  · by_cases hx : m'.next = none
    · rw [if_pos hx] at c3 ⊢
      exact c3
    · rw [if_neg hx] at c3 ⊢
      simpa using c3
theorem fin_any {P : Prog} {n h : Nat} {m : Mch} (c : finX P n h m = true) : m.stk 0 ≠ [] ∧ ∀ y, lastX P n h m y = true := by
  unfold finX at c
  simp only [Bool.and_eq_true, Bool.not_eq_true'] at c
  obtain ⟨c1, c2, c3, c4⟩ := c
  refine ⟨fun z => (by rw [z] at c1; cases c1), fun y => ?_⟩
  cases y
  · exact c4
  · exact c3
  · exact c2
theorem loop_any {P : Prog} {n h k : Nat} {m m' : Mch} {y : Way} {ys : List V} (c : loopX P n h (k + 1) m = true) (hy : y = .out ∨ (y = .over ∧ k < n)) (e : stepX P m y = (m', some ys)) :
    ys = toldX k ∧ (m'.stk 0).length = k + 1 ∧ (∃ f, (m'.stk 0)[0]? = some f ∧ f.names = namesX n k) ∧ loopX P n h k m' = true := by
  unfold loopX at c
  simp only [Bool.and_eq_true, Bool.or_eq_true, decide_eq_true_eq] at c
  obtain ⟨c0, c1, c2, c3, c4, c5⟩ := c
  have eo : stepX P m .out = (m', some ys) := by
    rcases hy with rfl | ⟨rfl, hk⟩
    · exact e
    · rcases c4 with z | z
      · omega
      · rw [← z]
        exact e
  rw [eo] at c1 c2 c3 c5
  refine ⟨Option.some.inj c1, c2, ?_, c5⟩
  dsimp only at c3
  cases ef : (m'.stk 0)[0]? with
  | none =>
    rw [ef] at c3
    cases c3
  | some f =>
    rw [ef] at c3
    exact ⟨f, rfl, Option.some.inj c3⟩
theorem loop_stk {P : Prog} {n h k : Nat} {m : Mch} (c : loopX P n h (k + 1) m = true) : m.stk 0 ≠ [] := by
  unfold loopX at c
  simp only [Bool.and_eq_true, Bool.not_eq_true'] at c
  intro z
  rw [z] at c
  cases c.1
theorem nots18 : ∀ {ys : List V}, ys = [.str "ended", .int 0] ∨ ys = [.str "over"] → ∃ z : Str, ys[0]? = some (.str z) ∧ inV (.str z) [.str "ended", .str "over"] = true := by
  rintro ys (rfl | rfl)
  · exact ⟨"ended", rfl, by decide +kernel⟩
  · exact ⟨"over", rfl, by decide +kernel⟩
theorem end_any {n h : Nat} {m : Mch} (c : endX n h m = true) : m.said = [(0, ((5 + n : Nat) : Int))] ∧ m.held = [((9 * h : Nat) : Int)] := by
  unfold endX at c
  simp only [Bool.and_eq_true, decide_eq_true_eq] at c
  exact c
theorem last_row {s d ha : Addr} {xs : List Int} {G : Hp} {da : Nat → Addr} {n h : Nat} {wa : Addr} {F H : Hp} {w : GW} {v5 v6 v7 v8 v9 : Option V} {D : Ends} (W : W18 K s d xs G da n h wa F w H) (hh : h < 3) (hha : SqT K F ha (((hsOf h).map fun h : Nat => (h : Int)).map V.int)) (c : endX n h w.g.m = true) (q : ∀ H', D.rt (.bl true) H') :
    tRet (tAndV (tOp (rEqD K) (tMeth (He.ga K "Watched") "said" (sp_Watched_said K) [] E0 (tVar 4) tNil) (tLst (tCons (tTup (tCons (tC (.int 0)) (tCons (tOp (rI0 fun i j => .int (i + j)) (tC (.int 5)) (tVar 2)) tNil))) tNil))) (tOp (rEqD K) (tMeth (He.ga K "Watched") "cells" (sp_Watched_cells K) [] E0 (tVar 4) tNil) (tLst (tCons (tOp (rI CMul fun i j => .int (i * j)) (tC (.int 9)) (tOp (rI0 fun i j => .int (i - j)) (tCB (Evl.rLenS K) (tCons (tVar 3) tNil)) (tC (.int 1)))) tNil)))) D
      [some (.ref s), some (.ref d), some (.int (n : Nat)), some (.ref ha), some (.ref wa), v5, v6, v7, v8, v9] H := by
  obtain ⟨c1, c2⟩ := end_any c
  refine st_retI ?_
  refine andV_I (op_I (W.L.said (fun H => by rw [W.a]; exact val_var rfl) fun a H1 L1 => ?_))
  have ga : H1 a = some (.lst (w.g.ts.map V.ref)) := L1.get (List.mem_append_right _ List.mem_cons_self)
  have hts : w.g.ts.length = w.g.said.length := W.o.wf.2
  have gt : ∀ e ∈ saidR w.g.ts w.g.said, H1 e.1 = some e.2 := fun e he => L1.get (List.mem_append_left _ (regW_m _ (regM_said e he)))
  have v2 : Val (tVar 2) [some (.ref s), some (.ref d), some (.int (n : Nat)), some (.ref ha), some (.ref wa), v5, v6, v7, v8, v9] H1 (.int (n : Nat)) := val_var rfl
  refine lst_I' (args_cons (tup_I' (args_cons (val_c _ (args_cons (val_add (val_c (v := .int 5)) v2 _ (args_nil ⟨(by show 2 ≤ sizeLine; decide), fun p hp => args_nil ⟨(by show 1 ≤ sizeLine; decide), fun l hl => ?_⟩⟩)))))))
  have e1 : (5 : Int) + ((n : Nat) : Int) = ((5 + n : Nat) : Int) := by omega
  rw [e1] at hl ⊢
  have eA := same_new (o := .tup [.int 0, .int ((5 + n : Nat) : Int)]) hp
  have eB := eA.trans (same_new (o := .lst [.ref p]) hl)
  have gp : (upd (upd H1 p (.tup [.int 0, .int ((5 + n : Nat) : Int)])) l (.lst [.ref p])) p = some (.tup [.int 0, .int ((5 + n : Nat) : Int)]) := same_new (o := .lst [.ref p]) hl _ _ upd_same
  have d1 := dp_pairs (K := K) (H := upd (upd H1 p (.tup [.int 0, .int ((5 + n : Nat) : Int)])) l (.lst [.ref p])) hts (fun e he => eB _ _ (gt e he))
  have c1' : w.g.said = [(0, ((5 + n : Nat) : Int))] := c1
  rw [c1'] at d1
  refine eq_same (d := .list ([(0, ((5 + n : Nat) : Int))].map pairD)) (.lst (SqL.of (eB _ _ ga)) d1) (.lst (SqL.of upd_same) (.cons (.tup (SqT.of gp) (.cons (.int _) (.cons (.int _) .nil))) .nil)) (shaped_pairs _) ?_
  refine ⟨true, rfl, iteT ?_⟩
  have W2 : W18 K s d xs G da n h wa F w (upd (upd H1 p (.tup [.int 0, .int ((5 + n : Nat) : Int)])) l (.lst [.ref p])) := ⟨W.a, W.ss, W.o, (L1.grow eB).drop⟩
  clear d1 gp eB eA
  generalize upd (upd H1 p _) l _ = H2 at W2 ⊢
  refine op_I (W2.L.cells (fun H => by rw [W2.a]; exact val_var rfl) fun b H3 L3 => ?_)
  have gb : H3 b = some (.lst (w.g.held.map V.int)) := L3.get (List.mem_append_right _ List.mem_cons_self)
  have c2' : w.g.held = [((9 * h : Nat) : Int)] := c2
  rw [c2'] at gb
  have vl := val_lenT (K := K) (σ := [some (.ref s), some (.ref d), some (.int (n : Nat)), some (.ref ha), some (.ref wa), v5, v6, v7, v8, v9]) (ta := tVar 3) (val_var rfl) (same_seqT L3.fr hha)
  rw [List.length_map, List.length_map, hs_len h hh] at vl
  have vm := val_mul (val_c (v := .int 9)) (val_sub vl (val_c (v := .int 1))) (.inl ⟨by decide, by decide⟩)
  have e2 : (9 : Int) * (((h + 1 : Nat) : Int) - 1) = ((9 * h : Nat) : Int) := by omega
  rw [e2] at vm
  refine lst_I' (args_cons (vm _ (args_nil ⟨(by show 1 ≤ sizeLine; decide), fun p2 hp2 => ?_⟩)))
  have eg := same_new (o := .lst [.int ((9 * h : Nat) : Int)]) hp2
  exact eq_same (d := .list (([((9 * h : Nat) : Int)] : List Int).map PyData.int)) (.lst (SqL.of (eg _ _ gb)) (dp_ints [((9 * h : Nat) : Int)])) (.lst (SqL.of upd_same) (dp_ints [((9 * h : Nat) : Int)])) (shaped_ints _) (q _)
theorem rd_law (vs : List V) (H : Hp) (Q : VK) (E : XK) (h : sp_law K vs H Q E) : t_law K { nx := fun _ H' => Q .non H', rt := Q } (start n_law vs) H := by
  obtain ⟨F, s, xs, rfl, sF, hs, hz, q⟩ := h
  refine sq_asg ?_
  refine ⟨_, rfl, F, s, xs, rfl, sF, hs, hz, fun d H1 D => ?_⟩
  have L := LS.of_dice D
  clear D sF
  refine sq_asg ?_
  refine L.nextC 18 (val_var rfl) val_c (by decide) (by decide) fun n H2 hn L => ?_
  replace hn : n < 18 := by omega
  refine sq_asg ?_
  refine bv_hands18 (fun H => val_var rfl) F H2 _ (Same.refl F) L ?_
  rintro F1 H3 v e1 L ⟨h, hh, ha, rfl, hha⟩
  have okP := oneP_ok n h (by omega) hh
  refine sq_asg ?_
  refine make_watched L (bv_one (n := n) (hs := hsOf h) (ha := ha) keeps_LS (fun _ _ _ _ => val_var rfl) (fun _ _ _ _ => val_var rfl) hha) okP fun F2 G da w H4 e2 ess en em o L => ?_
  rw [List.append_nil] at L
  have hck := chkX_all n hn h hh
  unfold chkX at hck
  simp only [Bool.and_eq_true, decide_eq_true_eq] at hck
  obtain ⟨c0, c1, c2, c3⟩ := hck
  have hlen : 0 < (oneP n (hsOf h)).hands.length := by show 0 < (hsOf h).length; rw [hs_len h hh]; omega
  have t1 : AnsH (tOr (tTest (tOp rNe (tMeth (He.ga K "Watched") "stop" (sp_Watched_stop K) [] E0 (tVar 4) (tCons (tC (.int 3)) (tCons (tC (.int 0)) (tCons (tC .non) tNil)))) (tC (.int 0)))) (tTest (tOp (rNeD K) (tMeth (He.ga K "Watched") "go" (sp_Watched_go K) [] E0 (tVar 4) (tCons (tC (.int 500)) tNil)) (tTup (tCons (tC (.str "stop")) (tCons (tC (.int 0)) (tCons (tC (.int 3)) (tCons (tC (.int 0)) tNil))))))))
      [some (.ref s), some (.ref d), some (.int (n : Nat)), some (.ref ha), some (.ref w.a), none, none, none, none, none] H4 false (fun H' => ∃ (F' : Hp) (w' : GW), Same F2 F' ∧ W18 K s d xs G da n h w.a F' w' H' ∧ w'.g.m = (goX (oneP n (hsOf h)) (oneP n (hsOf h)).start).1 ∧ w'.g.m.Big 501) := by
    intro Q q
    refine or_I (test_opI ?_)
    refine L.stop (p := 3) (hand := some 0) (wish := none) o (fun H => val_var rfl) (fun H => val_c) (fun H => val_c) (bv_c fun _ => rfl) (i := ⟨1, .ret (.num 5), []⟩) (by rfl) (fun k hk => by cases hk; exact hlen) (fun _ hp => nomatch hp) (by rw [ess]; decide) fun F3 w3 H5 x dx wv e3 ea3 eg3 en3 es3 o3 L3 => ?_
    rw [en]
    refine ⟨rfl, false, rfl, iteF ?_⟩
    refine test_opI ?_
    have em3 : w3.g.m = (oneP n (hsOf h)).start := by rw [eg3]; exact em
    have hs3 : w3.ss.map GS.z = S18 := by rw [es3, ess, en]; rfl
    refine L3.go (n := 500) (B := 1) o3 (fun H => by rw [ea3]; exact val_var rfl) (fun H => val_c) (by decide) (by rw [em3]; exact c0) (by rw [em3]; exact (start_ok okP).2) (by decide) fun F4 w4 n4 ys t4 H6 e4 ea4 en4 es4 er4 ee4 big4 o4 L4 ht4 => ?_
    have e := gone_X hs3 rfl er4 ee4
    rw [em3] at e
    have e' : goX (oneP n (hsOf h)) (oneP n (hsOf h)).start = (w4.g.m, some ys) := e
    have c1' := c1
    rw [e'] at c1'
    have ey : ys = [.str "stop", .int 0, .int 3, .int 0] := Option.some.inj c1'
    subst ey
    refine tup_I' (args_cons (val_c _ (args_cons (val_c _ (args_cons (val_c _ (args_cons (val_c _ (args_nil ⟨(by show 4 ≤ sizeLine; decide), fun p hp => ?_⟩)))))))))
    have L5 := L4.grow (same_new (o := .tup [.str "stop", .int 0, .int 3, .int 0]) hp)
    refine ne_told (ds := [.str "stop", .int 0, .int 3, .int 0]) (SqT.of (L5.fr _ _ ht4)) (SqT.of upd_same) dp_stop (by decide +kernel) ?_
    exact ⟨false, rfl, q _ ⟨F4, w4, e3.trans e4, ⟨ea4.trans ea3, by rw [es4]; exact hs3, o4, L5⟩, by rw [e'], big4⟩⟩
  refine st_seq (st_noH t1 ?_)
  rintro H5 ⟨F3, w3, e3, W, em3, big3⟩
  refine st_next ?_
  dsimp only
  have ewa : ∃ wa, wa = w.a := ⟨_, rfl⟩
  obtain ⟨wa, ewa⟩ := ewa
  rw [← ewa] at W ⊢
  refine st_seq (st_noH (test_rows W hn hh (by rw [em3]; exact c2)) ?_)
  intro H6 L6
  refine st_next ?_
  dsimp only
  have W6 : W18 K s d xs G da n h wa F3 w3 H6 := ⟨W.a, W.ss, W.o, L6⟩
  clear W L6
  refine sq_set (val_var rfl : Val (tVar 2) [some (.ref s), some (.ref d), some (.int (n : Nat)), some (.ref ha), some (.ref wa), none, none, none, none, none] H6 (.int (n : Nat))) ?_
  have e13 := e2.trans e3
  have rest : ∀ (H : Hp) (v5 v6 v7 : Option V) (t : Addr) (F' : Hp) (w' : GW) (ys : List V) (B : Nat), Same F1 F' → W18 K s d xs G da n h wa F' w' H → End18 K n h w'.g.m ys → F' t = some (.tup ys) → w'.g.m.Big B → B ≤ 30000 →
      (tSeq (tIfS (tTest (tOp (rIn K true) (tOp (rIxT K) (tVar 8) (tC (.int 0))) (tTup (tCons (tC (.str "ended")) (tCons (tC (.str "over")) tNil)))))
        (tRet (tC (.bl false)))
        tNext)
      (tSeq (tIfS (tNot (tB (tMeth (He.ga K "Watched") "is_over" (sp_Watched_is_over K) [] E0 (tVar 4) tNil)))
        (tDrop (tMeth (He.ga K "Watched") "go" (sp_Watched_go K) [] E0 (tVar 4) (tCons (tC (.int 500)) tNil)))
        tNext)
      (tRet (tAndV (tOp (rEqD K) (tMeth (He.ga K "Watched") "said" (sp_Watched_said K) [] E0 (tVar 4) tNil) (tLst (tCons (tTup (tCons (tC (.int 0)) (tCons (tOp (rI0 fun i j => .int (i + j)) (tC (.int 5)) (tVar 2)) tNil))) tNil))) (tOp (rEqD K) (tMeth (He.ga K "Watched") "cells" (sp_Watched_cells K) [] E0 (tVar 4) tNil) (tLst (tCons (tOp (rI CMul fun i j => .int (i * j)) (tC (.int 9)) (tOp (rI0 fun i j => .int (i - j)) (tCB (Evl.rLenS K) (tCons (tVar 3) tNil)) (tC (.int 1)))) tNil)))))))
      { nx := fun _ H' => Q .non H', rt := Q } [some (.ref s), some (.ref d), some (.int (n : Nat)), some (.ref ha), some (.ref wa), v5, v6, v7, some (.ref t), none] H := by
    intro H v5 v6 v7 t F' w' ys B e W E ht big hB
    obtain ⟨z, hz0, hz1⟩ := nots18 E.ys
    have tn : AnsH (tTest (tOp (rIn K true) (tOp (rIxT K) (tVar 8) (tC (.int 0))) (tTup (tCons (tC (.str "ended")) (tCons (tC (.str "over")) tNil))))) [some (.ref s), some (.ref d), some (.int (n : Nat)), some (.ref ha), some (.ref wa), v5, v6, v7, some (.ref t), none] H false (fun H' => LS K F' s xs d (w'.reg K) H') := by
      intro Q q
      refine test_opI ?_
      refine ⟨_, rfl, t, ys, 0, .str z, rfl, rfl, SqT.of (W.L.fr _ _ ht), atI_nat (j := 0) hz0, ?_⟩
      refine tup_I' (args_cons (val_c _ (args_cons (val_c _ (args_nil ⟨(by show 2 ≤ sizeLine; decide), fun p hp => ?_⟩)))))
      refine ⟨p, _, rfl, .inr (SqT.of upd_same), rfl, by rfl, ?_⟩
      refine ⟨false, ?_, q _ (W.L.grow (same_new hp))⟩
      show V.bl (!inV (.str z) [.str "ended", .str "over"]) = _
      rw [hz1]
      rfl
    refine st_seq (st_noH tn ?_)
    intro H1 L1
    refine st_next ?_
    dsimp only
    have W1 : W18 K s d xs G da n h wa F' w' H1 := ⟨W.a, W.ss, W.o, L1⟩
    have vo := W1.L.over (σ := [some (.ref s), some (.ref d), some (.int (n : Nat)), some (.ref ha), some (.ref wa), v5, v6, v7, some (.ref t), none]) (tw := tVar 4) W1.o (fun H => by rw [W1.a]; exact val_var rfl)
    have fin := E.fin
    cases hx : w'.g.m.next with
    | none =>
      rw [hx] at vo
      rw [if_pos hx] at fin
      refine sq_no (ans_not (b := true) (ans_val vo)) ?_
      exact last_row W1 hh (same_seqT e hha) fin q
    | some j =>
      rw [hx] at vo
      rw [if_neg (by rw [hx]; simp)] at fin
      refine sq_yes (ans_not (b := false) (ans_val vo)) (st_dropI ?_)
      refine W1.L.go (n := 500) (B := B) W1.o (fun H => by rw [W1.a]; exact val_var rfl) (fun H => val_c) (by decide) (by rw [hx]; simp) big (by omega) fun F4 w4 n4 ys4 t4 H6 e4 ea4 en4 es4 er4 ee4 big4 o4 L4 ht4 => ?_
      have eX := gone_X W1.ss rfl er4 ee4
      have eX' : goX (oneP n (hsOf h)) w'.g.m = (w4.g.m, some ys4) := eX
      rw [eX'] at fin
      exact last_row (W := ⟨ea4.trans W1.a, by rw [es4]; exact W1.ss, o4, L4⟩) hh (same_seqT (e.trans e4) hha) fin.1 q
  refine st_seq ?_
  refine ⟨fun m σ H => ∃ (k : Nat) (v6 v7 v8 : Option V) (F' : Hp) (w' : GW) (B : Nat), m = k ∧ σ = [some (.ref s), some (.ref d), some (.int (n : Nat)), some (.ref ha), some (.ref wa), some (.int ((k : Int) - 1)), v6, v7, v8, none] ∧ k ≤ n + 1 ∧ Same F1 F' ∧ W18 K s d xs G da n h wa F' w' H ∧ loopX (oneP n (hsOf h)) n h k w'.g.m = true ∧ w'.g.m.Big B ∧ B + 500 * k ≤ 20000,
    ⟨n + 1, n + 1, none, none, none, F3, w3, 501, rfl, ?_, Nat.le_refl _, e13, W6, by rw [em3]; exact c3, big3, by omega⟩, ?_⟩
  · have e5 : (((n + 1 : Nat) : Int) - 1) = (n : Nat) := by omega
    rw [e5]
    rfl
  rintro m σ H7 ⟨k, v6, v7, v8, F5, w5, B, rfl, rfl, hk, e15, W, c, big, hB⟩
  have tt : Ans (tTest (tOp (rI0 fun i j => .bl (decide (j < i))) (tVar 5) (tUn (rU fun i => .int (-i)) (tC (.int 1))))) [some (.ref s), some (.ref d), some (.int (n : Nat)), some (.ref ha), some (.ref wa), some (.int ((m : Int) - 1)), v6, v7, v8, none] H7 (decide (0 < m)) := by
    refine ans_cmp (val_var rfl) val_neg1 fun Q q => ⟨_, _, rfl, rfl, ?_⟩
    have e : decide ((-1 : Int) < (m : Int) - 1) = decide (0 < m) := by
      by_cases z : 0 < m
      · rw [decide_eq_true z, decide_eq_true (by omega)]
      · rw [decide_eq_false z, decide_eq_false (by omega)]
    show Q (.bl (decide ((-1 : Int) < (m : Int) - 1))) H7
    rw [e]
    exact q
  cases m with
  | zero =>
    refine tt _ (iteF ?_)
    obtain ⟨f1, f2⟩ := fin_any (show finX (oneP n (hsOf h)) n h w5.g.m = true from c)
    refine st_seq ⟨2000, rfl, by decide, by decide, ?_⟩
    refine for_it (walk_range (lo := 0) (n := 2000)) (fun i σ H => (i = 0 ∧ σ = [some (.ref s), some (.ref d), some (.int (n : Nat)), some (.ref ha), some (.ref wa), some (.int (((0 : Nat) : Int) - 1)), v6, v7, v8, none] ∧ H = H7) ∨
      (i = 1 ∧ ∃ (v6 v7 : Option V) (t : Addr) (F' : Hp) (w' : GW) (ys : List V) (B : Nat), σ = [some (.ref s), some (.ref d), some (.int (n : Nat)), some (.ref ha), some (.ref wa), some (.int (((0 : Nat) : Int) - 1)), v6, v7, some (.ref t), none] ∧ Same F1 F' ∧ W18 K s d xs G da n h wa F' w' H ∧ End18 K n h w'.g.m ys ∧ F' t = some (.tup ys) ∧ w'.g.m.Big B ∧ B ≤ 30000)) (.inl ⟨rfl, rfl, rfl⟩) (fun _ _ _ _ _ => trivial) ?_ ?_
    · rintro i v σ Ha Hb hi hst ⟨rfl, rfl⟩
      rcases hst with ⟨rfl, rfl, rfl⟩ | ⟨rfl, w6, w7, t, F', w', ys, B', rfl, e', W', E', ht', big', hB'⟩
      · have te := test_empty (σ := [some (.ref s), some (.ref d), some (.int (n : Nat)), some (.ref ha), some (.ref wa), some (.int (((0 : Nat) : Int) - 1)), some (.int (0 + ((0 : Nat) : Int))), v7, v8, none]) W hh (fun H => val_var rfl)
        rw [show (w5.g.m.stk 0).isEmpty = false by cases es : w5.g.m.stk 0 with | nil => exact absurd es f1 | cons a b => rfl] at te
        refine st_seq (st_noH te ?_)
        intro H8 L8
        refine st_next ?_
        dsimp only
        refine st_asgI ?_
        refine LS.stepE (k := 0) (n := 500) (B := B) L8 W.o (fun H => by rw [W.a]; exact val_var rfl) (fun H => val_c) (fun Q q => way_any L8 (fun H => val_var rfl) q) (fun H => val_c) (by decide) hlen f1 big (by omega) fun y F6 w6 n6 ys t6 H9 e6 ea6 en6 es6 er6 ee6 big6 o6 L6 ht6 => ?_
        have eX := gone_X W.ss rfl er6 ee6
        exact .inr ⟨rfl, _, _, t6, F6, w6, ys, B + 500, rfl, e15.trans e6, ⟨ea6.trans W.a, by rw [es6]; exact W.ss, o6, L6⟩, last_end (f2 y) eX, ht6, big6, by omega⟩
      · have te := test_empty (σ := [some (.ref s), some (.ref d), some (.int (n : Nat)), some (.ref ha), some (.ref wa), some (.int (((0 : Nat) : Int) - 1)), some (.int (0 + ((1 : Nat) : Int))), w7, some (.ref t), none]) W' hh (fun H => val_var rfl)
        rw [show (w'.g.m.stk 0).isEmpty = true by rw [E'.stk]; rfl] at te
        refine st_seq (st_yesH te ?_)
        intro H8 L8
        exact rest H8 _ _ _ t F' w' ys B' e' ⟨W'.a, W'.ss, W'.o, L8⟩ E' ht' big' hB'
    · rintro σ Hx (⟨hi, _⟩ | ⟨hi, _⟩)
      · exact absurd hi (by decide)
      · exact absurd hi (by decide)
  | succ k =>
    refine tt _ (iteT ⟨_, fun σ' H' h => h, ?_⟩)
    have e5 : (((k + 1 : Nat) : Int) - 1) = (k : Nat) := by omega
    rw [e5]
    refine sq_asg ?_
    refine way_val (k := k) (n := n) W.L (fun H => val_var rfl) (fun H => val_var rfl) (fun H => val_var rfl) fun y H8 hy L8 => ?_
    refine sq_asg ?_
    refine L8.step (k := 0) (n := 500) (B := B) (y := y) W.o (fun H => by rw [W.a]; exact val_var rfl) (fun H => val_c) (fun H => val_var rfl) (fun H => val_c) (by decide) hlen (loop_stk c) big (by omega) fun F6 w6 n6 ys t6 H9 e6 ea6 en6 es6 er6 ee6 big6 o6 L6 ht6 => ?_
    have eX := gone_X W.ss rfl er6 ee6
    obtain ⟨g1, g2, ⟨f, g3, g4⟩, g5⟩ := loop_any c hy eX
    subst g1
    have W9 : W18 K s d xs G da n h wa F6 w6 H9 := ⟨ea6.trans W.a, by rw [es6]; exact W.ss, o6, L6⟩
    refine st_seq (st_noH (test_step W9 hh ht6 g2) ?_)
    intro H10 L10
    refine st_next ?_
    dsimp only
    have W10 : W18 K s d xs G da n h wa F6 w6 H10 := ⟨W9.a, W9.ss, W9.o, L10⟩
    refine st_seq (st_noH (test_look W10 (by omega) g3 g4) ?_)
    intro H11 L11
    refine st_next ?_
    dsimp only
    refine st_asgI (val_sub (val_var rfl) (val_c (v := .int 1)) _ ?_)
    exact ⟨k, Nat.lt_succ_self _, k, _, _, _, F6, w6, B + 500, rfl, rfl, by omega, e15.trans e6, ⟨W10.a, W10.ss, W10.o, L11⟩, g5, big6, by omega⟩
end
end S
set_option Elab.async false
set_option linter.all false
set_option maxRecDepth 100000
set_option maxHeartbeats 4000000
namespace S
open PySem PySem.Spec PyProof.Rows L2
theorem Tx.fx {w : World} {K : PySem.W.Frag} {mg : Str → Option Value} (T : Tx w K mg) : Fx K := ⟨T.cls_Scope, T.noat_Scope_many_cells, T.noat_Scope_many_names, T.noat_Scope_params, T.cls_Block, T.noat_Block_deeds, T.noat_Block_rounds, T.noat_Block_at, T.cls_Frame, T.noat_Frame_fun, T.noat_Frame_names, T.noat_Frame_blocks, T.cls_Hand, T.noat_Hand_frames, T.cls_Deed, T.noat_Deed_place, T.noat_Deed_fun, T.noat_Deed_told, T.noat_Deed_bodies, T.cls_Layout, T.noat_Layout_deeds, T.noat_Layout_bodies, T.cls_Machine, T.noat_Machine_names_of, T.noat_Machine_layout, T.noat_Machine_held, T.noat_Machine_spoken, T.noat_Machine_hands, T.noat_Machine_up⟩
theorem Tx.gx {w : World} {K : PySem.W.Frag} {mg : Str → Option Value} (T : Tx w K mg) : Gx K := ⟨T.cls_Stop, T.noat_Stop_place, T.noat_Stop_hand, T.noat_Stop_wish, T.cls_Going, T.noat_Going_machine, T.noat_Going_stops, T.noat_Going_hand, T.noat_Going_way, T.noat_Going_many, T.noat_Going_done, T.noat_Going_done_by_hand, T.noat_Going_depth, T.cls_Watched, T.noat_Watched_machine, T.noat_Watched_program, T.noat_Watched_stops, T.noat_Watched_next_stop⟩
theorem Tx.tabOk {w : World} {K : PySem.W.Frag} {mg : Str → Option Value} (T : Tx w K mg) : TabOk K := by
  intro b z ks h
  cases b with
  | false =>
    simp only [kindTab, List.mem_cons, Prod.mk.injEq, List.not_mem_nil, or_false] at h
    rcases h with ⟨rfl, rfl⟩ | ⟨rfl, rfl⟩ | ⟨rfl, rfl⟩ | ⟨rfl, rfl⟩ | ⟨rfl, rfl⟩ | ⟨rfl, rfl⟩ | ⟨rfl, rfl⟩ | ⟨rfl, rfl⟩
    · exact T.val_PARTS_num
    · exact T.val_PARTS_name
    · exact T.val_PARTS_cell
    · exact T.val_PARTS_add
    · exact T.val_PARTS_take
    · exact T.val_PARTS_times
    · exact T.val_PARTS_less
    · exact T.val_PARTS_same
  | true =>
    simp only [kindTab, List.mem_cons, Prod.mk.injEq, List.not_mem_nil, or_false] at h
    rcases h with ⟨rfl, rfl⟩ | ⟨rfl, rfl⟩ | ⟨rfl, rfl⟩ | ⟨rfl, rfl⟩ | ⟨rfl, rfl⟩ | ⟨rfl, rfl⟩ | ⟨rfl, rfl⟩
    · exact T.val_DEEDS_set
    · exact T.val_DEEDS_put
    · exact T.val_DEEDS_say
    · exact T.val_DEEDS_if
    · exact T.val_DEEDS_again
    · exact T.val_DEEDS_call
    · exact T.val_DEEDS_return
section
variable {P : Program} {w : World} {K : PySem.W.Frag} {mg : Str → Option Value} {base : Heap}
theorem sc_is_number : FnScope n_is_number ["what"] (defScope s_is_number) := ⟨rfl, rfl, rfl, by decide +kernel, rfl, by decide +kernel, by decide +kernel⟩
theorem ok_is_number (T : Tx w K mg) :
    Pr P w K mg base 1 (He.ga K "is_number") ["what"] (sp_is_number K) := by
  refine mkPr T.def_is_number sc_is_number (fun _ _ _ _ _ _ us hl => match us, hl with | [_], _ => rfl) (fun vs H Q E h => ?_) (fun cdv A outer s H E hr => ?_) (rd_is_number)
  · unfold sp_is_number at h
    repeat (first | (obtain ⟨e, _⟩ := h; subst e; rfl) | (obtain ⟨_, h⟩ := h))
  · exact (pss_one (ps_ret (pe_and (pe_callB (call_isi) (by rfl) T.free_isinstance (by decide +kernel) (pa_cons (pv 0) (pa_cons (pe_bltn rfl T.free_int (by decide +kernel) rfl) pa_nil))) (pe_one (pe_not (pe_callB (call_isi) (by rfl) T.free_isinstance (by decide +kernel) (pa_cons (pv 0) (pa_cons (pe_bltn rfl T.free_bool (by decide +kernel) rfl) pa_nil))))))))
theorem sc_can_be_held : FnScope n_can_be_held ["what"] (defScope s_can_be_held) := ⟨rfl, rfl, rfl, by decide +kernel, rfl, by decide +kernel, by decide +kernel⟩
theorem ok_can_be_held (T : Tx w K mg)
    (p_is_number : Pr P w K mg base 1 (He.ga K "is_number") ["what"] (sp_is_number K)) :
    Pr P w K mg base 2 (He.ga K "can_be_held") ["what"] (sp_can_be_held K) := by
  obtain ⟨fd_is_number, G_is_number, b_is_number⟩ := p_is_number.ex
  have kp_is_number := p_is_number.kp
  refine mkPr T.def_can_be_held sc_can_be_held (fun _ _ _ _ _ _ us hl => match us, hl with | [_], _ => rfl) (fun vs H Q E h => ?_) (fun cdv A outer s H E hr => ?_) (rd_can_be_held)
  · unfold sp_can_be_held at h
    repeat (first | (obtain ⟨e, _⟩ := h; subst e; rfl) | (obtain ⟨_, h⟩ := h))
  · have hr_is_number : Room 1 _ := hr.mono (by decide)
    exact (pss_one (ps_ret (pe_and (pe_call G_is_number hr_is_number rfl T.glo_is_number kp_is_number b_is_number .nil pass0 (pa_cons (pv 0) pa_nil)) (pe_one (pe_chain op_le op_lt pe_int (pv 0) (pe_gi rfl T.int_MODULUS))))))
theorem sc_kinds_behind : FnScope n_kinds_behind ["word", "is_deed"] (defScope s_kinds_behind) := ⟨rfl, rfl, rfl, by decide +kernel, rfl, by decide +kernel, by decide +kernel⟩
theorem ok_kinds_behind (T : Tx w K mg) :
    Pr P w K mg base 1 (He.ga K "kinds_behind") ["word", "is_deed"] (sp_kinds_behind K) := by
  refine mkPr T.def_kinds_behind sc_kinds_behind (fun _ _ _ _ _ _ us hl => match us, hl with | [_, _], _ => rfl) (fun vs H Q E h => ?_) (fun cdv A outer s H E hr => ?_) (rd_kinds_behind T.tabOk)
  · unfold sp_kinds_behind at h
    repeat (first | (obtain ⟨e, _⟩ := h; subst e; rfl) | (obtain ⟨_, h⟩ := h))
  · exact (pss_one (ps_ret (pe_ifExp (pt_truth (pv 1) (by intro _; rfl)) (pe_kget1 T.tab_DEEDS rfl T.glo_DEEDS (pv 0) ⟨rfl, rfl, rfl, rfl⟩) (pe_kget1 T.tab_PARTS rfl T.glo_PARTS (pv 0) ⟨rfl, rfl, rfl, rfl⟩))))
theorem sc_things_within : FnScope n_things_within ["thing", "is_deed"] (defScope s_things_within) := ⟨rfl, rfl, rfl, by decide +kernel, rfl, by decide +kernel, by decide +kernel⟩
theorem ok_things_within (T : Tx w K mg)
    (p_kinds_behind : Pr P w K mg base 1 (He.ga K "kinds_behind") ["word", "is_deed"] (sp_kinds_behind K)) :
    Pr P w K mg base 2 (He.ga K "things_within") ["thing", "is_deed"] (sp_things_within K) := by
  obtain ⟨fd_kinds_behind, G_kinds_behind, b_kinds_behind⟩ := p_kinds_behind.ex
  have kp_kinds_behind := p_kinds_behind.kp
  refine mkPr T.def_things_within sc_things_within (fun _ _ _ _ _ _ us hl => match us, hl with | [_, _], _ => rfl) (fun vs H Q E h => ?_) (fun cdv A outer s H E hr => ?_) (rd_things_within)
  · unfold sp_things_within at h
    repeat (first | (obtain ⟨e, _⟩ := h; subst e; rfl) | (obtain ⟨_, h⟩ := h))
  · have hr_kinds_behind : Room 1 _ := hr.mono (by decide)
    exact (pss_cons (ps_set (i := 2) sc_things_within.nd rfl (by first | exact Or.inl rfl | exact Or.inr rfl) (pe_lst pa_nil))
    (pss_cons (ps_for PassesOwn.never rfl (RZ.pi_zipA rfl T.free_zip (pa_cons (pe_call G_kinds_behind hr_kinds_behind rfl T.glo_kinds_behind kp_kinds_behind b_kinds_behind .nil pass0 (pa_cons (pe_ix ix_tup (pv 0) pe_int (fun _ _ => rfl)) (pa_cons (pv 1) pa_nil))) (pa_cons (pe_slice sl_tupA (pv 0) (po_some pe_int) po_none) pa_nil))) (pg_tup rfl (pgs_cons (pg_name (i := 3) sc_things_within.nd rfl (by first | exact Or.inl rfl | exact Or.inr rfl)) (pgs_cons (pg_name (i := 4) sc_things_within.nd rfl (by first | exact Or.inl rfl | exact Or.inr rfl)) pgs_nil)))
      (pss_one (ps_if (pt_cmpR op_eq (pv 3) pe_str (nomark _))
        (pss_one (ps_expr (pe_bm PySem.F.plainAttrs_list PySem.F.slot_list_append PySem.F.type_list_append mt_append (pv 2) (pa_cons (pe_tup (pa_cons (pv 4) (pa_cons pe_bl pa_nil))) pa_nil))))
        (pss_one (ps_if (pt_cmpR op_eq (pv 3) pe_str (nomark _))
          (pss_one (ps_expr (pe_bm PySem.F.plainAttrs_list PySem.F.slot_list_extend PySem.F.type_list_extend mt_extend (pv 2) (pa_cons (pe_lc (own := [("part", 5)]) rfl sc_things_within.nd (pi_tup (pv 4)) (blkOk_by (own := [("part", 5)]) (N := ["thing", "is_deed", "found", "kind", "what", "part", "deed"]) (sc := defScope s_things_within) (by decide +kernel)) (fun _ _ _ _ _ => (pg_name (i := 5) sc_things_within.nd rfl (by first | exact Or.inl rfl | exact Or.inr rfl))) (fun _ _ _ _ _ => pts_nil) (fun _ _ _ _ _ => (pe_tup (pa_cons (pv 5) (pa_cons pe_bl pa_nil))))) pa_nil))))
          (pss_one (ps_if (pt_cmpR op_eq (pv 3) pe_str (nomark _))
            (pss_one (ps_expr (pe_bm PySem.F.plainAttrs_list PySem.F.slot_list_extend PySem.F.type_list_extend mt_extend (pv 2) (pa_cons (pe_lc (own := [("deed", 6)]) rfl sc_things_within.nd (pi_tup (pv 4)) (blkOk_by (own := [("deed", 6)]) (N := ["thing", "is_deed", "found", "kind", "what", "part", "deed"]) (sc := defScope s_things_within) (by decide +kernel)) (fun _ _ _ _ _ => (pg_name (i := 6) sc_things_within.nd rfl (by first | exact Or.inl rfl | exact Or.inr rfl))) (fun _ _ _ _ _ => pts_nil) (fun _ _ _ _ _ => (pe_tup (pa_cons (pv 6) (pa_cons pe_bl pa_nil))))) pa_nil))))
            pss_nil)))))))
    (pss_one (ps_ret (pv 2)))))
theorem sc_Scope_init : FnScope n_Scope_init ["self", "program", "fun"] (defScope s_Scope_init) := ⟨rfl, rfl, rfl, by decide +kernel, rfl, by decide +kernel, by decide +kernel⟩
theorem ok_Scope_init (T : Tx w K mg) :
    Pr P w K mg base 1 (He.ma K (He.ga K "Scope") "__init__") ["self", "program", "fun"] (sp_Scope_init K) := by
  refine mkPr T.def_Scope_init sc_Scope_init (fun _ _ _ _ _ _ us hl => match us, hl with | [_, _, _], _ => rfl) (fun vs H Q E h => ?_) (fun cdv A outer s H E hr => ?_) (rd_Scope_init T.fx)
  · unfold sp_Scope_init at h
    repeat (first | (obtain ⟨e, _⟩ := h; subst e; rfl) | (obtain ⟨_, h⟩ := h))
  · exact (pss_cons (ps_asg (pv 1) (pg_tup rfl (pgs_cons (pg_name (i := 3) sc_Scope_init.nd rfl (by first | exact Or.inl rfl | exact Or.inr rfl)) (pgs_cons (pg_name (i := 4) sc_Scope_init.nd rfl (by first | exact Or.inl rfl | exact Or.inr rfl)) (pgs_cons (pg_name (i := 5) sc_Scope_init.nd rfl (by first | exact Or.inl rfl | exact Or.inr rfl)) pgs_nil)))))
    (pss_cons (ps_fld (pv 0) (pe_callB (call_len_seq) (by rfl) T.free_len (by decide +kernel) (pa_cons (pv 3) pa_nil)) rfl)
    (pss_cons (ps_fld (pv 0) (pe_ix ix_tup (pe_ix ix_tup (pv 4) (pv 2) (fun _ _ => rfl)) pe_int (fun _ _ => rfl)) rfl)
    (pss_one (ps_fld (pv 0) (pe_lc (own := [("other", 6)]) rfl sc_Scope_init.nd (pi_tup (pv 4)) (blkOk_by (own := [("other", 6)]) (N := ["self", "program", "fun", "cells", "funs", "_", "other"]) (sc := defScope s_Scope_init) (by decide +kernel)) (fun _ _ _ _ _ => (pg_name (i := 6) sc_Scope_init.nd rfl (by first | exact Or.inl rfl | exact Or.inr rfl))) (fun _ _ _ _ _ => pts_nil) (fun _ _ _ _ _ => (pe_ix ix_tup (pv 6) pe_int (fun _ _ => rfl)))) rfl)))))
theorem sc_check_count : FnScope n_check_count ["many"] (defScope s_check_count) := ⟨rfl, rfl, rfl, by decide +kernel, rfl, by decide +kernel, by decide +kernel⟩
theorem ok_check_count (T : Tx w K mg) :
    Pr P w K mg base 1 (He.ga K "check_count") ["many"] (sp_check_count K) := by
  refine mkPr T.def_check_count sc_check_count (fun _ _ _ _ _ _ us hl => match us, hl with | [_], _ => rfl) (fun vs H Q E h => ?_) (fun cdv A outer s H E hr => ?_) (rd_check_count)
  · unfold sp_check_count at h
    repeat (first | (obtain ⟨e, _⟩ := h; subst e; rfl) | (obtain ⟨_, h⟩ := h))
  · exact (pss_one (ps_if (pt_not (pt_chain op_le op_le pe_int (pv 0) (pe_gi rfl T.int_MOST_DEEDS)))
      (pss_one ps_never)
      pss_nil))
theorem sc__is_of_kind : FnScope n__is_of_kind ["what", "kind"] (defScope s__is_of_kind) := ⟨rfl, rfl, rfl, by decide +kernel, rfl, by decide +kernel, by decide +kernel⟩
theorem ok__is_of_kind (T : Tx w K mg)
    (p_is_number : Pr P w K mg base 1 (He.ga K "is_number") ["what"] (sp_is_number K)) :
    Pr P w K mg base 2 (He.ga K "_is_of_kind") ["what", "kind"] (sp__is_of_kind K) := by
  obtain ⟨fd_is_number, G_is_number, b_is_number⟩ := p_is_number.ex
  have kp_is_number := p_is_number.kp
  refine mkPr T.def__is_of_kind sc__is_of_kind (fun _ _ _ _ _ _ us hl => match us, hl with | [_, _], _ => rfl) (fun vs H Q E h => ?_) (fun cdv A outer s H E hr => ?_) (rd__is_of_kind)
  · unfold sp__is_of_kind at h
    repeat (first | (obtain ⟨e, _⟩ := h; subst e; rfl) | (obtain ⟨_, h⟩ := h))
  · have hr_is_number : Room 1 _ := hr.mono (by decide)
    exact (pss_cons (ps_if (pt_cmpR op_eq (pv 1) pe_str (nomark _))
      (pss_one (ps_ret pe_bl))
      pss_nil)
    (pss_cons (ps_if (pt_cmpR op_in_seq (pv 1) (pe_tup (pa_cons pe_str (pa_cons pe_str pa_nil))) (by with_unfolding_all rfl))
      (pss_one (ps_ret (pe_callB (call_isi) (by rfl) T.free_isinstance (by decide +kernel) (pa_cons (pv 0) (pa_cons (pe_bltn rfl T.free_tuple (by decide +kernel) rfl) pa_nil)))))
      pss_nil)
    (pss_one (ps_ret (pe_call G_is_number hr_is_number rfl T.glo_is_number kp_is_number b_is_number .nil pass0 (pa_cons (pv 0) pa_nil))))))
theorem sc__has_shape : FnScope n__has_shape ["thing", "is_deed"] (defScope s__has_shape) := ⟨rfl, rfl, rfl, by decide +kernel, rfl, by decide +kernel, by decide +kernel⟩
theorem ok__has_shape (T : Tx w K mg)
    (p__is_of_kind : Pr P w K mg base 2 (He.ga K "_is_of_kind") ["what", "kind"] (sp__is_of_kind K))
    (p_kinds_behind : Pr P w K mg base 1 (He.ga K "kinds_behind") ["word", "is_deed"] (sp_kinds_behind K)) :
    Pr P w K mg base 3 (He.ga K "_has_shape") ["thing", "is_deed"] (sp__has_shape K) := by
  obtain ⟨fd__is_of_kind, G__is_of_kind, b__is_of_kind⟩ := p__is_of_kind.ex
  have kp__is_of_kind := p__is_of_kind.kp
  obtain ⟨fd_kinds_behind, G_kinds_behind, b_kinds_behind⟩ := p_kinds_behind.ex
  have kp_kinds_behind := p_kinds_behind.kp
  refine mkPr T.def__has_shape sc__has_shape (fun _ _ _ _ _ _ us hl => match us, hl with | [_, _], _ => rfl) (fun vs H Q E h => ?_) (fun cdv A outer s H E hr => ?_) (rd__has_shape)
  · unfold sp__has_shape at h
    repeat (first | (obtain ⟨e, _⟩ := h; subst e; rfl) | (obtain ⟨_, h⟩ := h))
  · have hr__is_of_kind : Room 2 _ := hr.mono (by decide)
    have hr_kinds_behind : Room 1 _ := hr.mono (by decide)
    exact (pss_cons (ps_if (PW.pt (pw_or (pt_not (pt_val (pe_callB (call_isi) (by rfl) T.free_isinstance (by decide +kernel) (pa_cons (pv 0) (pa_cons (pe_bltn rfl T.free_tuple (by decide +kernel) rfl) pa_nil))))) (pw_or (pt_not (pt_truth (pv 0) (by intro _; rfl))) (pw_or1 (pt_not (pt_val (pe_callB (call_isi) (by rfl) T.free_isinstance (by decide +kernel) (pa_cons (pe_ix ix_tup (pv 0) pe_int (fun _ _ => rfl)) (pa_cons (pe_bltn rfl T.free_str (by decide +kernel) rfl) pa_nil)))))))))
      (pss_one (ps_ret pe_bl))
      pss_nil)
    (pss_cons (ps_set (i := 2) sc__has_shape.nd rfl (by first | exact Or.inl rfl | exact Or.inr rfl) (pe_call G_kinds_behind hr_kinds_behind rfl T.glo_kinds_behind kp_kinds_behind b_kinds_behind .nil pass0 (pa_cons (pe_ix ix_tup (pv 0) pe_int (fun _ _ => rfl)) (pa_cons (pv 1) pa_nil))))
    (pss_cons (ps_if (PW.pt (pw_or (pt_cmpR op_isN (pv 2) pe_non (nomark _)) (pw_or1 (pt_cmpR op_ne (pe_callB (call_len_seq) (by rfl) T.free_len (by decide +kernel) (pa_cons (pv 0) pa_nil)) (pe_op op_add (pe_callB (call_len_seq) (by rfl) T.free_len (by decide +kernel) (pa_cons (pv 2) pa_nil)) pe_int) (nomark _)))))
      (pss_one (ps_ret pe_bl))
      pss_nil)
    (pss_one (ps_ret (pe_callB (cr_all rfl) (by rfl) T.free_all (by decide +kernel) (pa_cons (pe_lc (own := [("kind", 3), ("what", 4)]) rfl sc__has_shape.nd (RZ.pi_zipA rfl T.free_zip (pa_cons (pv 2) (pa_cons (pe_slice sl_tupA (pv 0) (po_some pe_int) po_none) pa_nil))) (blkOk_by (own := [("kind", 3), ("what", 4)]) (N := ["thing", "is_deed", "kinds", "kind", "what"]) (sc := defScope s__has_shape) (by decide +kernel)) (fun _ _ _ _ _ => (pg_tup rfl (pgs_cons (pg_name (i := 3) sc__has_shape.nd rfl (by first | exact Or.inl rfl | exact Or.inr rfl)) (pgs_cons (pg_name (i := 4) sc__has_shape.nd rfl (by first | exact Or.inl rfl | exact Or.inr rfl)) pgs_nil)))) (fun _ _ _ _ _ => pts_nil) (fun _ _ _ _ _ => (pe_call G__is_of_kind hr__is_of_kind rfl T.glo__is_of_kind kp__is_of_kind b__is_of_kind .nil pass0 (pa_cons (pv 4) (pa_cons (pv 3) pa_nil))))) pa_nil)))))))
theorem sc__fault_of : FnScope n__fault_of ["thing", "is_deed", "scope"] (defScope s__fault_of) := ⟨rfl, rfl, rfl, by decide +kernel, rfl, by decide +kernel, by decide +kernel⟩
theorem ok__fault_of (T : Tx w K mg)
    (p_kinds_behind : Pr P w K mg base 1 (He.ga K "kinds_behind") ["word", "is_deed"] (sp_kinds_behind K))
    (p_can_be_held : Pr P w K mg base 2 (He.ga K "can_be_held") ["what"] (sp_can_be_held K))
    (p__has_shape : Pr P w K mg base 3 (He.ga K "_has_shape") ["thing", "is_deed"] (sp__has_shape K)) :
    Pr P w K mg base 4 (He.ga K "_fault_of") ["thing", "is_deed", "scope"] (sp__fault_of K) := by
  obtain ⟨fd_kinds_behind, G_kinds_behind, b_kinds_behind⟩ := p_kinds_behind.ex
  have kp_kinds_behind := p_kinds_behind.kp
  obtain ⟨fd_can_be_held, G_can_be_held, b_can_be_held⟩ := p_can_be_held.ex
  have kp_can_be_held := p_can_be_held.kp
  obtain ⟨fd__has_shape, G__has_shape, b__has_shape⟩ := p__has_shape.ex
  have kp__has_shape := p__has_shape.kp
  refine mkPr T.def__fault_of sc__fault_of (fun _ _ _ _ _ _ us hl => match us, hl with | [_, _, _], _ => rfl) (fun vs H Q E h => ?_) (fun cdv A outer s H E hr => ?_) (rd__fault_of T.fx)
  · unfold sp__fault_of at h
    repeat (first | (obtain ⟨e, _⟩ := h; subst e; rfl) | (obtain ⟨_, h⟩ := h))
  · have hr_kinds_behind : Room 1 _ := hr.mono (by decide)
    have hr_can_be_held : Room 2 _ := hr.mono (by decide)
    have hr__has_shape : Room 3 _ := hr.mono (by decide)
    exact (pss_cons (ps_if (pt_not (pt_val (pe_call G__has_shape hr__has_shape rfl T.glo__has_shape kp__has_shape b__has_shape .nil pass0 (pa_cons (pv 0) (pa_cons (pv 1) pa_nil)))))
      (pss_one (ps_ret pe_str))
      pss_nil)
    (pss_cons (ps_for PassesOwn.never rfl (RZ.pi_zipA rfl T.free_zip (pa_cons (pe_call G_kinds_behind hr_kinds_behind rfl T.glo_kinds_behind kp_kinds_behind b_kinds_behind .nil pass0 (pa_cons (pe_ix ix_tup (pv 0) pe_int (fun _ _ => rfl)) (pa_cons (pv 1) pa_nil))) (pa_cons (pe_slice sl_tupA (pv 0) (po_some pe_int) po_none) pa_nil))) (pg_tup rfl (pgs_cons (pg_name (i := 3) sc__fault_of.nd rfl (by first | exact Or.inl rfl | exact Or.inr rfl)) (pgs_cons (pg_name (i := 4) sc__fault_of.nd rfl (by first | exact Or.inl rfl | exact Or.inr rfl)) pgs_nil)))
      (pss_cons (ps_if (PW.pt (pw_and (pt_cmpR op_eq (pv 3) pe_str (nomark _)) (pw_and1 (pt_not (pt_val (pe_call G_can_be_held hr_can_be_held rfl T.glo_can_be_held kp_can_be_held b_can_be_held .nil pass0 (pa_cons (pv 4) pa_nil)))))))
        (pss_one (ps_ret pe_str))
        pss_nil)
      (pss_cons (ps_if (PW.pt (pw_and (pt_cmpR op_eq (pv 3) pe_str (nomark _)) (pw_and1 (pt_not (pt_chain op_le op_lt pe_int (pv 4) (pe_fld (pv 2) rfl))))))
        (pss_one (ps_ret pe_str))
        pss_nil)
      (pss_cons (ps_if (PW.pt (pw_and (pt_cmpR op_eq (pv 3) pe_str (nomark _)) (pw_and1 (pt_not (pt_chain op_le op_lt pe_int (pv 4) (pe_fld (pv 2) rfl))))))
        (pss_one (ps_ret pe_str))
        pss_nil)
      (pss_cons (ps_if (PW.pt (pw_and (pt_cmpR op_eq (pv 3) pe_str (nomark _)) (pw_and1 (pt_not (pt_chain op_le op_lt pe_int (pv 4) (pe_callB (call_len_seq) (by rfl) T.free_len (by decide +kernel) (pa_cons (pe_fld (pv 2) rfl) pa_nil)))))))
        (pss_one (ps_ret pe_str))
        pss_nil)
      (pss_one (ps_if (PW.pt (pw_and (pt_cmpR op_eq (pv 3) pe_str (nomark _)) (pw_and1 (pt_cmpR op_ne (pe_callB (call_len_seq) (by rfl) T.free_len (by decide +kernel) (pa_cons (pv 4) pa_nil)) (pe_ix ix_list (pe_fld (pv 2) rfl) (pe_ix ix_tup (pv 0) pe_int (fun _ _ => rfl)) (fun _ _ => rfl)) (nomark _)))))
        (pss_one (ps_ret pe_str))
        pss_nil)))))))
    (pss_one (ps_ret pe_non))))
theorem sc__fault_by_limits : FnScope n__fault_by_limits ["at", "above"] (defScope s__fault_by_limits) := ⟨rfl, rfl, rfl, by decide +kernel, rfl, by decide +kernel, by decide +kernel⟩
theorem ok__fault_by_limits (T : Tx w K mg) :
    Pr P w K mg base 1 (He.ga K "_fault_by_limits") ["at", "above"] (sp__fault_by_limits K) := by
  refine mkPr T.def__fault_by_limits sc__fault_by_limits (fun _ _ _ _ _ _ us hl => match us, hl with | [_, _], _ => rfl) (fun vs H Q E h => ?_) (fun cdv A outer s H E hr => ?_) (rd__fault_by_limits)
  · unfold sp__fault_by_limits at h
    repeat (first | (obtain ⟨e, _⟩ := h; subst e; rfl) | (obtain ⟨_, h⟩ := h))
  · exact (pss_cons (ps_if (pt_cmpR op_ge (pv 0) (pe_gi rfl T.int_MOST_THINGS) (nomark _))
      (pss_one (ps_ret pe_str))
      pss_nil)
    (pss_cons (ps_if (pt_cmpR op_gt (pv 1) (pe_gi rfl T.int_MOST_ABOVE) (nomark _))
      (pss_one (ps_ret pe_str))
      pss_nil)
    (pss_one (ps_ret pe_non))))
theorem sc__check_body : FnScope n__check_body ["body", "scope", "first"] (defScope s__check_body) := ⟨rfl, rfl, rfl, by decide +kernel, rfl, by decide +kernel, by decide +kernel⟩
theorem ok__check_body (T : Tx w K mg)
    (p_things_within : Pr P w K mg base 2 (He.ga K "things_within") ["thing", "is_deed"] (sp_things_within K))
    (p__fault_of : Pr P w K mg base 4 (He.ga K "_fault_of") ["thing", "is_deed", "scope"] (sp__fault_of K))
    (p__fault_by_limits : Pr P w K mg base 1 (He.ga K "_fault_by_limits") ["at", "above"] (sp__fault_by_limits K)) :
    Pr P w K mg base 5 (He.ga K "_check_body") ["body", "scope", "first"] (sp__check_body K) := by
  obtain ⟨fd_things_within, G_things_within, b_things_within⟩ := p_things_within.ex
  have kp_things_within := p_things_within.kp
  obtain ⟨fd__fault_of, G__fault_of, b__fault_of⟩ := p__fault_of.ex
  have kp__fault_of := p__fault_of.kp
  obtain ⟨fd__fault_by_limits, G__fault_by_limits, b__fault_by_limits⟩ := p__fault_by_limits.ex
  have kp__fault_by_limits := p__fault_by_limits.kp
  refine mkPr T.def__check_body sc__check_body (fun _ _ _ _ _ _ us hl => match us, hl with | [_, _, _], _ => rfl) (fun vs H Q E h => ?_) (fun cdv A outer s H E hr => ?_) (rd__check_body)
  · unfold sp__check_body at h
    repeat (first | (obtain ⟨e, _⟩ := h; subst e; rfl) | (obtain ⟨_, h⟩ := h))
  · have hr_things_within : Room 2 _ := hr.mono (by decide)
    have hr__fault_of : Room 4 _ := hr.mono (by decide)
    have hr__fault_by_limits : Room 1 _ := hr.mono (by decide)
    exact (pss_cons (ps_set (i := 3) sc__check_body.nd rfl (by first | exact Or.inl rfl | exact Or.inr rfl) (pv 2))
    (pss_cons (ps_setLc (i := 4) (own := [("deed", 10)]) rfl sc__check_body.nd rfl rfl (sw_true rfl rfl rfl (by decide +kernel)) (RT.pi_revA rfl T.free_reversed (pv 0)) (blkOk_by (own := [("deed", 10)]) (N := ["body", "scope", "first", "at", "waiting", "why", "within", "thing", "is_deed", "above", "deed", "inner", "is_inner_deed"]) (sc := defScope s__check_body) (by decide +kernel)) (fun _ _ _ _ _ => (pg_name (i := 10) sc__check_body.nd rfl (by first | exact Or.inl rfl | exact Or.inr rfl))) (fun _ _ _ _ _ => pts_nil) (fun _ _ _ _ _ => (pe_tup (pa_cons (pv 10) (pa_cons pe_bl (pa_cons pe_int pa_nil))))))
    (pss_cons (ps_while PassesOwn.never (pt_truth (pv 4) (by intro _; rfl))
      (pss_cons (ps_asg (pe_bm0 PySem.F.plainAttrs_list PySem.F.slot_list_pop PySem.F.type_list_pop mt_pop (pv 4)) (pg_tup rfl (pgs_cons (pg_name (i := 7) sc__check_body.nd rfl (by first | exact Or.inl rfl | exact Or.inr rfl)) (pgs_cons (pg_name (i := 8) sc__check_body.nd rfl (by first | exact Or.inl rfl | exact Or.inr rfl)) (pgs_cons (pg_name (i := 9) sc__check_body.nd rfl (by first | exact Or.inl rfl | exact Or.inr rfl)) pgs_nil)))))
      (pss_cons (ps_set (i := 5) sc__check_body.nd rfl (by first | exact Or.inl rfl | exact Or.inr rfl) (pe_call G__fault_by_limits hr__fault_by_limits rfl T.glo__fault_by_limits kp__fault_by_limits b__fault_by_limits .nil pass0 (pa_cons (pv 3) (pa_cons (pv 9) pa_nil))))
      (pss_cons (ps_if (pt_cmpR op_isN (pv 5) pe_non (nomark _))
        (pss_one (ps_set (i := 5) sc__check_body.nd rfl (by first | exact Or.inl rfl | exact Or.inr rfl) (pe_call G__fault_of hr__fault_of rfl T.glo__fault_of kp__fault_of b__fault_of .nil pass0 (pa_cons (pv 7) (pa_cons (pv 8) (pa_cons (pv 1) pa_nil))))))
        pss_nil)
      (pss_cons (ps_if (pt_cmpR op_notN (pv 5) pe_non (nomark _))
        (pss_one ps_never)
        pss_nil)
      (pss_cons (ps_set (i := 6) sc__check_body.nd rfl (by first | exact Or.inl rfl | exact Or.inr rfl) (pe_call G_things_within hr_things_within rfl T.glo_things_within kp_things_within b_things_within .nil pass0 (pa_cons (pv 7) (pa_cons (pv 8) pa_nil))))
      (pss_cons (ps_expr (pe_bm PySem.F.plainAttrs_list PySem.F.slot_list_extend PySem.F.type_list_extend mt_extend (pv 4) (pa_cons (pe_lc (own := [("inner", 11), ("is_inner_deed", 12)]) rfl sc__check_body.nd (pi_reversed rfl T.free_reversed (pa_cons (pv 6) pa_nil)) (blkOk_by (own := [("inner", 11), ("is_inner_deed", 12)]) (N := ["body", "scope", "first", "at", "waiting", "why", "within", "thing", "is_deed", "above", "deed", "inner", "is_inner_deed"]) (sc := defScope s__check_body) (by decide +kernel)) (fun _ _ _ _ _ => (pg_tup rfl (pgs_cons (pg_name (i := 11) sc__check_body.nd rfl (by first | exact Or.inl rfl | exact Or.inr rfl)) (pgs_cons (pg_name (i := 12) sc__check_body.nd rfl (by first | exact Or.inl rfl | exact Or.inr rfl)) pgs_nil)))) (fun _ _ _ _ _ => pts_nil) (fun _ _ _ _ _ => (pe_tup (pa_cons (pv 11) (pa_cons (pv 12) (pa_cons (pe_op op_add (pv 9) pe_int) pa_nil)))))) pa_nil)))
      (pss_one (ps_aug (i := 3) sc__check_body.nd rfl (by first | exact Or.inl rfl | exact Or.inr rfl) pe_int ip_add)))))))))
    (pss_one (ps_ret (pv 3))))))
theorem sc__can_be_done : FnScope n__can_be_done ["fun", "funs"] (defScope s__can_be_done) := ⟨rfl, rfl, rfl, by decide +kernel, rfl, by decide +kernel, by decide +kernel⟩
theorem ok__can_be_done (T : Tx w K mg)
    (p_is_number : Pr P w K mg base 1 (He.ga K "is_number") ["what"] (sp_is_number K)) :
    Pr P w K mg base 2 (He.ga K "_can_be_done") ["fun", "funs"] (sp__can_be_done K) := by
  obtain ⟨fd_is_number, G_is_number, b_is_number⟩ := p_is_number.ex
  have kp_is_number := p_is_number.kp
  refine mkPr T.def__can_be_done sc__can_be_done (fun _ _ _ _ _ _ us hl => match us, hl with | [_, _], _ => rfl) (fun vs H Q E h => ?_) (fun cdv A outer s H E hr => ?_) (rd__can_be_done)
  · unfold sp__can_be_done at h
    repeat (first | (obtain ⟨e, _⟩ := h; subst e; rfl) | (obtain ⟨_, h⟩ := h))
  · have hr_is_number : Room 1 _ := hr.mono (by decide)
    exact (pss_one (ps_ret (pe_and (pe_call G_is_number hr_is_number rfl T.glo_is_number kp_is_number b_is_number .nil pass0 (pa_cons (pv 0) pa_nil)) (pe_and (pe_chain op_le op_lt pe_int (pv 0) (pe_callB (call_len_seq) (by rfl) T.free_len (by decide +kernel) (pa_cons (pv 1) pa_nil))) (pe_one (pe_cmpR op_eq (pe_ix ix_tup (pe_ix ix_tup (pv 1) (pv 0) (fun _ _ => rfl)) pe_int (fun _ _ => rfl)) pe_int (nomark _)))))))
theorem sc__is_tuple_of : FnScope n__is_tuple_of ["what", "most"] (defScope s__is_tuple_of) := ⟨rfl, rfl, rfl, by decide +kernel, rfl, by decide +kernel, by decide +kernel⟩
theorem ok__is_tuple_of (T : Tx w K mg) :
    Pr P w K mg base 1 (He.ga K "_is_tuple_of") ["what", "most"] (sp__is_tuple_of K) := by
  refine mkPr T.def__is_tuple_of sc__is_tuple_of (fun _ _ _ _ _ _ us hl => match us, hl with | [_, _], _ => rfl) (fun vs H Q E h => ?_) (fun cdv A outer s H E hr => ?_) (rd__is_tuple_of)
  · unfold sp__is_tuple_of at h
    repeat (first | (obtain ⟨e, _⟩ := h; subst e; rfl) | (obtain ⟨_, h⟩ := h))
  · exact (pss_one (ps_ret (pe_and (pe_callB (call_isi) (by rfl) T.free_isinstance (by decide +kernel) (pa_cons (pv 0) (pa_cons (pe_bltn rfl T.free_tuple (by decide +kernel) rfl) pa_nil))) (pe_one (pe_chain op_le op_le pe_int (pe_callB (call_len_seq) (by rfl) T.free_len (by decide +kernel) (pa_cons (pv 0) pa_nil)) (pv 1))))))
theorem sc__has_names : FnScope n__has_names ["fun"] (defScope s__has_names) := ⟨rfl, rfl, rfl, by decide +kernel, rfl, by decide +kernel, by decide +kernel⟩
theorem ok__has_names (T : Tx w K mg)
    (p_is_number : Pr P w K mg base 1 (He.ga K "is_number") ["what"] (sp_is_number K)) :
    Pr P w K mg base 2 (He.ga K "_has_names") ["fun"] (sp__has_names K) := by
  obtain ⟨fd_is_number, G_is_number, b_is_number⟩ := p_is_number.ex
  have kp_is_number := p_is_number.kp
  refine mkPr T.def__has_names sc__has_names (fun _ _ _ _ _ _ us hl => match us, hl with | [_], _ => rfl) (fun vs H Q E h => ?_) (fun cdv A outer s H E hr => ?_) (rd__has_names)
  · unfold sp__has_names at h
    repeat (first | (obtain ⟨e, _⟩ := h; subst e; rfl) | (obtain ⟨_, h⟩ := h))
  · have hr_is_number : Room 1 _ := hr.mono (by decide)
    exact (pss_cons (ps_asg (pv 0) (pg_tup rfl (pgs_cons (pg_name (i := 1) sc__has_names.nd rfl (by first | exact Or.inl rfl | exact Or.inr rfl)) (pgs_cons (pg_name (i := 2) sc__has_names.nd rfl (by first | exact Or.inl rfl | exact Or.inr rfl)) (pgs_cons (pg_name (i := 3) sc__has_names.nd rfl (by first | exact Or.inl rfl | exact Or.inr rfl)) pgs_nil)))))
    (pss_one (ps_ret (pe_and (pe_call G_is_number hr_is_number rfl T.glo_is_number kp_is_number b_is_number .nil pass0 (pa_cons (pv 1) pa_nil)) (pe_and (pe_call G_is_number hr_is_number rfl T.glo_is_number kp_is_number b_is_number .nil pass0 (pa_cons (pv 2) pa_nil)) (pe_one (pe_chain3 op_le op_le op_le pe_int (pv 1) (pv 2) (pe_gi rfl T.int_MOST_NAMES))))))))
theorem sc__is_fun : FnScope n__is_fun ["fun"] (defScope s__is_fun) := ⟨rfl, rfl, rfl, by decide +kernel, rfl, by decide +kernel, by decide +kernel⟩
theorem ok__is_fun (T : Tx w K mg) :
    Pr P w K mg base 1 (He.ga K "_is_fun") ["fun"] (sp__is_fun K) := by
  refine mkPr T.def__is_fun sc__is_fun (fun _ _ _ _ _ _ us hl => match us, hl with | [_], _ => rfl) (fun vs H Q E h => ?_) (fun cdv A outer s H E hr => ?_) (rd__is_fun)
  · unfold sp__is_fun at h
    repeat (first | (obtain ⟨e, _⟩ := h; subst e; rfl) | (obtain ⟨_, h⟩ := h))
  · exact (pss_one (ps_ret (pe_and (pe_callB (call_isi) (by rfl) T.free_isinstance (by decide +kernel) (pa_cons (pv 0) (pa_cons (pe_bltn rfl T.free_tuple (by decide +kernel) rfl) pa_nil))) (pe_and (pe_cmpR op_eq (pe_callB (call_len_seq) (by rfl) T.free_len (by decide +kernel) (pa_cons (pv 0) pa_nil)) pe_int (nomark _)) (pe_one (pe_callB (call_isi) (by rfl) T.free_isinstance (by decide +kernel) (pa_cons (pe_ix ix_tup (pv 0) pe_int (fun _ _ => rfl)) (pa_cons (pe_bltn rfl T.free_tuple (by decide +kernel) rfl) pa_nil))))))))
theorem sc__fault_of_head : FnScope n__fault_of_head ["program"] (defScope s__fault_of_head) := ⟨rfl, rfl, rfl, by decide +kernel, rfl, by decide +kernel, by decide +kernel⟩
theorem ok__fault_of_head (T : Tx w K mg)
    (p__can_be_done : Pr P w K mg base 2 (He.ga K "_can_be_done") ["fun", "funs"] (sp__can_be_done K))
    (p__is_tuple_of : Pr P w K mg base 1 (He.ga K "_is_tuple_of") ["what", "most"] (sp__is_tuple_of K))
    (p__has_names : Pr P w K mg base 2 (He.ga K "_has_names") ["fun"] (sp__has_names K))
    (p__is_fun : Pr P w K mg base 1 (He.ga K "_is_fun") ["fun"] (sp__is_fun K))
    (p_can_be_held : Pr P w K mg base 2 (He.ga K "can_be_held") ["what"] (sp_can_be_held K)) :
    Pr P w K mg base 3 (He.ga K "_fault_of_head") ["program"] (sp__fault_of_head K) := by
  obtain ⟨fd__can_be_done, G__can_be_done, b__can_be_done⟩ := p__can_be_done.ex
  have kp__can_be_done := p__can_be_done.kp
  obtain ⟨fd__is_tuple_of, G__is_tuple_of, b__is_tuple_of⟩ := p__is_tuple_of.ex
  have kp__is_tuple_of := p__is_tuple_of.kp
  obtain ⟨fd__has_names, G__has_names, b__has_names⟩ := p__has_names.ex
  have kp__has_names := p__has_names.kp
  obtain ⟨fd__is_fun, G__is_fun, b__is_fun⟩ := p__is_fun.ex
  have kp__is_fun := p__is_fun.kp
  obtain ⟨fd_can_be_held, G_can_be_held, b_can_be_held⟩ := p_can_be_held.ex
  have kp_can_be_held := p_can_be_held.kp
  refine mkPr T.def__fault_of_head sc__fault_of_head (fun _ _ _ _ _ _ us hl => match us, hl with | [_], _ => rfl) (fun vs H Q E h => ?_) (fun cdv A outer s H E hr => ?_) (rd__fault_of_head)
  · unfold sp__fault_of_head at h
    repeat (first | (obtain ⟨e, _⟩ := h; subst e; rfl) | (obtain ⟨_, h⟩ := h))
  · have hr__can_be_done : Room 2 _ := hr.mono (by decide)
    have hr__is_tuple_of : Room 1 _ := hr.mono (by decide)
    have hr__has_names : Room 2 _ := hr.mono (by decide)
    have hr__is_fun : Room 1 _ := hr.mono (by decide)
    have hr_can_be_held : Room 2 _ := hr.mono (by decide)
    exact (pss_cons (ps_asg (pv 0) (pg_tup rfl (pgs_cons (pg_name (i := 1) sc__fault_of_head.nd rfl (by first | exact Or.inl rfl | exact Or.inr rfl)) (pgs_cons (pg_name (i := 2) sc__fault_of_head.nd rfl (by first | exact Or.inl rfl | exact Or.inr rfl)) (pgs_cons (pg_name (i := 3) sc__fault_of_head.nd rfl (by first | exact Or.inl rfl | exact Or.inr rfl)) pgs_nil)))))
    (pss_cons (ps_if (PW.pt (pw_or (pt_not (pt_val (pe_call G__is_tuple_of hr__is_tuple_of rfl T.glo__is_tuple_of kp__is_tuple_of b__is_tuple_of .nil pass0 (pa_cons (pv 1) (pa_cons (pe_gi rfl T.int_MOST_CELLS) pa_nil))))) (pw_or1 (pt_not (pt_val (pe_callB (cr_all rfl) (by rfl) T.free_all (by decide +kernel) (pa_cons (pe_lc (own := [("number", 5)]) rfl sc__fault_of_head.nd (pi_tup (pv 1)) (blkOk_by (own := [("number", 5)]) (N := ["program", "cells", "funs", "hands", "fun", "number"]) (sc := defScope s__fault_of_head) (by decide +kernel)) (fun _ _ _ _ _ => (pg_name (i := 5) sc__fault_of_head.nd rfl (by first | exact Or.inl rfl | exact Or.inr rfl))) (fun _ _ _ _ _ => pts_nil) (fun _ _ _ _ _ => (pe_call G_can_be_held hr_can_be_held rfl T.glo_can_be_held kp_can_be_held b_can_be_held .nil pass0 (pa_cons (pv 5) pa_nil)))) pa_nil)))))))
      (pss_one (ps_ret pe_str))
      pss_nil)
    (pss_cons (ps_if (PW.pt (pw_or (pt_not (pt_val (pe_call G__is_tuple_of hr__is_tuple_of rfl T.glo__is_tuple_of kp__is_tuple_of b__is_tuple_of .nil pass0 (pa_cons (pv 2) (pa_cons (pe_gi rfl T.int_MOST_FUNS) pa_nil))))) (pw_or1 (pt_not (pt_val (pe_callB (cr_all rfl) (by rfl) T.free_all (by decide +kernel) (pa_cons (pe_lc (own := [("fun", 4)]) rfl sc__fault_of_head.nd (pi_tup (pv 2)) (blkOk_by (own := [("fun", 4)]) (N := ["program", "cells", "funs", "hands", "fun", "number"]) (sc := defScope s__fault_of_head) (by decide +kernel)) (fun _ _ _ _ _ => (pg_name (i := 4) sc__fault_of_head.nd rfl (by first | exact Or.inl rfl | exact Or.inr rfl))) (fun _ _ _ _ _ => pts_nil) (fun _ _ _ _ _ => (pe_call G__is_fun hr__is_fun rfl T.glo__is_fun kp__is_fun b__is_fun .nil pass0 (pa_cons (pv 4) pa_nil)))) pa_nil)))))))
      (pss_one (ps_ret pe_str))
      pss_nil)
    (pss_cons (ps_if (pt_not (pt_val (pe_callB (cr_all rfl) (by rfl) T.free_all (by decide +kernel) (pa_cons (pe_lc (own := [("fun", 4)]) rfl sc__fault_of_head.nd (pi_tup (pv 2)) (blkOk_by (own := [("fun", 4)]) (N := ["program", "cells", "funs", "hands", "fun", "number"]) (sc := defScope s__fault_of_head) (by decide +kernel)) (fun _ _ _ _ _ => (pg_name (i := 4) sc__fault_of_head.nd rfl (by first | exact Or.inl rfl | exact Or.inr rfl))) (fun _ _ _ _ _ => pts_nil) (fun _ _ _ _ _ => (pe_call G__has_names hr__has_names rfl T.glo__has_names kp__has_names b__has_names .nil pass0 (pa_cons (pv 4) pa_nil)))) pa_nil))))
      (pss_one (ps_ret pe_str))
      pss_nil)
    (pss_cons (ps_if (PW.pt (pw_or (pt_not (pt_val (pe_call G__is_tuple_of hr__is_tuple_of rfl T.glo__is_tuple_of kp__is_tuple_of b__is_tuple_of .nil pass0 (pa_cons (pv 3) (pa_cons (pe_gi rfl T.int_MOST_HANDS) pa_nil))))) (pw_or1 (pt_not (pt_val (pe_callB (cr_all rfl) (by rfl) T.free_all (by decide +kernel) (pa_cons (pe_lc (own := [("fun", 4)]) rfl sc__fault_of_head.nd (pi_tup (pv 3)) (blkOk_by (own := [("fun", 4)]) (N := ["program", "cells", "funs", "hands", "fun", "number"]) (sc := defScope s__fault_of_head) (by decide +kernel)) (fun _ _ _ _ _ => (pg_name (i := 4) sc__fault_of_head.nd rfl (by first | exact Or.inl rfl | exact Or.inr rfl))) (fun _ _ _ _ _ => pts_nil) (fun _ _ _ _ _ => (pe_call G__can_be_done hr__can_be_done rfl T.glo__can_be_done kp__can_be_done b__can_be_done .nil pass0 (pa_cons (pv 4) (pa_cons (pv 2) pa_nil))))) pa_nil)))))))
      (pss_one (ps_ret pe_str))
      pss_nil)
    (pss_one (ps_ret pe_non)))))))
theorem sc_check_program : FnScope n_check_program ["program"] (defScope s_check_program) := ⟨rfl, rfl, rfl, by decide +kernel, rfl, by decide +kernel, by decide +kernel⟩
theorem ok_check_program (T : Tx w K mg)
    (p__check_body : Pr P w K mg base 5 (He.ga K "_check_body") ["body", "scope", "first"] (sp__check_body K))
    (p_Scope_init : Pr P w K mg base 1 (He.ma K (He.ga K "Scope") "__init__") ["self", "program", "fun"] (sp_Scope_init K))
    (p__fault_of_head : Pr P w K mg base 3 (He.ga K "_fault_of_head") ["program"] (sp__fault_of_head K)) :
    Pr P w K mg base 6 (He.ga K "check_program") ["program"] (sp_check_program K) := by
  obtain ⟨fd__check_body, G__check_body, b__check_body⟩ := p__check_body.ex
  have kp__check_body := p__check_body.kp
  obtain ⟨fd_Scope_init, G_Scope_init, b_Scope_init⟩ := p_Scope_init.ex
  have kp_Scope_init := p_Scope_init.kp
  obtain ⟨fd__fault_of_head, G__fault_of_head, b__fault_of_head⟩ := p__fault_of_head.ex
  have kp__fault_of_head := p__fault_of_head.kp
  refine mkPr T.def_check_program sc_check_program (fun _ _ _ _ _ _ us hl => match us, hl with | [_], _ => rfl) (fun vs H Q E h => ?_) (fun cdv A outer s H E hr => ?_) (rd_check_program T.fx)
  · unfold sp_check_program at h
    repeat (first | (obtain ⟨e, _⟩ := h; subst e; rfl) | (obtain ⟨_, h⟩ := h))
  · have hr__check_body : Room 5 _ := hr.mono (by decide)
    have hr_Scope_init : Room 2 _ := hr.mono (by decide)
    have hr__fault_of_head : Room 3 _ := hr.mono (by decide)
    exact (pss_cons (ps_set (i := 1) sc_check_program.nd rfl (by first | exact Or.inl rfl | exact Or.inr rfl) (pe_call G__fault_of_head hr__fault_of_head rfl T.glo__fault_of_head kp__fault_of_head b__fault_of_head .nil pass0 (pa_cons (pv 0) pa_nil)))
    (pss_cons (ps_if (pt_cmpR op_notN (pv 1) pe_non (nomark _))
      (pss_one ps_never)
      pss_nil)
    (pss_cons (ps_set (i := 2) sc_check_program.nd rfl (by first | exact Or.inl rfl | exact Or.inr rfl) (pe_ix ix_tup (pv 0) pe_int (fun _ _ => rfl)))
    (pss_cons (ps_set (i := 3) sc_check_program.nd rfl (by first | exact Or.inl rfl | exact Or.inr rfl) pe_int)
    (pss_one (ps_for PassesOwn.never rfl (pi_enumT rfl T.free_enumerate (pa_cons (pv 2) pa_nil)) (pg_tup rfl (pgs_cons (pg_name (i := 4) sc_check_program.nd rfl (by first | exact Or.inl rfl | exact Or.inr rfl)) (pgs_cons (pg_name (i := 5) sc_check_program.nd rfl (by first | exact Or.inl rfl | exact Or.inr rfl)) pgs_nil)))
      (pss_one (ps_set (i := 3) sc_check_program.nd rfl (by first | exact Or.inl rfl | exact Or.inr rfl) (pe_call G__check_body hr__check_body rfl T.glo__check_body kp__check_body b__check_body .nil pass0 (pa_cons (pe_ix ix_tup (pv 5) pe_int (fun _ _ => rfl)) (pa_cons (pe_make T.mkr_Scope G_Scope_init hr_Scope_init rfl T.glo_Scope b_Scope_init .nil pass0 (pa_cons (pv 0) (pa_cons (pv 4) pa_nil))) (pa_cons (pv 3) pa_nil))))))))))))
theorem sc_is_part : FnScope n_is_part ["part", "scope"] (defScope s_is_part) := ⟨rfl, rfl, rfl, by decide +kernel, rfl, by decide +kernel, by decide +kernel⟩
theorem ok_is_part (T : Tx w K mg)
    (p_things_within : Pr P w K mg base 2 (He.ga K "things_within") ["thing", "is_deed"] (sp_things_within K))
    (p__fault_of : Pr P w K mg base 4 (He.ga K "_fault_of") ["thing", "is_deed", "scope"] (sp__fault_of K)) :
    Pr P w K mg base 5 (He.ga K "is_part") ["part", "scope"] (sp_is_part K) := by
  obtain ⟨fd_things_within, G_things_within, b_things_within⟩ := p_things_within.ex
  have kp_things_within := p_things_within.kp
  obtain ⟨fd__fault_of, G__fault_of, b__fault_of⟩ := p__fault_of.ex
  have kp__fault_of := p__fault_of.kp
  refine mkPr T.def_is_part sc_is_part (fun _ _ _ _ _ _ us hl => match us, hl with | [_, _], _ => rfl) (fun vs H Q E h => ?_) (fun cdv A outer s H E hr => ?_) (rd_is_part)
  · unfold sp_is_part at h
    repeat (first | (obtain ⟨e, _⟩ := h; subst e; rfl) | (obtain ⟨_, h⟩ := h))
  · have hr_things_within : Room 2 _ := hr.mono (by decide)
    have hr__fault_of : Room 4 _ := hr.mono (by decide)
    exact (pss_cons (ps_set (i := 2) sc_is_part.nd rfl (by first | exact Or.inl rfl | exact Or.inr rfl) (pe_lst (pa_cons (pv 0) pa_nil)))
    (pss_cons (ps_while PassesOwn.never (pt_truth (pv 2) (by intro _; rfl))
      (pss_cons (ps_set (i := 3) sc_is_part.nd rfl (by first | exact Or.inl rfl | exact Or.inr rfl) (pe_bm0 PySem.F.plainAttrs_list PySem.F.slot_list_pop PySem.F.type_list_pop mt_pop (pv 2)))
      (pss_cons (ps_if (pt_cmpR op_notN (pe_call G__fault_of hr__fault_of rfl T.glo__fault_of kp__fault_of b__fault_of .nil pass0 (pa_cons (pv 3) (pa_cons pe_bl (pa_cons (pv 1) pa_nil)))) pe_non (nomark _))
        (pss_one (ps_ret pe_bl))
        pss_nil)
      (pss_one (ps_expr (pe_bm PySem.F.plainAttrs_list PySem.F.slot_list_extend PySem.F.type_list_extend mt_extend (pv 2) (pa_cons (pe_lc (own := [("inner", 4), ("_", 5)]) rfl sc_is_part.nd (pi_list (pe_call G_things_within hr_things_within rfl T.glo_things_within kp_things_within b_things_within .nil pass0 (pa_cons (pv 3) (pa_cons pe_bl pa_nil)))) (blkOk_by (own := [("inner", 4), ("_", 5)]) (N := ["part", "scope", "waiting", "thing", "inner", "_"]) (sc := defScope s_is_part) (by decide +kernel)) (fun _ _ _ _ _ => (pg_tup rfl (pgs_cons (pg_name (i := 4) sc_is_part.nd rfl (by first | exact Or.inl rfl | exact Or.inr rfl)) (pgs_cons (pg_name (i := 5) sc_is_part.nd rfl (by first | exact Or.inl rfl | exact Or.inr rfl)) pgs_nil)))) (fun _ _ _ _ _ => pts_nil) (fun _ _ _ _ _ => (pv 4))) pa_nil)))))))
    (pss_one (ps_ret pe_bl))))
theorem sc__things_of : FnScope n__things_of ["part"] (defScope s__things_of) := ⟨rfl, rfl, rfl, by decide +kernel, rfl, by decide +kernel, by decide +kernel⟩
theorem ok__things_of (T : Tx w K mg)
    (p_things_within : Pr P w K mg base 2 (He.ga K "things_within") ["thing", "is_deed"] (sp_things_within K)) :
    Pr P w K mg base 3 (He.ga K "_things_of") ["part"] (sp__things_of K) := by
  obtain ⟨fd_things_within, G_things_within, b_things_within⟩ := p_things_within.ex
  have kp_things_within := p_things_within.kp
  refine mkPr T.def__things_of sc__things_of (fun _ _ _ _ _ _ us hl => match us, hl with | [_], _ => rfl) (fun vs H Q E h => ?_) (fun cdv A outer s H E hr => ?_) (rd__things_of)
  · unfold sp__things_of at h
    repeat (first | (obtain ⟨e, _⟩ := h; subst e; rfl) | (obtain ⟨_, h⟩ := h))
  · have hr_things_within : Room 2 _ := hr.mono (by decide)
    exact (pss_cons (ps_set (i := 1) sc__things_of.nd rfl (by first | exact Or.inl rfl | exact Or.inr rfl) (pe_lst pa_nil))
    (pss_cons (ps_set (i := 2) sc__things_of.nd rfl (by first | exact Or.inl rfl | exact Or.inr rfl) (pe_lst (pa_cons (pv 0) pa_nil)))
    (pss_cons (ps_while PassesOwn.never (pt_truth (pv 2) (by intro _; rfl))
      (pss_cons (ps_set (i := 3) sc__things_of.nd rfl (by first | exact Or.inl rfl | exact Or.inr rfl) (pe_bm0 PySem.F.plainAttrs_list PySem.F.slot_list_pop PySem.F.type_list_pop mt_pop (pv 2)))
      (pss_cons (ps_expr (pe_bm PySem.F.plainAttrs_list PySem.F.slot_list_append PySem.F.type_list_append mt_append (pv 1) (pa_cons (pv 3) pa_nil)))
      (pss_cons (ps_set (i := 4) sc__things_of.nd rfl (by first | exact Or.inl rfl | exact Or.inr rfl) (pe_call G_things_within hr_things_within rfl T.glo_things_within kp_things_within b_things_within .nil pass0 (pa_cons (pv 3) (pa_cons pe_bl pa_nil))))
      (pss_one (ps_expr (pe_bm PySem.F.plainAttrs_list PySem.F.slot_list_extend PySem.F.type_list_extend mt_extend (pv 2) (pa_cons (pe_lc (own := [("inner", 5), ("_", 6)]) rfl sc__things_of.nd (pi_reversed rfl T.free_reversed (pa_cons (pv 4) pa_nil)) (blkOk_by (own := [("inner", 5), ("_", 6)]) (N := ["part", "found", "waiting", "thing", "within", "inner", "_"]) (sc := defScope s__things_of) (by decide +kernel)) (fun _ _ _ _ _ => (pg_tup rfl (pgs_cons (pg_name (i := 5) sc__things_of.nd rfl (by first | exact Or.inl rfl | exact Or.inr rfl)) (pgs_cons (pg_name (i := 6) sc__things_of.nd rfl (by first | exact Or.inl rfl | exact Or.inr rfl)) pgs_nil)))) (fun _ _ _ _ _ => pts_nil) (fun _ _ _ _ _ => (pv 5))) pa_nil))))))))
    (pss_one (ps_ret (pv 1))))))
theorem sc__joined : FnScope n__joined ["word", "one", "other"] (defScope s__joined) := ⟨rfl, rfl, rfl, by decide +kernel, rfl, by decide +kernel, by decide +kernel⟩
theorem ok__joined (T : Tx w K mg) :
    Pr P w K mg base 1 (He.ga K "_joined") ["word", "one", "other"] (sp__joined K) := by
  refine mkPr T.def__joined sc__joined (fun _ _ _ _ _ _ us hl => match us, hl with | [_, _, _], _ => rfl) (fun vs H Q E h => ?_) (fun cdv A outer s H E hr => ?_) (rd__joined)
  · unfold sp__joined at h
    repeat (first | (obtain ⟨e, _⟩ := h; subst e; rfl) | (obtain ⟨_, h⟩ := h))
  · exact (pss_cons (ps_if (pt_cmpR op_eq (pv 0) pe_str (nomark _))
      (pss_one (ps_ret (pe_op op_mod (pe_op op_add (pv 1) (pv 2)) (pe_gi rfl T.int_MODULUS))))
      pss_nil)
    (pss_cons (ps_if (pt_cmpR op_eq (pv 0) pe_str (nomark _))
      (pss_one (ps_ret (pe_op op_mod (pe_op op_sub (pv 1) (pv 2)) (pe_gi rfl T.int_MODULUS))))
      pss_nil)
    (pss_cons (ps_if (pt_cmpR op_eq (pv 0) pe_str (nomark _))
      (pss_one (ps_ret (pe_op op_mod (pe_op op_mul (pv 1) (pv 2)) (pe_gi rfl T.int_MODULUS))))
      pss_nil)
    (pss_cons (ps_if (pt_cmpR op_eq (pv 0) pe_str (nomark _))
      (pss_one (ps_ret (pe_ifExp (pt_cmpR op_lt (pv 1) (pv 2) (nomark _)) pe_int pe_int)))
      pss_nil)
    (pss_one (ps_ret (pe_ifExp (pt_cmpR op_eq (pv 1) (pv 2) (nomark _)) pe_int pe_int)))))))
theorem sc_reckoned : FnScope n_reckoned ["part", "names", "cells"] (defScope s_reckoned) := ⟨rfl, rfl, rfl, by decide +kernel, rfl, by decide +kernel, by decide +kernel⟩
theorem ok_reckoned (T : Tx w K mg)
    (p__things_of : Pr P w K mg base 3 (He.ga K "_things_of") ["part"] (sp__things_of K))
    (p__joined : Pr P w K mg base 1 (He.ga K "_joined") ["word", "one", "other"] (sp__joined K)) :
    Pr P w K mg base 4 (He.ga K "reckoned") ["part", "names", "cells"] (sp_reckoned K) := by
  obtain ⟨fd__things_of, G__things_of, b__things_of⟩ := p__things_of.ex
  have kp__things_of := p__things_of.kp
  obtain ⟨fd__joined, G__joined, b__joined⟩ := p__joined.ex
  have kp__joined := p__joined.kp
  refine mkPr T.def_reckoned sc_reckoned (fun _ _ _ _ _ _ us hl => match us, hl with | [_, _, _], _ => rfl) (fun vs H Q E h => ?_) (fun cdv A outer s H E hr => ?_) (rd_reckoned)
  · unfold sp_reckoned at h
    repeat (first | (obtain ⟨e, _⟩ := h; subst e; rfl) | (obtain ⟨_, h⟩ := h))
  · have hr__things_of : Room 3 _ := hr.mono (by decide)
    have hr__joined : Room 1 _ := hr.mono (by decide)
    exact (pss_cons (ps_set (i := 3) sc_reckoned.nd rfl (by first | exact Or.inl rfl | exact Or.inr rfl) (pe_lst pa_nil))
    (pss_cons (ps_for PassesOwn.never rfl (pi_reversed rfl T.free_reversed (pa_cons (pe_call G__things_of hr__things_of rfl T.glo__things_of kp__things_of b__things_of .nil pass0 (pa_cons (pv 0) pa_nil)) pa_nil)) (pg_name (i := 4) sc_reckoned.nd rfl (by first | exact Or.inl rfl | exact Or.inr rfl))
      (pss_one (ps_if (pt_cmpR op_eq (pe_ix ix_tup (pv 4) pe_int (fun _ _ => rfl)) pe_str (nomark _))
        (pss_one (ps_expr (pe_bm PySem.F.plainAttrs_list PySem.F.slot_list_append PySem.F.type_list_append mt_append (pv 3) (pa_cons (pe_ix ix_tup (pv 4) pe_int (fun _ _ => rfl)) pa_nil))))
        (pss_one (ps_if (pt_cmpR op_eq (pe_ix ix_tup (pv 4) pe_int (fun _ _ => rfl)) pe_str (nomark _))
          (pss_one (ps_expr (pe_bm PySem.F.plainAttrs_list PySem.F.slot_list_append PySem.F.type_list_append mt_append (pv 3) (pa_cons (pe_ix ix_list (pv 1) (pe_ix ix_tup (pv 4) pe_int (fun _ _ => rfl)) (fun _ _ => rfl)) pa_nil))))
          (pss_one (ps_if (pt_cmpR op_eq (pe_ix ix_tup (pv 4) pe_int (fun _ _ => rfl)) pe_str (nomark _))
            (pss_one (ps_expr (pe_bm PySem.F.plainAttrs_list PySem.F.slot_list_append PySem.F.type_list_append mt_append (pv 3) (pa_cons (pe_ix ix_list (pv 2) (pe_ix ix_tup (pv 4) pe_int (fun _ _ => rfl)) (fun _ _ => rfl)) pa_nil))))
            (pss_cons (ps_set (i := 5) sc_reckoned.nd rfl (by first | exact Or.inl rfl | exact Or.inr rfl) (pe_bm0 PySem.F.plainAttrs_list PySem.F.slot_list_pop PySem.F.type_list_pop mt_pop (pv 3)))
            (pss_cons (ps_set (i := 6) sc_reckoned.nd rfl (by first | exact Or.inl rfl | exact Or.inr rfl) (pe_bm0 PySem.F.plainAttrs_list PySem.F.slot_list_pop PySem.F.type_list_pop mt_pop (pv 3)))
            (pss_one (ps_expr (pe_bm PySem.F.plainAttrs_list PySem.F.slot_list_append PySem.F.type_list_append mt_append (pv 3) (pa_cons (pe_call G__joined hr__joined rfl T.glo__joined kp__joined b__joined .nil pass0 (pa_cons (pe_ix ix_tup (pv 4) pe_int (fun _ _ => rfl)) (pa_cons (pv 5) (pa_cons (pv 6) pa_nil)))) pa_nil)))))))))))))
    (pss_one (ps_ret (pe_ix ix_list (pv 3) pe_int (fun _ _ => rfl))))))
theorem sc_Stop_init : FnScope n_Stop_init ["self", "place", "hand", "wish"] (defScope s_Stop_init) := ⟨rfl, rfl, rfl, by decide +kernel, rfl, by decide +kernel, by decide +kernel⟩
theorem ok_Stop_init (T : Tx w K mg) :
    Pr P w K mg base 1 (He.ma K (He.ga K "Stop") "__init__") ["self", "place", "hand", "wish"] (sp_Stop_init K) := by
  refine mkPr T.def_Stop_init sc_Stop_init (fun _ _ _ _ _ _ us hl => match us, hl with | [_, _, _, _], _ => rfl) (fun vs H Q E h => ?_) (fun cdv A outer s H E hr => ?_) (rd_Stop_init T.gx)
  · unfold sp_Stop_init at h
    repeat (first | (obtain ⟨e, _⟩ := h; subst e; rfl) | (obtain ⟨_, h⟩ := h))
  · exact (pss_cons (ps_fld (pv 0) (pv 1) rfl)
    (pss_cons (ps_fld (pv 0) (pv 2) rfl)
    (pss_one (ps_fld (pv 0) (pv 3) rfl))))
theorem sc_Frame_deed : FnScope n_Frame_deed ["self"] (defScope s_Frame_deed) := ⟨rfl, rfl, rfl, by decide +kernel, rfl, by decide +kernel, by decide +kernel⟩
theorem ok_Frame_deed (T : Tx w K mg) :
    Pr P w K mg base 1 (He.ma K (He.ga K "Frame") "deed") ["self"] (sp_Frame_deed K) := by
  refine mkPr T.def_Frame_deed sc_Frame_deed (fun _ _ _ _ _ _ us hl => match us, hl with | [_], _ => rfl) (fun vs H Q E h => ?_) (fun cdv A outer s H E hr => ?_) (rd_Frame_deed T.fx)
  · unfold sp_Frame_deed at h
    repeat (first | (obtain ⟨e, _⟩ := h; subst e; rfl) | (obtain ⟨_, h⟩ := h))
  · exact (pss_cons (ps_set (i := 1) sc_Frame_deed.nd rfl (by first | exact Or.inl rfl | exact Or.inr rfl) (pe_ix ix_list (pe_fld (pv 0) rfl) (pe_un un_neg pe_int) (fun _ _ => rfl)))
    (pss_one (ps_ret (pe_ix ix_list (pe_fld (pv 1) rfl) (pe_fld (pv 1) rfl) (fun _ _ => rfl)))))
theorem sc_Stop_is_met : FnScope n_Stop_is_met ["self", "hand", "frame", "cells"] (defScope s_Stop_is_met) := ⟨rfl, rfl, rfl, by decide +kernel, rfl, by decide +kernel, by decide +kernel⟩
theorem ok_Stop_is_met (T : Tx w K mg)
    (p_reckoned : Pr P w K mg base 4 (He.ga K "reckoned") ["part", "names", "cells"] (sp_reckoned K))
    (p_Frame_deed : Pr P w K mg base 1 (He.ma K (He.ga K "Frame") "deed") ["self"] (sp_Frame_deed K)) :
    Pr P w K mg base 5 (He.ma K (He.ga K "Stop") "is_met") ["self", "hand", "frame", "cells"] (sp_Stop_is_met K) := by
  obtain ⟨fd_reckoned, G_reckoned, b_reckoned⟩ := p_reckoned.ex
  have kp_reckoned := p_reckoned.kp
  obtain ⟨fd_Frame_deed, G_Frame_deed, b_Frame_deed⟩ := p_Frame_deed.ex
  have kp_Frame_deed := p_Frame_deed.kp
  refine mkPr T.def_Stop_is_met sc_Stop_is_met (fun _ _ _ _ _ _ us hl => match us, hl with | [_, _, _, _], _ => rfl) (fun vs H Q E h => ?_) (fun cdv A outer s H E hr => ?_) (rd_Stop_is_met T.fx T.gx)
  · unfold sp_Stop_is_met at h
    repeat (first | (obtain ⟨e, _⟩ := h; subst e; rfl) | (obtain ⟨_, h⟩ := h))
  · have hr_reckoned : Room 4 _ := hr.mono (by decide)
    have hr_Frame_deed : Room 1 _ := hr.mono (by decide)
    exact (pss_cons (ps_if (pt_cmpR op_ne (pe_fld (pe_meth0 (pv 2) T.cls_Frame T.meth_Frame_deed G_Frame_deed hr_Frame_deed b_Frame_deed .nil pass0) rfl) (pe_fld (pv 0) rfl) (nomark _))
      (pss_one (ps_ret pe_bl))
      pss_nil)
    (pss_cons (ps_if (PW.pt (pw_and (pt_cmpR op_notN (pe_fld (pv 0) rfl) pe_non (nomark _)) (pw_and1 (pt_cmpR op_ne (pe_fld (pv 0) rfl) (pv 1) (nomark _)))))
      (pss_one (ps_ret pe_bl))
      pss_nil)
    (pss_one (ps_ret (pe_or (pe_cmpR op_isN (pe_fld (pv 0) rfl) pe_non (nomark _)) (pe_one (pe_cmpR op_ne (pe_call G_reckoned hr_reckoned rfl T.glo_reckoned kp_reckoned b_reckoned .nil pass0 (pa_cons (pe_fld (pv 0) rfl) (pa_cons (pe_fld (pv 2) rfl) (pa_cons (pv 3) pa_nil)))) pe_int (nomark _))))))))
theorem sc_Going_init : FnScope n_Going_init ["self", "machine", "stops", "hand", "way", "many"] (defScope s_Going_init) := ⟨rfl, rfl, rfl, by decide +kernel, rfl, by decide +kernel, by decide +kernel⟩
theorem ok_Going_init (T : Tx w K mg) :
    Pr P w K mg base 1 (He.ma K (He.ga K "Going") "__init__") ["self", "machine", "stops", "hand", "way", "many"] (sp_Going_init K) := by
  refine mkPr T.def_Going_init sc_Going_init (fun _ _ _ _ _ _ us hl => match us, hl with | [_, _, _, _, _, _], _ => rfl) (fun vs H Q E h => ?_) (fun cdv A outer s H E hr => ?_) (rd_Going_init T.fx T.gx)
  · unfold sp_Going_init at h
    repeat (first | (obtain ⟨e, _⟩ := h; subst e; rfl) | (obtain ⟨_, h⟩ := h))
  · exact (pss_cons (ps_fld (pv 0) (pv 1) rfl)
    (pss_cons (ps_fld (pv 0) (pv 2) rfl)
    (pss_cons (ps_fld (pv 0) (pv 3) rfl)
    (pss_cons (ps_fld (pv 0) (pv 4) rfl)
    (pss_cons (ps_fld (pv 0) (pv 5) rfl)
    (pss_cons (ps_fld (pv 0) pe_int rfl)
    (pss_cons (ps_fld (pv 0) pe_int rfl)
    (pss_one (ps_fld (pv 0) (pe_ifExp (pt_cmpR op_isN (pv 3) pe_non (nomark _)) pe_int (pe_callB (call_len_seq) (by rfl) T.free_len (by decide +kernel) (pa_cons (pe_fld (pe_ix ix_list (pe_fld (pv 1) rfl) (pv 3) (fun _ _ => rfl)) rfl) pa_nil))) rfl)))))))))
theorem sc_Frame_find_deed : FnScope n_Frame_find_deed ["self"] (defScope s_Frame_find_deed) := ⟨rfl, rfl, rfl, by decide +kernel, rfl, by decide +kernel, by decide +kernel⟩
theorem ok_Frame_find_deed (T : Tx w K mg) :
    Pr P w K mg base 1 (He.ma K (He.ga K "Frame") "find_deed") ["self"] (sp_Frame_find_deed K) := by
  refine mkPr T.def_Frame_find_deed sc_Frame_find_deed (fun _ _ _ _ _ _ us hl => match us, hl with | [_], _ => rfl) (fun vs H Q E h => ?_) (fun cdv A outer s H E hr => ?_) (rd_Frame_find_deed T.fx)
  · unfold sp_Frame_find_deed at h
    repeat (first | (obtain ⟨e, _⟩ := h; subst e; rfl) | (obtain ⟨_, h⟩ := h))
  · exact (pss_cons (ps_while PassesOwn.never (pt_truth (pe_fld (pv 0) rfl) (by intro _; rfl))
      (pss_cons (ps_set (i := 1) sc_Frame_find_deed.nd rfl (by first | exact Or.inl rfl | exact Or.inr rfl) (pe_ix ix_list (pe_fld (pv 0) rfl) (pe_un un_neg pe_int) (fun _ _ => rfl)))
      (pss_cons (ps_if (pt_cmpR op_lt (pe_fld (pv 1) rfl) (pe_callB (call_len_seq) (by rfl) T.free_len (by decide +kernel) (pa_cons (pe_fld (pv 1) rfl) pa_nil)) (nomark _))
        (pss_one (ps_ret pe_bl))
        pss_nil)
      (pss_cons (ps_fldaug (pv 1) pe_int in_sub)
      (pss_cons (ps_fld (pv 1) pe_int rfl)
      (pss_one (ps_if (pt_cmpR op_eq (pe_fld (pv 1) rfl) pe_int (nomark _))
        (pss_one (ps_expr (pe_bm0 PySem.F.plainAttrs_list PySem.F.slot_list_pop PySem.F.type_list_pop mt_pop (pe_fld (pv 0) rfl))))
        pss_nil)))))))
    (pss_one (ps_ret pe_bl)))
theorem sc_Frame_move_on : FnScope n_Frame_move_on ["self"] (defScope s_Frame_move_on) := ⟨rfl, rfl, rfl, by decide +kernel, rfl, by decide +kernel, by decide +kernel⟩
theorem ok_Frame_move_on (T : Tx w K mg) :
    Pr P w K mg base 1 (He.ma K (He.ga K "Frame") "move_on") ["self"] (sp_Frame_move_on K) := by
  refine mkPr T.def_Frame_move_on sc_Frame_move_on (fun _ _ _ _ _ _ us hl => match us, hl with | [_], _ => rfl) (fun vs H Q E h => ?_) (fun cdv A outer s H E hr => ?_) (rd_Frame_move_on T.fx)
  · unfold sp_Frame_move_on at h
    repeat (first | (obtain ⟨e, _⟩ := h; subst e; rfl) | (obtain ⟨_, h⟩ := h))
  · exact (pss_cons (ps_set (i := 1) sc_Frame_move_on.nd rfl (by first | exact Or.inl rfl | exact Or.inr rfl) (pe_ix ix_list (pe_fld (pv 0) rfl) (pe_un un_neg pe_int) (fun _ _ => rfl)))
    (pss_one (ps_fldaug (pv 1) pe_int in_add)))
theorem sc_Hand_end_fun : FnScope n_Hand_end_fun ["self", "number"] (defScope s_Hand_end_fun) := ⟨rfl, rfl, rfl, by decide +kernel, rfl, by decide +kernel, by decide +kernel⟩
theorem ok_Hand_end_fun (T : Tx w K mg)
    (p_Frame_move_on : Pr P w K mg base 1 (He.ma K (He.ga K "Frame") "move_on") ["self"] (sp_Frame_move_on K))
    (p_Frame_deed : Pr P w K mg base 1 (He.ma K (He.ga K "Frame") "deed") ["self"] (sp_Frame_deed K)) :
    Pr P w K mg base 2 (He.ma K (He.ga K "Hand") "end_fun") ["self", "number"] (sp_Hand_end_fun K) := by
  obtain ⟨fd_Frame_move_on, G_Frame_move_on, b_Frame_move_on⟩ := p_Frame_move_on.ex
  have kp_Frame_move_on := p_Frame_move_on.kp
  obtain ⟨fd_Frame_deed, G_Frame_deed, b_Frame_deed⟩ := p_Frame_deed.ex
  have kp_Frame_deed := p_Frame_deed.kp
  refine mkPr T.def_Hand_end_fun sc_Hand_end_fun (fun _ _ _ _ _ _ us hl => match us, hl with | [_, _], _ => rfl) (fun vs H Q E h => ?_) (fun cdv A outer s H E hr => ?_) (rd_Hand_end_fun T.fx)
  · unfold sp_Hand_end_fun at h
    repeat (first | (obtain ⟨e, _⟩ := h; subst e; rfl) | (obtain ⟨_, h⟩ := h))
  · have hr_Frame_move_on : Room 1 _ := hr.mono (by decide)
    have hr_Frame_deed : Room 1 _ := hr.mono (by decide)
    exact (pss_cons (ps_expr (pe_bm0 PySem.F.plainAttrs_list PySem.F.slot_list_pop PySem.F.type_list_pop mt_pop (pe_fld (pv 0) rfl)))
    (pss_one (ps_if (pt_truth (pe_fld (pv 0) rfl) (by intro _; rfl))
      (pss_cons (ps_set (i := 2) sc_Hand_end_fun.nd rfl (by first | exact Or.inl rfl | exact Or.inr rfl) (pe_ix ix_list (pe_fld (pv 0) rfl) (pe_un un_neg pe_int) (fun _ _ => rfl)))
      (pss_cons (ps_set (i := 3) sc_Hand_end_fun.nd rfl (by first | exact Or.inl rfl | exact Or.inr rfl) (pe_ix ix_tup (pe_fld (pe_meth0 (pv 2) T.cls_Frame T.meth_Frame_deed G_Frame_deed hr_Frame_deed b_Frame_deed .nil pass0) rfl) pe_int (fun _ _ => rfl)))
      (pss_cons (ps_asg (pv 1) (pg_sub (pe_fld (pv 2) rfl) (pv 3) set_list))
      (pss_one (ps_expr (pe_meth0 (pv 2) T.cls_Frame T.meth_Frame_move_on G_Frame_move_on hr_Frame_move_on b_Frame_move_on .nil pass0))))))
      pss_nil)))
theorem sc_Hand_settle : FnScope n_Hand_settle ["self"] (defScope s_Hand_settle) := ⟨rfl, rfl, rfl, by decide +kernel, rfl, by decide +kernel, by decide +kernel⟩
theorem ok_Hand_settle (T : Tx w K mg)
    (p_Frame_find_deed : Pr P w K mg base 1 (He.ma K (He.ga K "Frame") "find_deed") ["self"] (sp_Frame_find_deed K))
    (p_Hand_end_fun : Pr P w K mg base 2 (He.ma K (He.ga K "Hand") "end_fun") ["self", "number"] (sp_Hand_end_fun K)) :
    Pr P w K mg base 3 (He.ma K (He.ga K "Hand") "settle") ["self"] (sp_Hand_settle K) := by
  obtain ⟨fd_Frame_find_deed, G_Frame_find_deed, b_Frame_find_deed⟩ := p_Frame_find_deed.ex
  have kp_Frame_find_deed := p_Frame_find_deed.kp
  obtain ⟨fd_Hand_end_fun, G_Hand_end_fun, b_Hand_end_fun⟩ := p_Hand_end_fun.ex
  have kp_Hand_end_fun := p_Hand_end_fun.kp
  refine mkPr T.def_Hand_settle sc_Hand_settle (fun _ _ _ _ _ _ us hl => match us, hl with | [_], _ => rfl) (fun vs H Q E h => ?_) (fun cdv A outer s H E hr => ?_) (rd_Hand_settle T.fx)
  · unfold sp_Hand_settle at h
    repeat (first | (obtain ⟨e, _⟩ := h; subst e; rfl) | (obtain ⟨_, h⟩ := h))
  · have hr_Frame_find_deed : Room 1 _ := hr.mono (by decide)
    have hr_Hand_end_fun : Room 2 _ := hr.mono (by decide)
    exact (pss_one (ps_while PassesOwn.never (PW.pt (pw_and (pt_truth (pe_fld (pv 0) rfl) (by intro _; rfl)) (pw_and1 (pt_not (pt_val (pe_meth0 (pe_ix ix_list (pe_fld (pv 0) rfl) (pe_un un_neg pe_int) (fun _ _ => rfl)) T.cls_Frame T.meth_Frame_find_deed G_Frame_find_deed hr_Frame_find_deed b_Frame_find_deed .nil pass0))))))
      (pss_one (ps_expr (pe_meth (pv 0) T.cls_Hand T.meth_Hand_end_fun G_Hand_end_fun hr_Hand_end_fun b_Hand_end_fun .nil pass0 (pa_cons pe_int pa_nil))))))
theorem sc_Block_init : FnScope n_Block_init ["self", "deeds", "rounds"] (defScope s_Block_init) := ⟨rfl, rfl, rfl, by decide +kernel, rfl, by decide +kernel, by decide +kernel⟩
theorem ok_Block_init (T : Tx w K mg) :
    Pr P w K mg base 1 (He.ma K (He.ga K "Block") "__init__") ["self", "deeds", "rounds"] (sp_Block_init K) := by
  refine mkPr T.def_Block_init sc_Block_init (fun _ _ _ _ _ _ us hl => match us, hl with | [_, _, _], _ => rfl) (fun vs H Q E h => ?_) (fun cdv A outer s H E hr => ?_) (rd_Block_init T.fx)
  · unfold sp_Block_init at h
    repeat (first | (obtain ⟨e, _⟩ := h; subst e; rfl) | (obtain ⟨_, h⟩ := h))
  · exact (pss_cons (ps_fld (pv 0) (pv 1) rfl)
    (pss_cons (ps_fld (pv 0) (pv 2) rfl)
    (pss_one (ps_fld (pv 0) pe_int rfl))))
theorem sc_Frame_init : FnScope n_Frame_init ["self", "fun", "names", "deeds"] (defScope s_Frame_init) := ⟨rfl, rfl, rfl, by decide +kernel, rfl, by decide +kernel, by decide +kernel⟩
theorem ok_Frame_init (T : Tx w K mg)
    (p_Block_init : Pr P w K mg base 1 (He.ma K (He.ga K "Block") "__init__") ["self", "deeds", "rounds"] (sp_Block_init K)) :
    Pr P w K mg base 3 (He.ma K (He.ga K "Frame") "__init__") ["self", "fun", "names", "deeds"] (sp_Frame_init K) := by
  obtain ⟨fd_Block_init, G_Block_init, b_Block_init⟩ := p_Block_init.ex
  have kp_Block_init := p_Block_init.kp
  refine mkPr T.def_Frame_init sc_Frame_init (fun _ _ _ _ _ _ us hl => match us, hl with | [_, _, _, _], _ => rfl) (fun vs H Q E h => ?_) (fun cdv A outer s H E hr => ?_) (rd_Frame_init T.fx)
  · unfold sp_Frame_init at h
    repeat (first | (obtain ⟨e, _⟩ := h; subst e; rfl) | (obtain ⟨_, h⟩ := h))
  · have hr_Block_init : Room 2 _ := hr.mono (by decide)
    exact (pss_cons (ps_fld (pv 0) (pv 1) rfl)
    (pss_cons (ps_fld (pv 0) (pv 2) rfl)
    (pss_one (ps_fld (pv 0) (pe_lst (pa_cons (pe_make T.mkr_Block G_Block_init hr_Block_init rfl T.glo_Block b_Block_init .nil pass0 (pa_cons (pv 3) (pa_cons pe_int pa_nil))) pa_nil)) rfl))))
theorem sc_Machine__begun : FnScope n_Machine__begun ["self", "fun", "handed"] (defScope s_Machine__begun) := ⟨rfl, rfl, rfl, by decide +kernel, rfl, by decide +kernel, by decide +kernel⟩
theorem ok_Machine__begun (T : Tx w K mg)
    (p_Frame_init : Pr P w K mg base 3 (He.ma K (He.ga K "Frame") "__init__") ["self", "fun", "names", "deeds"] (sp_Frame_init K)) :
    Pr P w K mg base 5 (He.ma K (He.ga K "Machine") "_begun") ["self", "fun", "handed"] (sp_Machine__begun K) := by
  obtain ⟨fd_Frame_init, G_Frame_init, b_Frame_init⟩ := p_Frame_init.ex
  have kp_Frame_init := p_Frame_init.kp
  refine mkPr T.def_Machine__begun sc_Machine__begun (fun _ _ _ _ _ _ us hl => match us, hl with | [_, _, _], _ => rfl) (fun vs H Q E h => ?_) (fun cdv A outer s H E hr => ?_) (rd_Machine__begun T.fx)
  · unfold sp_Machine__begun at h
    repeat (first | (obtain ⟨e, _⟩ := h; subst e; rfl) | (obtain ⟨_, h⟩ := h))
  · have hr_Frame_init : Room 4 _ := hr.mono (by decide)
    exact (pss_cons (ps_set (i := 3) sc_Machine__begun.nd rfl (by first | exact Or.inl rfl | exact Or.inr rfl) (pe_op op_cat (pv 2) (pe_op op_rep (pe_lst (pa_cons pe_int pa_nil)) (pe_op op_sub (pe_ix ix_list (pe_fld (pv 0) rfl) (pv 1) (fun _ _ => rfl)) (pe_callB (call_len_seq) (by rfl) T.free_len (by decide +kernel) (pa_cons (pv 2) pa_nil))))))
    (pss_one (ps_ret (pe_make T.mkr_Frame G_Frame_init hr_Frame_init rfl T.glo_Frame b_Frame_init .nil pass0 (pa_cons (pv 1) (pa_cons (pv 3) (pa_cons (pe_ix ix_list (pe_fld (pe_fld (pv 0) rfl) rfl) (pv 1) (fun _ _ => rfl)) pa_nil)))))))
theorem sc_Machine__call : FnScope n_Machine__call ["self", "hand", "frame", "told"] (defScope s_Machine__call) := ⟨rfl, rfl, rfl, by decide +kernel, rfl, by decide +kernel, by decide +kernel⟩
theorem ok_Machine__call (T : Tx w K mg)
    (p_Machine__begun : Pr P w K mg base 5 (He.ma K (He.ga K "Machine") "_begun") ["self", "fun", "handed"] (sp_Machine__begun K))
    (p_reckoned : Pr P w K mg base 4 (He.ga K "reckoned") ["part", "names", "cells"] (sp_reckoned K))
    (p_Frame_move_on : Pr P w K mg base 1 (He.ma K (He.ga K "Frame") "move_on") ["self"] (sp_Frame_move_on K)) :
    Pr P w K mg base 6 (He.ma K (He.ga K "Machine") "_call") ["self", "hand", "frame", "told"] (sp_Machine__call K) := by
  obtain ⟨fd_Machine__begun, G_Machine__begun, b_Machine__begun⟩ := p_Machine__begun.ex
  have kp_Machine__begun := p_Machine__begun.kp
  obtain ⟨fd_reckoned, G_reckoned, b_reckoned⟩ := p_reckoned.ex
  have kp_reckoned := p_reckoned.kp
  obtain ⟨fd_Frame_move_on, G_Frame_move_on, b_Frame_move_on⟩ := p_Frame_move_on.ex
  have kp_Frame_move_on := p_Frame_move_on.kp
  refine mkPr T.def_Machine__call sc_Machine__call (fun _ _ _ _ _ _ us hl => match us, hl with | [_, _, _, _], _ => rfl) (fun vs H Q E h => ?_) (fun cdv A outer s H E hr => ?_) (rd_Machine__call T.fx)
  · unfold sp_Machine__call at h
    repeat (first | (obtain ⟨e, _⟩ := h; subst e; rfl) | (obtain ⟨_, h⟩ := h))
  · have hr_Machine__begun : Room 5 _ := hr.mono (by decide)
    have hr_reckoned : Room 4 _ := hr.mono (by decide)
    have hr_Frame_move_on : Room 1 _ := hr.mono (by decide)
    exact (pss_cons (ps_asg (pv 3) (pg_tup rfl (pgs_cons (pg_name (i := 5) sc_Machine__call.nd rfl (by first | exact Or.inl rfl | exact Or.inr rfl)) (pgs_cons (pg_name (i := 6) sc_Machine__call.nd rfl (by first | exact Or.inl rfl | exact Or.inr rfl)) (pgs_cons (pg_name (i := 7) sc_Machine__call.nd rfl (by first | exact Or.inl rfl | exact Or.inr rfl)) (pgs_cons (pg_name (i := 8) sc_Machine__call.nd rfl (by first | exact Or.inl rfl | exact Or.inr rfl)) pgs_nil))))))
    (pss_cons (ps_if (pt_cmpR op_ge (pe_callB (call_len_seq) (by rfl) T.free_len (by decide +kernel) (pa_cons (pe_fld (pv 1) rfl) pa_nil)) (pe_gi rfl T.int_MOST_FRAMES) (nomark _))
      (pss_cons (ps_asg pe_int (pg_sub (pe_fld (pv 2) rfl) (pv 8) set_list))
      (pss_cons (ps_expr (pe_meth0 (pv 2) T.cls_Frame T.meth_Frame_move_on G_Frame_move_on hr_Frame_move_on b_Frame_move_on .nil pass0))
      (pss_one ps_retN)))
      pss_nil)
    (pss_cons (ps_setLc (i := 4) (own := [("part", 9)]) rfl sc_Machine__call.nd rfl rfl (sw_true rfl rfl rfl (by decide +kernel)) (pi_tup (pv 7)) (blkOk_by (own := [("part", 9)]) (N := ["self", "hand", "frame", "told", "handed", "_", "fun", "parts", "name", "part"]) (sc := defScope s_Machine__call) (by decide +kernel)) (fun _ _ _ _ _ => (pg_name (i := 9) sc_Machine__call.nd rfl (by first | exact Or.inl rfl | exact Or.inr rfl))) (fun _ _ _ _ _ => pts_nil) (fun _ _ _ _ _ => (pe_call G_reckoned hr_reckoned rfl T.glo_reckoned kp_reckoned b_reckoned .nil pass0 (pa_cons (pv 9) (pa_cons (pe_fld (pv 2) rfl) (pa_cons (pe_fld (pv 0) rfl) pa_nil))))))
    (pss_one (ps_expr (pe_bm PySem.F.plainAttrs_list PySem.F.slot_list_append PySem.F.type_list_append mt_append (pe_fld (pv 1) rfl) (pa_cons (pe_meth (pv 0) T.cls_Machine T.meth_Machine__begun G_Machine__begun hr_Machine__begun b_Machine__begun .nil pass0 (pa_cons (pv 6) (pa_cons (pv 4) pa_nil))) pa_nil)))))))
theorem sc_Frame_enter : FnScope n_Frame_enter ["self", "deeds", "rounds"] (defScope s_Frame_enter) := ⟨rfl, rfl, rfl, by decide +kernel, rfl, by decide +kernel, by decide +kernel⟩
theorem ok_Frame_enter (T : Tx w K mg)
    (p_Block_init : Pr P w K mg base 1 (He.ma K (He.ga K "Block") "__init__") ["self", "deeds", "rounds"] (sp_Block_init K)) :
    Pr P w K mg base 3 (He.ma K (He.ga K "Frame") "enter") ["self", "deeds", "rounds"] (sp_Frame_enter K) := by
  obtain ⟨fd_Block_init, G_Block_init, b_Block_init⟩ := p_Block_init.ex
  have kp_Block_init := p_Block_init.kp
  refine mkPr T.def_Frame_enter sc_Frame_enter (fun _ _ _ _ _ _ us hl => match us, hl with | [_, _, _], _ => rfl) (fun vs H Q E h => ?_) (fun cdv A outer s H E hr => ?_) (rd_Frame_enter T.fx)
  · unfold sp_Frame_enter at h
    repeat (first | (obtain ⟨e, _⟩ := h; subst e; rfl) | (obtain ⟨_, h⟩ := h))
  · have hr_Block_init : Room 2 _ := hr.mono (by decide)
    exact (pss_one (ps_if (pt_cmpR op_gt (pv 2) pe_int (nomark _))
      (pss_one (ps_expr (pe_bm PySem.F.plainAttrs_list PySem.F.slot_list_append PySem.F.type_list_append mt_append (pe_fld (pv 0) rfl) (pa_cons (pe_make T.mkr_Block G_Block_init hr_Block_init rfl T.glo_Block b_Block_init .nil pass0 (pa_cons (pv 1) (pa_cons (pv 2) pa_nil))) pa_nil))))
      pss_nil))
theorem sc_Machine__choose : FnScope n_Machine__choose ["self", "frame"] (defScope s_Machine__choose) := ⟨rfl, rfl, rfl, by decide +kernel, rfl, by decide +kernel, by decide +kernel⟩
theorem ok_Machine__choose (T : Tx w K mg)
    (p_Frame_enter : Pr P w K mg base 3 (He.ma K (He.ga K "Frame") "enter") ["self", "deeds", "rounds"] (sp_Frame_enter K))
    (p_Frame_move_on : Pr P w K mg base 1 (He.ma K (He.ga K "Frame") "move_on") ["self"] (sp_Frame_move_on K))
    (p_reckoned : Pr P w K mg base 4 (He.ga K "reckoned") ["part", "names", "cells"] (sp_reckoned K))
    (p_Frame_deed : Pr P w K mg base 1 (He.ma K (He.ga K "Frame") "deed") ["self"] (sp_Frame_deed K)) :
    Pr P w K mg base 5 (He.ma K (He.ga K "Machine") "_choose") ["self", "frame"] (sp_Machine__choose K) := by
  obtain ⟨fd_Frame_enter, G_Frame_enter, b_Frame_enter⟩ := p_Frame_enter.ex
  have kp_Frame_enter := p_Frame_enter.kp
  obtain ⟨fd_Frame_move_on, G_Frame_move_on, b_Frame_move_on⟩ := p_Frame_move_on.ex
  have kp_Frame_move_on := p_Frame_move_on.kp
  obtain ⟨fd_reckoned, G_reckoned, b_reckoned⟩ := p_reckoned.ex
  have kp_reckoned := p_reckoned.kp
  obtain ⟨fd_Frame_deed, G_Frame_deed, b_Frame_deed⟩ := p_Frame_deed.ex
  have kp_Frame_deed := p_Frame_deed.kp
  refine mkPr T.def_Machine__choose sc_Machine__choose (fun _ _ _ _ _ _ us hl => match us, hl with | [_, _], _ => rfl) (fun vs H Q E h => ?_) (fun cdv A outer s H E hr => ?_) (rd_Machine__choose T.fx)
  · unfold sp_Machine__choose at h
    repeat (first | (obtain ⟨e, _⟩ := h; subst e; rfl) | (obtain ⟨_, h⟩ := h))
  · have hr_Frame_enter : Room 3 _ := hr.mono (by decide)
    have hr_Frame_move_on : Room 1 _ := hr.mono (by decide)
    have hr_reckoned : Room 4 _ := hr.mono (by decide)
    have hr_Frame_deed : Room 1 _ := hr.mono (by decide)
    exact (pss_cons (ps_set (i := 2) sc_Machine__choose.nd rfl (by first | exact Or.inl rfl | exact Or.inr rfl) (pe_meth0 (pv 1) T.cls_Frame T.meth_Frame_deed G_Frame_deed hr_Frame_deed b_Frame_deed .nil pass0))
    (pss_cons (ps_set (i := 3) sc_Machine__choose.nd rfl (by first | exact Or.inl rfl | exact Or.inr rfl) (pe_call G_reckoned hr_reckoned rfl T.glo_reckoned kp_reckoned b_reckoned .nil pass0 (pa_cons (pe_ix ix_tup (pe_fld (pv 2) rfl) pe_int (fun _ _ => rfl)) (pa_cons (pe_fld (pv 1) rfl) (pa_cons (pe_fld (pv 0) rfl) pa_nil)))))
    (pss_cons (ps_expr (pe_meth0 (pv 1) T.cls_Frame T.meth_Frame_move_on G_Frame_move_on hr_Frame_move_on b_Frame_move_on .nil pass0))
    (pss_one (ps_if (pt_cmpR op_eq (pe_ix ix_tup (pe_fld (pv 2) rfl) pe_int (fun _ _ => rfl)) pe_str (nomark _))
      (pss_one (ps_expr (pe_meth (pv 1) T.cls_Frame T.meth_Frame_enter G_Frame_enter hr_Frame_enter b_Frame_enter .nil pass0 (pa_cons (pe_ix ix_list (pe_fld (pv 2) rfl) pe_int (fun _ _ => rfl)) (pa_cons (pe_op op_mod (pv 3) pe_int) pa_nil)))))
      (pss_one (ps_expr (pe_meth (pv 1) T.cls_Frame T.meth_Frame_enter G_Frame_enter hr_Frame_enter b_Frame_enter .nil pass0 (pa_cons (pe_ix ix_list (pe_fld (pv 2) rfl) (pe_ifExp (pt_cmpR op_ne (pv 3) pe_int (nomark _)) pe_int pe_int) (fun _ _ => rfl)) (pa_cons pe_int pa_nil))))))))))
theorem sc_Machine__note : FnScope n_Machine__note ["self", "hand", "frame", "told"] (defScope s_Machine__note) := ⟨rfl, rfl, rfl, by decide +kernel, rfl, by decide +kernel, by decide +kernel⟩
theorem ok_Machine__note (T : Tx w K mg)
    (p_Frame_move_on : Pr P w K mg base 1 (He.ma K (He.ga K "Frame") "move_on") ["self"] (sp_Frame_move_on K))
    (p_reckoned : Pr P w K mg base 4 (He.ga K "reckoned") ["part", "names", "cells"] (sp_reckoned K)) :
    Pr P w K mg base 5 (He.ma K (He.ga K "Machine") "_note") ["self", "hand", "frame", "told"] (sp_Machine__note K) := by
  obtain ⟨fd_Frame_move_on, G_Frame_move_on, b_Frame_move_on⟩ := p_Frame_move_on.ex
  have kp_Frame_move_on := p_Frame_move_on.kp
  obtain ⟨fd_reckoned, G_reckoned, b_reckoned⟩ := p_reckoned.ex
  have kp_reckoned := p_reckoned.kp
  refine mkPr T.def_Machine__note sc_Machine__note (fun _ _ _ _ _ _ us hl => match us, hl with | [_, _, _, _], _ => rfl) (fun vs H Q E h => ?_) (fun cdv A outer s H E hr => ?_) (rd_Machine__note T.fx)
  · unfold sp_Machine__note at h
    repeat (first | (obtain ⟨e, _⟩ := h; subst e; rfl) | (obtain ⟨_, h⟩ := h))
  · have hr_Frame_move_on : Room 1 _ := hr.mono (by decide)
    have hr_reckoned : Room 4 _ := hr.mono (by decide)
    exact (pss_cons (ps_set (i := 4) sc_Machine__note.nd rfl (by first | exact Or.inl rfl | exact Or.inr rfl) (pe_call G_reckoned hr_reckoned rfl T.glo_reckoned kp_reckoned b_reckoned .nil pass0 (pa_cons (pe_ix ix_tup (pv 3) (pe_un un_neg pe_int) (fun _ _ => rfl)) (pa_cons (pe_fld (pv 2) rfl) (pa_cons (pe_fld (pv 0) rfl) pa_nil)))))
    (pss_cons (ps_if (pt_cmpR op_eq (pe_ix ix_tup (pv 3) pe_int (fun _ _ => rfl)) pe_str (nomark _))
      (pss_one (ps_asg (pv 4) (pg_sub (pe_fld (pv 2) rfl) (pe_ix ix_tup (pv 3) pe_int (fun _ _ => rfl)) set_list)))
      (pss_one (ps_if (pt_cmpR op_eq (pe_ix ix_tup (pv 3) pe_int (fun _ _ => rfl)) pe_str (nomark _))
        (pss_one (ps_asg (pv 4) (pg_sub (pe_fld (pv 0) rfl) (pe_ix ix_tup (pv 3) pe_int (fun _ _ => rfl)) set_list)))
        (pss_one (ps_expr (pe_bm PySem.F.plainAttrs_list PySem.F.slot_list_append PySem.F.type_list_append mt_append (pe_fld (pv 0) rfl) (pa_cons (pe_tup (pa_cons (pv 1) (pa_cons (pv 4) pa_nil))) pa_nil)))))))
    (pss_one (ps_expr (pe_meth0 (pv 2) T.cls_Frame T.meth_Frame_move_on G_Frame_move_on hr_Frame_move_on b_Frame_move_on .nil pass0)))))
theorem sc_Machine_next_hand : FnScope n_Machine_next_hand ["self"] (defScope s_Machine_next_hand) := ⟨rfl, rfl, rfl, by decide +kernel, rfl, by decide +kernel, by decide +kernel⟩
theorem ok_Machine_next_hand (T : Tx w K mg) :
    Pr P w K mg base 1 (He.ma K (He.ga K "Machine") "next_hand") ["self"] (sp_Machine_next_hand K) := by
  refine mkPr T.def_Machine_next_hand sc_Machine_next_hand (fun _ _ _ _ _ _ us hl => match us, hl with | [_], _ => rfl) (fun vs H Q E h => ?_) (fun cdv A outer s H E hr => ?_) (rd_Machine_next_hand T.fx)
  · unfold sp_Machine_next_hand at h
    repeat (first | (obtain ⟨e, _⟩ := h; subst e; rfl) | (obtain ⟨_, h⟩ := h))
  · exact (pss_cons (ps_set (i := 1) sc_Machine_next_hand.nd rfl (by first | exact Or.inl rfl | exact Or.inr rfl) (pe_callB (call_len_seq) (by rfl) T.free_len (by decide +kernel) (pa_cons (pe_fld (pv 0) rfl) pa_nil)))
    (pss_cons (ps_for PassesOwn.never rfl (pi_range1 rfl T.free_range (pa_cons (pv 1) pa_nil)) (pg_name (i := 2) sc_Machine_next_hand.nd rfl (by first | exact Or.inl rfl | exact Or.inr rfl))
      (pss_cons (ps_set (i := 3) sc_Machine_next_hand.nd rfl (by first | exact Or.inl rfl | exact Or.inr rfl) (pe_op op_mod (pe_op op_add (pe_fld (pv 0) rfl) (pv 2)) (pv 1)))
      (pss_one (ps_if (pt_truth (pe_fld (pe_ix ix_list (pe_fld (pv 0) rfl) (pv 3) (fun _ _ => rfl)) rfl) (by intro _; rfl))
        (pss_one (ps_ret (pv 3)))
        pss_nil))))
    (pss_one (ps_ret pe_non))))
theorem sc_Machine_do_next : FnScope n_Machine_do_next ["self"] (defScope s_Machine_do_next) := ⟨rfl, rfl, rfl, by decide +kernel, rfl, by decide +kernel, by decide +kernel⟩
theorem ok_Machine_do_next (T : Tx w K mg)
    (p_Hand_settle : Pr P w K mg base 3 (He.ma K (He.ga K "Hand") "settle") ["self"] (sp_Hand_settle K))
    (p_Machine__call : Pr P w K mg base 6 (He.ma K (He.ga K "Machine") "_call") ["self", "hand", "frame", "told"] (sp_Machine__call K))
    (p_Hand_end_fun : Pr P w K mg base 2 (He.ma K (He.ga K "Hand") "end_fun") ["self", "number"] (sp_Hand_end_fun K))
    (p_reckoned : Pr P w K mg base 4 (He.ga K "reckoned") ["part", "names", "cells"] (sp_reckoned K))
    (p_Machine__choose : Pr P w K mg base 5 (He.ma K (He.ga K "Machine") "_choose") ["self", "frame"] (sp_Machine__choose K))
    (p_Machine__note : Pr P w K mg base 5 (He.ma K (He.ga K "Machine") "_note") ["self", "hand", "frame", "told"] (sp_Machine__note K))
    (p_Frame_deed : Pr P w K mg base 1 (He.ma K (He.ga K "Frame") "deed") ["self"] (sp_Frame_deed K))
    (p_Machine_next_hand : Pr P w K mg base 1 (He.ma K (He.ga K "Machine") "next_hand") ["self"] (sp_Machine_next_hand K)) :
    Pr P w K mg base 7 (He.ma K (He.ga K "Machine") "do_next") ["self"] (sp_Machine_do_next K) := by
  obtain ⟨fd_Hand_settle, G_Hand_settle, b_Hand_settle⟩ := p_Hand_settle.ex
  have kp_Hand_settle := p_Hand_settle.kp
  obtain ⟨fd_Machine__call, G_Machine__call, b_Machine__call⟩ := p_Machine__call.ex
  have kp_Machine__call := p_Machine__call.kp
  obtain ⟨fd_Hand_end_fun, G_Hand_end_fun, b_Hand_end_fun⟩ := p_Hand_end_fun.ex
  have kp_Hand_end_fun := p_Hand_end_fun.kp
  obtain ⟨fd_reckoned, G_reckoned, b_reckoned⟩ := p_reckoned.ex
  have kp_reckoned := p_reckoned.kp
  obtain ⟨fd_Machine__choose, G_Machine__choose, b_Machine__choose⟩ := p_Machine__choose.ex
  have kp_Machine__choose := p_Machine__choose.kp
  obtain ⟨fd_Machine__note, G_Machine__note, b_Machine__note⟩ := p_Machine__note.ex
  have kp_Machine__note := p_Machine__note.kp
  obtain ⟨fd_Frame_deed, G_Frame_deed, b_Frame_deed⟩ := p_Frame_deed.ex
  have kp_Frame_deed := p_Frame_deed.kp
  obtain ⟨fd_Machine_next_hand, G_Machine_next_hand, b_Machine_next_hand⟩ := p_Machine_next_hand.ex
  have kp_Machine_next_hand := p_Machine_next_hand.kp
  refine mkPr T.def_Machine_do_next sc_Machine_do_next (fun _ _ _ _ _ _ us hl => match us, hl with | [_], _ => rfl) (fun vs H Q E h => ?_) (fun cdv A outer s H E hr => ?_) (rd_Machine_do_next T.fx)
  · unfold sp_Machine_do_next at h
    repeat (first | (obtain ⟨e, _⟩ := h; subst e; rfl) | (obtain ⟨_, h⟩ := h))
  · have hr_Hand_settle : Room 3 _ := hr.mono (by decide)
    have hr_Machine__call : Room 6 _ := hr.mono (by decide)
    have hr_Hand_end_fun : Room 2 _ := hr.mono (by decide)
    have hr_reckoned : Room 4 _ := hr.mono (by decide)
    have hr_Machine__choose : Room 5 _ := hr.mono (by decide)
    have hr_Machine__note : Room 5 _ := hr.mono (by decide)
    have hr_Frame_deed : Room 1 _ := hr.mono (by decide)
    have hr_Machine_next_hand : Room 1 _ := hr.mono (by decide)
    exact (pss_cons (ps_set (i := 1) sc_Machine_do_next.nd rfl (by first | exact Or.inl rfl | exact Or.inr rfl) (pe_meth0 (pv 0) T.cls_Machine T.meth_Machine_next_hand G_Machine_next_hand hr_Machine_next_hand b_Machine_next_hand .nil pass0))
    (pss_cons (ps_set (i := 2) sc_Machine_do_next.nd rfl (by first | exact Or.inl rfl | exact Or.inr rfl) (pe_ix ix_list (pe_fld (pv 0) rfl) (pv 1) (fun _ _ => rfl)))
    (pss_cons (ps_set (i := 3) sc_Machine_do_next.nd rfl (by first | exact Or.inl rfl | exact Or.inr rfl) (pe_ix ix_list (pe_fld (pv 2) rfl) (pe_un un_neg pe_int) (fun _ _ => rfl)))
    (pss_cons (ps_set (i := 4) sc_Machine_do_next.nd rfl (by first | exact Or.inl rfl | exact Or.inr rfl) (pe_fld (pe_meth0 (pv 3) T.cls_Frame T.meth_Frame_deed G_Frame_deed hr_Frame_deed b_Frame_deed .nil pass0) rfl))
    (pss_cons (ps_if (pt_cmpR op_eq (pe_ix ix_tup (pv 4) pe_int (fun _ _ => rfl)) pe_str (nomark _))
      (pss_one (ps_expr (pe_meth (pv 0) T.cls_Machine T.meth_Machine__call G_Machine__call hr_Machine__call b_Machine__call .nil pass0 (pa_cons (pv 2) (pa_cons (pv 3) (pa_cons (pv 4) pa_nil))))))
      (pss_one (ps_if (pt_cmpR op_eq (pe_ix ix_tup (pv 4) pe_int (fun _ _ => rfl)) pe_str (nomark _))
        (pss_one (ps_expr (pe_meth (pv 2) T.cls_Hand T.meth_Hand_end_fun G_Hand_end_fun hr_Hand_end_fun b_Hand_end_fun .nil pass0 (pa_cons (pe_call G_reckoned hr_reckoned rfl T.glo_reckoned kp_reckoned b_reckoned .nil pass0 (pa_cons (pe_ix ix_tup (pv 4) pe_int (fun _ _ => rfl)) (pa_cons (pe_fld (pv 3) rfl) (pa_cons (pe_fld (pv 0) rfl) pa_nil)))) pa_nil))))
        (pss_one (ps_if (pt_cmpR op_in_seq (pe_ix ix_tup (pv 4) pe_int (fun _ _ => rfl)) (pe_tup (pa_cons pe_str (pa_cons pe_str pa_nil))) (by with_unfolding_all rfl))
          (pss_one (ps_expr (pe_meth (pv 0) T.cls_Machine T.meth_Machine__choose G_Machine__choose hr_Machine__choose b_Machine__choose .nil pass0 (pa_cons (pv 3) pa_nil))))
          (pss_one (ps_expr (pe_meth (pv 0) T.cls_Machine T.meth_Machine__note G_Machine__note hr_Machine__note b_Machine__note .nil pass0 (pa_cons (pv 1) (pa_cons (pv 3) (pa_cons (pv 4) pa_nil)))))))))))
    (pss_cons (ps_expr (pe_meth0 (pv 2) T.cls_Hand T.meth_Hand_settle G_Hand_settle hr_Hand_settle b_Hand_settle .nil pass0))
    (pss_one (ps_fld (pv 0) (pe_op op_mod (pe_op op_add (pv 1) pe_int) (pe_callB (call_len_seq) (by rfl) T.free_len (by decide +kernel) (pa_cons (pe_fld (pv 0) rfl) pa_nil))) rfl))))))))
theorem sc_Going_do_deed : FnScope n_Going_do_deed ["self"] (defScope s_Going_do_deed) := ⟨rfl, rfl, rfl, by decide +kernel, rfl, by decide +kernel, by decide +kernel⟩
theorem ok_Going_do_deed (T : Tx w K mg)
    (p_Machine_do_next : Pr P w K mg base 7 (He.ma K (He.ga K "Machine") "do_next") ["self"] (sp_Machine_do_next K))
    (p_Machine_next_hand : Pr P w K mg base 1 (He.ma K (He.ga K "Machine") "next_hand") ["self"] (sp_Machine_next_hand K)) :
    Pr P w K mg base 8 (He.ma K (He.ga K "Going") "do_deed") ["self"] (sp_Going_do_deed K) := by
  obtain ⟨fd_Machine_do_next, G_Machine_do_next, b_Machine_do_next⟩ := p_Machine_do_next.ex
  have kp_Machine_do_next := p_Machine_do_next.kp
  obtain ⟨fd_Machine_next_hand, G_Machine_next_hand, b_Machine_next_hand⟩ := p_Machine_next_hand.ex
  have kp_Machine_next_hand := p_Machine_next_hand.kp
  refine mkPr T.def_Going_do_deed sc_Going_do_deed (fun _ _ _ _ _ _ us hl => match us, hl with | [_], _ => rfl) (fun vs H Q E h => ?_) (fun cdv A outer s H E hr => ?_) (rd_Going_do_deed T.fx T.gx)
  · unfold sp_Going_do_deed at h
    repeat (first | (obtain ⟨e, _⟩ := h; subst e; rfl) | (obtain ⟨_, h⟩ := h))
  · have hr_Machine_do_next : Room 7 _ := hr.mono (by decide)
    have hr_Machine_next_hand : Room 1 _ := hr.mono (by decide)
    exact (pss_cons (ps_if (pt_cmpR op_eq (pe_meth0 (pe_fld (pv 0) rfl) T.cls_Machine T.meth_Machine_next_hand G_Machine_next_hand hr_Machine_next_hand b_Machine_next_hand .nil pass0) (pe_fld (pv 0) rfl) (nomark _))
      (pss_one (ps_fldaug (pv 0) pe_int in_add))
      pss_nil)
    (pss_cons (ps_expr (pe_meth0 (pe_fld (pv 0) rfl) T.cls_Machine T.meth_Machine_do_next G_Machine_do_next hr_Machine_do_next b_Machine_do_next .nil pass0))
    (pss_one (ps_fldaug (pv 0) pe_int in_add))))
theorem sc_Going__has_stepped : FnScope n_Going__has_stepped ["self"] (defScope s_Going__has_stepped) := ⟨rfl, rfl, rfl, by decide +kernel, rfl, by decide +kernel, by decide +kernel⟩
theorem ok_Going__has_stepped (T : Tx w K mg) :
    Pr P w K mg base 1 (He.ma K (He.ga K "Going") "_has_stepped") ["self"] (sp_Going__has_stepped K) := by
  refine mkPr T.def_Going__has_stepped sc_Going__has_stepped (fun _ _ _ _ _ _ us hl => match us, hl with | [_], _ => rfl) (fun vs H Q E h => ?_) (fun cdv A outer s H E hr => ?_) (rd_Going__has_stepped T.fx T.gx)
  · unfold sp_Going__has_stepped at h
    repeat (first | (obtain ⟨e, _⟩ := h; subst e; rfl) | (obtain ⟨_, h⟩ := h))
  · exact (pss_cons (ps_set (i := 1) sc_Going__has_stepped.nd rfl (by first | exact Or.inl rfl | exact Or.inr rfl) (pe_callB (call_len_seq) (by rfl) T.free_len (by decide +kernel) (pa_cons (pe_fld (pe_ix ix_list (pe_fld (pe_fld (pv 0) rfl) rfl) (pe_fld (pv 0) rfl) (fun _ _ => rfl)) rfl) pa_nil)))
    (pss_cons (ps_if (pt_cmpR op_eq (pe_fld (pv 0) rfl) pe_int (nomark _))
      (pss_one (ps_ret pe_bl))
      pss_nil)
    (pss_cons (ps_if (pt_cmpR op_eq (pe_fld (pv 0) rfl) pe_str (nomark _))
      (pss_one (ps_ret (pe_cmpR op_le (pv 1) (pe_fld (pv 0) rfl) (nomark _))))
      pss_nil)
    (pss_cons (ps_if (pt_cmpR op_eq (pe_fld (pv 0) rfl) pe_str (nomark _))
      (pss_one (ps_ret (pe_cmpR op_lt (pv 1) (pe_fld (pv 0) rfl) (nomark _))))
      pss_nil)
    (pss_one (ps_ret pe_bl))))))
theorem sc_Machine_next_frame : FnScope n_Machine_next_frame ["self"] (defScope s_Machine_next_frame) := ⟨rfl, rfl, rfl, by decide +kernel, rfl, by decide +kernel, by decide +kernel⟩
theorem ok_Machine_next_frame (T : Tx w K mg)
    (p_Machine_next_hand : Pr P w K mg base 1 (He.ma K (He.ga K "Machine") "next_hand") ["self"] (sp_Machine_next_hand K)) :
    Pr P w K mg base 2 (He.ma K (He.ga K "Machine") "next_frame") ["self"] (sp_Machine_next_frame K) := by
  obtain ⟨fd_Machine_next_hand, G_Machine_next_hand, b_Machine_next_hand⟩ := p_Machine_next_hand.ex
  have kp_Machine_next_hand := p_Machine_next_hand.kp
  refine mkPr T.def_Machine_next_frame sc_Machine_next_frame (fun _ _ _ _ _ _ us hl => match us, hl with | [_], _ => rfl) (fun vs H Q E h => ?_) (fun cdv A outer s H E hr => ?_) (rd_Machine_next_frame T.fx)
  · unfold sp_Machine_next_frame at h
    repeat (first | (obtain ⟨e, _⟩ := h; subst e; rfl) | (obtain ⟨_, h⟩ := h))
  · have hr_Machine_next_hand : Room 1 _ := hr.mono (by decide)
    exact (pss_one (ps_ret (pe_ix ix_list (pe_fld (pe_ix ix_list (pe_fld (pv 0) rfl) (pe_meth0 (pv 0) T.cls_Machine T.meth_Machine_next_hand G_Machine_next_hand hr_Machine_next_hand b_Machine_next_hand .nil pass0) (fun _ _ => rfl)) rfl) (pe_un un_neg pe_int) (fun _ _ => rfl))))
theorem sc_Going__stop_met : FnScope n_Going__stop_met ["self"] (defScope s_Going__stop_met) := ⟨rfl, rfl, rfl, by decide +kernel, rfl, by decide +kernel, by decide +kernel⟩
theorem ok_Going__stop_met (T : Tx w K mg)
    (p_Stop_is_met : Pr P w K mg base 5 (He.ma K (He.ga K "Stop") "is_met") ["self", "hand", "frame", "cells"] (sp_Stop_is_met K))
    (p_Machine_next_frame : Pr P w K mg base 2 (He.ma K (He.ga K "Machine") "next_frame") ["self"] (sp_Machine_next_frame K))
    (p_Machine_next_hand : Pr P w K mg base 1 (He.ma K (He.ga K "Machine") "next_hand") ["self"] (sp_Machine_next_hand K)) :
    Pr P w K mg base 6 (He.ma K (He.ga K "Going") "_stop_met") ["self"] (sp_Going__stop_met K) := by
  obtain ⟨fd_Stop_is_met, G_Stop_is_met, b_Stop_is_met⟩ := p_Stop_is_met.ex
  have kp_Stop_is_met := p_Stop_is_met.kp
  obtain ⟨fd_Machine_next_frame, G_Machine_next_frame, b_Machine_next_frame⟩ := p_Machine_next_frame.ex
  have kp_Machine_next_frame := p_Machine_next_frame.kp
  obtain ⟨fd_Machine_next_hand, G_Machine_next_hand, b_Machine_next_hand⟩ := p_Machine_next_hand.ex
  have kp_Machine_next_hand := p_Machine_next_hand.kp
  refine mkPr T.def_Going__stop_met sc_Going__stop_met (fun _ _ _ _ _ _ us hl => match us, hl with | [_], _ => rfl) (fun vs H Q E h => ?_) (fun cdv A outer s H E hr => ?_) (rd_Going__stop_met T.fx T.gx)
  · unfold sp_Going__stop_met at h
    repeat (first | (obtain ⟨e, _⟩ := h; subst e; rfl) | (obtain ⟨_, h⟩ := h))
  · have hr_Stop_is_met : Room 5 _ := hr.mono (by decide)
    have hr_Machine_next_frame : Room 2 _ := hr.mono (by decide)
    have hr_Machine_next_hand : Room 1 _ := hr.mono (by decide)
    exact (pss_cons (ps_if (pt_cmpR op_eq (pe_fld (pv 0) rfl) pe_int (nomark _))
      (pss_one (ps_ret pe_non))
      pss_nil)
    (pss_cons (ps_set (i := 1) sc_Going__stop_met.nd rfl (by first | exact Or.inl rfl | exact Or.inr rfl) (pe_meth0 (pe_fld (pv 0) rfl) T.cls_Machine T.meth_Machine_next_hand G_Machine_next_hand hr_Machine_next_hand b_Machine_next_hand .nil pass0))
    (pss_cons (ps_set (i := 2) sc_Going__stop_met.nd rfl (by first | exact Or.inl rfl | exact Or.inr rfl) (pe_meth0 (pe_fld (pv 0) rfl) T.cls_Machine T.meth_Machine_next_frame G_Machine_next_frame hr_Machine_next_frame b_Machine_next_frame .nil pass0))
    (pss_cons (ps_set (i := 3) sc_Going__stop_met.nd rfl (by first | exact Or.inl rfl | exact Or.inr rfl) (pe_fld (pe_fld (pv 0) rfl) rfl))
    (pss_cons (ps_lock (ps_setLc (i := 4) (own := [("number", 5), ("stop", 6)]) rfl sc_Going__stop_met.nd rfl rfl (sw_true rfl rfl rfl (by decide +kernel)) (pi_items (pe_fld (pv 0) rfl)) (blkOk_by (own := [("number", 5), ("stop", 6)]) (N := ["self", "hand", "frame", "cells", "met", "number", "stop"]) (sc := defScope s_Going__stop_met) (by decide +kernel)) (fun _ _ _ _ _ => (pg_tup rfl (pgs_cons (pg_name (i := 5) sc_Going__stop_met.nd rfl (by first | exact Or.inl rfl | exact Or.inr rfl)) (pgs_cons (pg_name (i := 6) sc_Going__stop_met.nd rfl (by first | exact Or.inl rfl | exact Or.inr rfl)) pgs_nil)))) (fun _ _ _ _ _ => (pts_one (pt_val (pe_meth (pv 6) T.cls_Stop T.meth_Stop_is_met G_Stop_is_met hr_Stop_is_met b_Stop_is_met .nil pass0 (pa_cons (pv 1) (pa_cons (pv 2) (pa_cons (pv 3) pa_nil))))))) (fun _ _ _ _ _ => (pv 5))))
    (pss_one (ps_ret (pe_callBK (cr_minD rfl (hu8 hr)) (by rfl) T.free_min (by decide +kernel) (pa_cons (pv 4) pa_nil) (pk_cons pe_non pk_nil)))))))))
theorem sc_Going__next_deed : FnScope n_Going__next_deed ["self"] (defScope s_Going__next_deed) := ⟨rfl, rfl, rfl, by decide +kernel, rfl, by decide +kernel, by decide +kernel⟩
theorem ok_Going__next_deed (T : Tx w K mg)
    (p_Frame_deed : Pr P w K mg base 1 (He.ma K (He.ga K "Frame") "deed") ["self"] (sp_Frame_deed K))
    (p_Machine_next_frame : Pr P w K mg base 2 (He.ma K (He.ga K "Machine") "next_frame") ["self"] (sp_Machine_next_frame K))
    (p_Machine_next_hand : Pr P w K mg base 1 (He.ma K (He.ga K "Machine") "next_hand") ["self"] (sp_Machine_next_hand K)) :
    Pr P w K mg base 3 (He.ma K (He.ga K "Going") "_next_deed") ["self"] (sp_Going__next_deed K) := by
  obtain ⟨fd_Frame_deed, G_Frame_deed, b_Frame_deed⟩ := p_Frame_deed.ex
  have kp_Frame_deed := p_Frame_deed.kp
  obtain ⟨fd_Machine_next_frame, G_Machine_next_frame, b_Machine_next_frame⟩ := p_Machine_next_frame.ex
  have kp_Machine_next_frame := p_Machine_next_frame.kp
  obtain ⟨fd_Machine_next_hand, G_Machine_next_hand, b_Machine_next_hand⟩ := p_Machine_next_hand.ex
  have kp_Machine_next_hand := p_Machine_next_hand.kp
  refine mkPr T.def_Going__next_deed sc_Going__next_deed (fun _ _ _ _ _ _ us hl => match us, hl with | [_], _ => rfl) (fun vs H Q E h => ?_) (fun cdv A outer s H E hr => ?_) (rd_Going__next_deed T.fx T.gx)
  · unfold sp_Going__next_deed at h
    repeat (first | (obtain ⟨e, _⟩ := h; subst e; rfl) | (obtain ⟨_, h⟩ := h))
  · have hr_Frame_deed : Room 1 _ := hr.mono (by decide)
    have hr_Machine_next_frame : Room 2 _ := hr.mono (by decide)
    have hr_Machine_next_hand : Room 1 _ := hr.mono (by decide)
    exact (pss_one (ps_ret (pe_tup (pa_cons (pe_meth0 (pe_fld (pv 0) rfl) T.cls_Machine T.meth_Machine_next_hand G_Machine_next_hand hr_Machine_next_hand b_Machine_next_hand .nil pass0) (pa_cons (pe_fld (pe_meth0 (pe_meth0 (pe_fld (pv 0) rfl) T.cls_Machine T.meth_Machine_next_frame G_Machine_next_frame hr_Machine_next_frame b_Machine_next_frame .nil pass0) T.cls_Frame T.meth_Frame_deed G_Frame_deed hr_Frame_deed b_Frame_deed .nil pass0) rfl) pa_nil)))))
theorem sc_Machine_all_ended : FnScope n_Machine_all_ended ["self"] (defScope s_Machine_all_ended) := ⟨rfl, rfl, rfl, by decide +kernel, rfl, by decide +kernel, by decide +kernel⟩
theorem ok_Machine_all_ended (T : Tx w K mg)
    (p_Machine_next_hand : Pr P w K mg base 1 (He.ma K (He.ga K "Machine") "next_hand") ["self"] (sp_Machine_next_hand K)) :
    Pr P w K mg base 2 (He.ma K (He.ga K "Machine") "all_ended") ["self"] (sp_Machine_all_ended K) := by
  obtain ⟨fd_Machine_next_hand, G_Machine_next_hand, b_Machine_next_hand⟩ := p_Machine_next_hand.ex
  have kp_Machine_next_hand := p_Machine_next_hand.kp
  refine mkPr T.def_Machine_all_ended sc_Machine_all_ended (fun _ _ _ _ _ _ us hl => match us, hl with | [_], _ => rfl) (fun vs H Q E h => ?_) (fun cdv A outer s H E hr => ?_) (rd_Machine_all_ended T.fx)
  · unfold sp_Machine_all_ended at h
    repeat (first | (obtain ⟨e, _⟩ := h; subst e; rfl) | (obtain ⟨_, h⟩ := h))
  · have hr_Machine_next_hand : Room 1 _ := hr.mono (by decide)
    exact (pss_one (ps_ret (pe_cmpR op_isN (pe_meth0 (pv 0) T.cls_Machine T.meth_Machine_next_hand G_Machine_next_hand hr_Machine_next_hand b_Machine_next_hand .nil pass0) pe_non (nomark _))))
theorem sc_Going_ending : FnScope n_Going_ending ["self"] (defScope s_Going_ending) := ⟨rfl, rfl, rfl, by decide +kernel, rfl, by decide +kernel, by decide +kernel⟩
theorem ok_Going_ending (T : Tx w K mg)
    (p_Going__has_stepped : Pr P w K mg base 1 (He.ma K (He.ga K "Going") "_has_stepped") ["self"] (sp_Going__has_stepped K))
    (p_Going__stop_met : Pr P w K mg base 6 (He.ma K (He.ga K "Going") "_stop_met") ["self"] (sp_Going__stop_met K))
    (p_Going__next_deed : Pr P w K mg base 3 (He.ma K (He.ga K "Going") "_next_deed") ["self"] (sp_Going__next_deed K))
    (p_Machine_all_ended : Pr P w K mg base 2 (He.ma K (He.ga K "Machine") "all_ended") ["self"] (sp_Machine_all_ended K)) :
    Pr P w K mg base 7 (He.ma K (He.ga K "Going") "ending") ["self"] (sp_Going_ending K) := by
  obtain ⟨fd_Going__has_stepped, G_Going__has_stepped, b_Going__has_stepped⟩ := p_Going__has_stepped.ex
  have kp_Going__has_stepped := p_Going__has_stepped.kp
  obtain ⟨fd_Going__stop_met, G_Going__stop_met, b_Going__stop_met⟩ := p_Going__stop_met.ex
  have kp_Going__stop_met := p_Going__stop_met.kp
  obtain ⟨fd_Going__next_deed, G_Going__next_deed, b_Going__next_deed⟩ := p_Going__next_deed.ex
  have kp_Going__next_deed := p_Going__next_deed.kp
  obtain ⟨fd_Machine_all_ended, G_Machine_all_ended, b_Machine_all_ended⟩ := p_Machine_all_ended.ex
  have kp_Machine_all_ended := p_Machine_all_ended.kp
  refine mkPr T.def_Going_ending sc_Going_ending (fun _ _ _ _ _ _ us hl => match us, hl with | [_], _ => rfl) (fun vs H Q E h => ?_) (fun cdv A outer s H E hr => ?_) (rd_Going_ending T.fx T.gx)
  · unfold sp_Going_ending at h
    repeat (first | (obtain ⟨e, _⟩ := h; subst e; rfl) | (obtain ⟨_, h⟩ := h))
  · have hr_Going__has_stepped : Room 1 _ := hr.mono (by decide)
    have hr_Going__stop_met : Room 6 _ := hr.mono (by decide)
    have hr_Going__next_deed : Room 3 _ := hr.mono (by decide)
    have hr_Machine_all_ended : Room 2 _ := hr.mono (by decide)
    exact (pss_cons (ps_if (pt_val (pe_meth0 (pe_fld (pv 0) rfl) T.cls_Machine T.meth_Machine_all_ended G_Machine_all_ended hr_Machine_all_ended b_Machine_all_ended .nil pass0))
      (pss_one (ps_ret (pe_tup (pa_cons pe_str pa_nil))))
      pss_nil)
    (pss_cons (ps_if (PW.pt (pw_and (pt_cmpR op_notN (pe_fld (pv 0) rfl) pe_non (nomark _)) (pw_and1 (pt_not (pt_truth (pe_fld (pe_ix ix_list (pe_fld (pe_fld (pv 0) rfl) rfl) (pe_fld (pv 0) rfl) (fun _ _ => rfl)) rfl) (by intro _; rfl))))))
      (pss_one (ps_ret (pe_tup (pa_cons pe_str (pa_cons (pe_fld (pv 0) rfl) pa_nil)))))
      pss_nil)
    (pss_cons (ps_asg (pe_meth0 (pv 0) T.cls_Going T.meth_Going__next_deed G_Going__next_deed hr_Going__next_deed b_Going__next_deed .nil pass0) (pg_tup rfl (pgs_cons (pg_name (i := 2) sc_Going_ending.nd rfl (by first | exact Or.inl rfl | exact Or.inr rfl)) (pgs_cons (pg_name (i := 3) sc_Going_ending.nd rfl (by first | exact Or.inl rfl | exact Or.inr rfl)) pgs_nil))))
    (pss_cons (ps_set (i := 1) sc_Going_ending.nd rfl (by first | exact Or.inl rfl | exact Or.inr rfl) (pe_meth0 (pv 0) T.cls_Going T.meth_Going__stop_met G_Going__stop_met hr_Going__stop_met b_Going__stop_met .nil pass0))
    (pss_cons (ps_if (pt_cmpR op_notN (pv 1) pe_non (nomark _))
      (pss_one (ps_ret (pe_tup (pa_cons pe_str (pa_cons (pv 2) (pa_cons (pv 3) (pa_cons (pv 1) pa_nil)))))))
      pss_nil)
    (pss_cons (ps_if (PW.pt (pw_and (pt_cmpR op_eq (pv 2) (pe_fld (pv 0) rfl) (nomark _)) (pw_and1 (pt_val (pe_meth0 (pv 0) T.cls_Going T.meth_Going__has_stepped G_Going__has_stepped hr_Going__has_stepped b_Going__has_stepped .nil pass0)))))
      (pss_one (ps_ret (pe_tup (pa_cons pe_str (pa_cons (pv 2) (pa_cons (pv 3) pa_nil))))))
      pss_nil)
    (pss_cons (ps_if (pt_cmpR op_ge (pe_fld (pv 0) rfl) (pe_fld (pv 0) rfl) (nomark _))
      (pss_one (ps_ret (pe_tup (pa_cons pe_str (pa_cons (pv 2) (pa_cons (pv 3) pa_nil))))))
      pss_nil)
    (pss_one (ps_ret pe_non)))))))))
theorem sc_Going_finish : FnScope n_Going_finish ["self"] (defScope s_Going_finish) := ⟨rfl, rfl, rfl, by decide +kernel, rfl, by decide +kernel, by decide +kernel⟩
theorem ok_Going_finish (T : Tx w K mg)
    (p_Going_ending : Pr P w K mg base 7 (He.ma K (He.ga K "Going") "ending") ["self"] (sp_Going_ending K))
    (p_Going_do_deed : Pr P w K mg base 8 (He.ma K (He.ga K "Going") "do_deed") ["self"] (sp_Going_do_deed K)) :
    Pr P w K mg base 9 (He.ma K (He.ga K "Going") "finish") ["self"] (sp_Going_finish K) := by
  obtain ⟨fd_Going_ending, G_Going_ending, b_Going_ending⟩ := p_Going_ending.ex
  have kp_Going_ending := p_Going_ending.kp
  obtain ⟨fd_Going_do_deed, G_Going_do_deed, b_Going_do_deed⟩ := p_Going_do_deed.ex
  have kp_Going_do_deed := p_Going_do_deed.kp
  refine mkPr T.def_Going_finish sc_Going_finish (fun _ _ _ _ _ _ us hl => match us, hl with | [_], _ => rfl) (fun vs H Q E h => ?_) (fun cdv A outer s H E hr => ?_) (rd_Going_finish)
  · unfold sp_Going_finish at h
    repeat (first | (obtain ⟨e, _⟩ := h; subst e; rfl) | (obtain ⟨_, h⟩ := h))
  · have hr_Going_ending : Room 7 _ := hr.mono (by decide)
    have hr_Going_do_deed : Room 8 _ := hr.mono (by decide)
    exact (pss_cons (ps_set (i := 1) sc_Going_finish.nd rfl (by first | exact Or.inl rfl | exact Or.inr rfl) (pe_meth0 (pv 0) T.cls_Going T.meth_Going_ending G_Going_ending hr_Going_ending b_Going_ending .nil pass0))
    (pss_cons (ps_while PassesOwn.never (pt_cmpR op_isN (pv 1) pe_non (nomark _))
      (pss_cons (ps_expr (pe_meth0 (pv 0) T.cls_Going T.meth_Going_do_deed G_Going_do_deed hr_Going_do_deed b_Going_do_deed .nil pass0))
      (pss_one (ps_set (i := 1) sc_Going_finish.nd rfl (by first | exact Or.inl rfl | exact Or.inr rfl) (pe_meth0 (pv 0) T.cls_Going T.meth_Going_ending G_Going_ending hr_Going_ending b_Going_ending .nil pass0)))))
    (pss_one (ps_ret (pv 1)))))
theorem sc_Hand_init : FnScope n_Hand_init ["self", "frame"] (defScope s_Hand_init) := ⟨rfl, rfl, rfl, by decide +kernel, rfl, by decide +kernel, by decide +kernel⟩
theorem ok_Hand_init (T : Tx w K mg)
    (p_Hand_settle : Pr P w K mg base 3 (He.ma K (He.ga K "Hand") "settle") ["self"] (sp_Hand_settle K)) :
    Pr P w K mg base 4 (He.ma K (He.ga K "Hand") "__init__") ["self", "frame"] (sp_Hand_init K) := by
  obtain ⟨fd_Hand_settle, G_Hand_settle, b_Hand_settle⟩ := p_Hand_settle.ex
  have kp_Hand_settle := p_Hand_settle.kp
  refine mkPr T.def_Hand_init sc_Hand_init (fun _ _ _ _ _ _ us hl => match us, hl with | [_, _], _ => rfl) (fun vs H Q E h => ?_) (fun cdv A outer s H E hr => ?_) (rd_Hand_init T.fx)
  · unfold sp_Hand_init at h
    repeat (first | (obtain ⟨e, _⟩ := h; subst e; rfl) | (obtain ⟨_, h⟩ := h))
  · have hr_Hand_settle : Room 3 _ := hr.mono (by decide)
    exact (pss_cons (ps_fld (pv 0) (pe_lst (pa_cons (pv 1) pa_nil)) rfl)
    (pss_one (ps_expr (pe_meth0 (pv 0) T.cls_Hand T.meth_Hand_settle G_Hand_settle hr_Hand_settle b_Hand_settle .nil pass0))))
theorem sc_Deed_init : FnScope n_Deed_init ["self", "place", "fun", "told"] (defScope s_Deed_init) := ⟨rfl, rfl, rfl, by decide +kernel, rfl, by decide +kernel, by decide +kernel⟩
theorem ok_Deed_init (T : Tx w K mg) :
    Pr P w K mg base 1 (He.ma K (He.ga K "Deed") "__init__") ["self", "place", "fun", "told"] (sp_Deed_init K) := by
  refine mkPr T.def_Deed_init sc_Deed_init (fun _ _ _ _ _ _ us hl => match us, hl with | [_, _, _, _], _ => rfl) (fun vs H Q E h => ?_) (fun cdv A outer s H E hr => ?_) (rd_Deed_init T.fx)
  · unfold sp_Deed_init at h
    repeat (first | (obtain ⟨e, _⟩ := h; subst e; rfl) | (obtain ⟨_, h⟩ := h))
  · exact (pss_cons (ps_fld (pv 0) (pv 1) rfl)
    (pss_cons (ps_fld (pv 0) (pv 2) rfl)
    (pss_cons (ps_fld (pv 0) (pv 3) rfl)
    (pss_one (ps_fld (pv 0) (pe_lst pa_nil) rfl)))))
theorem sc__bodies_in : FnScope n__bodies_in ["told"] (defScope s__bodies_in) := ⟨rfl, rfl, rfl, by decide +kernel, rfl, by decide +kernel, by decide +kernel⟩
theorem ok__bodies_in (T : Tx w K mg) :
    Pr P w K mg base 1 (He.ga K "_bodies_in") ["told"] (sp__bodies_in K) := by
  refine mkPr T.def__bodies_in sc__bodies_in (fun _ _ _ _ _ _ us hl => match us, hl with | [_], _ => rfl) (fun vs H Q E h => ?_) (fun cdv A outer s H E hr => ?_) (rd__bodies_in)
  · unfold sp__bodies_in at h
    repeat (first | (obtain ⟨e, _⟩ := h; subst e; rfl) | (obtain ⟨_, h⟩ := h))
  · exact (pss_one (ps_ret (pe_ifExp (pt_cmpR op_in_seq (pe_ix ix_tup (pv 0) pe_int (fun _ _ => rfl)) (pe_tup (pa_cons pe_str (pa_cons pe_str pa_nil))) (by with_unfolding_all rfl)) (pe_slice sl_tupA (pv 0) (po_some pe_int) po_none) (pe_tup pa_nil))))
theorem sc_Layout__laid_out : FnScope n_Layout__laid_out ["self", "body", "fun"] (defScope s_Layout__laid_out) := ⟨rfl, rfl, rfl, by decide +kernel, rfl, by decide +kernel, by decide +kernel⟩
theorem none_Layout__laid_out (T : Tx w K mg) (k : Nat) : Pr P w K mg base (k + 1) (He.ma K (He.ga K "Layout") "_laid_out") ["self", "body", "fun"] (fun _ _ _ _ => False) := by
  obtain ⟨fd, F⟩ := T.def_Layout__laid_out
  exact ⟨⟨fd, F.ok sc_Layout__laid_out (fun _ _ _ _ h => h.elim) (fun _ _ _ _ _ _ _ _ _ h => h.elim), F.bindsN (fun _ _ _ _ _ _ us hl => match us, hl with | [_, _, _], _ => rfl)⟩, F.kp⟩
theorem step_Layout__laid_out (T : Tx w K mg) {k : Nat} {rec sp : Sp} (hk : 2 ≤ k)
    (p__bodies_in : Pr P w K mg base 1 (He.ga K "_bodies_in") ["told"] (sp__bodies_in K))
    (p_Deed_init : Pr P w K mg base 1 (He.ma K (He.ga K "Deed") "__init__") ["self", "place", "fun", "told"] (sp_Deed_init K))
    (p_Layout__laid_out : Pr P w K mg base k (He.ma K (He.ga K "Layout") "_laid_out") ["self", "body", "fun"] rec) (len : ∀ vs H Q E, sp vs H Q E → vs.length = 3)
    (rd : ∀ (vs : List V) (H : Hp) (Q : VK) (E : XK), sp vs H Q E → t_Layout__laid_out K rec { nx := fun _ H' => Q .non H', rt := Q } (start n_Layout__laid_out vs) H) :
    Pr P w K mg base (k + 1) (He.ma K (He.ga K "Layout") "_laid_out") ["self", "body", "fun"] sp := by
  obtain ⟨fd__bodies_in, G__bodies_in, b__bodies_in⟩ := p__bodies_in.ex
  have kp__bodies_in := p__bodies_in.kp
  obtain ⟨fd_Layout__laid_out, G_Layout__laid_out, b_Layout__laid_out⟩ := p_Layout__laid_out.ex
  have kp_Layout__laid_out := p_Layout__laid_out.kp
  obtain ⟨fd_Deed_init, G_Deed_init, b_Deed_init⟩ := p_Deed_init.ex
  have kp_Deed_init := p_Deed_init.kp
  refine mkPr T.def_Layout__laid_out sc_Layout__laid_out (fun _ _ _ _ _ _ us hl => match us, hl with | [_, _, _], _ => rfl) len (fun cdv A outer s H E hr => ?_) rd
  have hr__bodies_in : Room 1 _ := hr.mono (by omega)
  have hr_Deed_init : Room 2 _ := hr.mono (by omega)
  have hr_Layout__laid_out : Room k _ := hr
  exact (pss_cons (ps_set (i := 3) sc_Layout__laid_out.nd rfl (by first | exact Or.inl rfl | exact Or.inr rfl) (pe_lst pa_nil))
    (pss_cons (ps_for PassesOwn.never rfl (pi_tup (pv 1)) (pg_name (i := 4) sc_Layout__laid_out.nd rfl (by first | exact Or.inl rfl | exact Or.inr rfl))
      (pss_cons (ps_set (i := 5) sc_Layout__laid_out.nd rfl (by first | exact Or.inl rfl | exact Or.inr rfl) (pe_make T.mkr_Deed G_Deed_init hr_Deed_init rfl T.glo_Deed b_Deed_init .nil pass0 (pa_cons (pe_callB (call_len_seq) (by rfl) T.free_len (by decide +kernel) (pa_cons (pe_fld (pv 0) rfl) pa_nil)) (pa_cons (pv 2) (pa_cons (pv 4) pa_nil)))))
      (pss_cons (ps_expr (pe_bm PySem.F.plainAttrs_list PySem.F.slot_list_append PySem.F.type_list_append mt_append (pe_fld (pv 0) rfl) (pa_cons (pv 5) pa_nil)))
      (pss_cons (ps_fld (pv 5) (pe_lc (own := [("inner", 6)]) rfl sc_Layout__laid_out.nd (pi_tup (pe_call G__bodies_in hr__bodies_in rfl T.glo__bodies_in kp__bodies_in b__bodies_in .nil pass0 (pa_cons (pv 4) pa_nil))) (blkOk_by (own := [("inner", 6)]) (N := ["self", "body", "fun", "deeds", "told", "deed", "inner"]) (sc := defScope s_Layout__laid_out) (by decide +kernel)) (fun _ _ _ _ _ => (pg_name (i := 6) sc_Layout__laid_out.nd rfl (by first | exact Or.inl rfl | exact Or.inr rfl))) (fun _ _ _ _ _ => pts_nil) (fun _ _ _ _ _ => (pe_meth (pv 0) T.cls_Layout T.meth_Layout__laid_out G_Layout__laid_out hr_Layout__laid_out b_Layout__laid_out .nil pass0 (pa_cons (pv 6) (pa_cons (pv 2) pa_nil))))) rfl)
      (pss_one (ps_expr (pe_bm PySem.F.plainAttrs_list PySem.F.slot_list_append PySem.F.type_list_append mt_append (pv 3) (pa_cons (pv 5) pa_nil))))))))
    (pss_one (ps_ret (pv 3)))))
theorem sc_Layout_init : FnScope n_Layout_init ["self", "funs"] (defScope s_Layout_init) := ⟨rfl, rfl, rfl, by decide +kernel, rfl, by decide +kernel, by decide +kernel⟩
theorem ok_Layout_init (T : Tx w K mg)
    (p_Layout__laid_out : Pr P w K mg base 12 (He.ma K (He.ga K "Layout") "_laid_out") ["self", "body", "fun"] (sp_Layout__laid_out K)) :
    Pr P w K mg base 13 (He.ma K (He.ga K "Layout") "__init__") ["self", "funs"] (sp_Layout_init K) := by
  obtain ⟨fd_Layout__laid_out, G_Layout__laid_out, b_Layout__laid_out⟩ := p_Layout__laid_out.ex
  have kp_Layout__laid_out := p_Layout__laid_out.kp
  refine mkPr T.def_Layout_init sc_Layout_init (fun _ _ _ _ _ _ us hl => match us, hl with | [_, _], _ => rfl) (fun vs H Q E h => ?_) (fun cdv A outer s H E hr => ?_) (rd_Layout_init T.fx)
  · unfold sp_Layout_init at h
    repeat (first | (obtain ⟨e, _⟩ := h; subst e; rfl) | (obtain ⟨_, h⟩ := h))
  · have hr_Layout__laid_out : Room 12 _ := hr.mono (by decide)
    exact (pss_cons (ps_fld (pv 0) (pe_lst pa_nil) rfl)
    (pss_one (ps_fld (pv 0) (pe_lc (own := [("number", 2), ("fun", 3)]) rfl sc_Layout_init.nd (pi_enumT rfl T.free_enumerate (pa_cons (pv 1) pa_nil)) (blkOk_by (own := [("number", 2), ("fun", 3)]) (N := ["self", "funs", "number", "fun"]) (sc := defScope s_Layout_init) (by decide +kernel)) (fun _ _ _ _ _ => (pg_tup rfl (pgs_cons (pg_name (i := 2) sc_Layout_init.nd rfl (by first | exact Or.inl rfl | exact Or.inr rfl)) (pgs_cons (pg_name (i := 3) sc_Layout_init.nd rfl (by first | exact Or.inl rfl | exact Or.inr rfl)) pgs_nil)))) (fun _ _ _ _ _ => pts_nil) (fun _ _ _ _ _ => (pe_meth (pv 0) T.cls_Layout T.meth_Layout__laid_out G_Layout__laid_out hr_Layout__laid_out b_Layout__laid_out .nil pass0 (pa_cons (pe_ix ix_tup (pv 3) pe_int (fun _ _ => rfl)) (pa_cons (pv 2) pa_nil))))) rfl)))
theorem sc_Machine_init : FnScope n_Machine_init ["self", "program"] (defScope s_Machine_init) := ⟨rfl, rfl, rfl, by decide +kernel, rfl, by decide +kernel, by decide +kernel⟩
theorem ok_Machine_init (T : Tx w K mg)
    (p_Hand_init : Pr P w K mg base 4 (He.ma K (He.ga K "Hand") "__init__") ["self", "frame"] (sp_Hand_init K))
    (p_Machine__begun : Pr P w K mg base 5 (He.ma K (He.ga K "Machine") "_begun") ["self", "fun", "handed"] (sp_Machine__begun K))
    (p_Layout_init : Pr P w K mg base 13 (He.ma K (He.ga K "Layout") "__init__") ["self", "funs"] (sp_Layout_init K))
    (p_check_program : Pr P w K mg base 6 (He.ga K "check_program") ["program"] (sp_check_program K)) :
    Pr P w K mg base 15 (He.ma K (He.ga K "Machine") "__init__") ["self", "program"] (sp_Machine_init K) := by
  obtain ⟨fd_Hand_init, G_Hand_init, b_Hand_init⟩ := p_Hand_init.ex
  have kp_Hand_init := p_Hand_init.kp
  obtain ⟨fd_Machine__begun, G_Machine__begun, b_Machine__begun⟩ := p_Machine__begun.ex
  have kp_Machine__begun := p_Machine__begun.kp
  obtain ⟨fd_Layout_init, G_Layout_init, b_Layout_init⟩ := p_Layout_init.ex
  have kp_Layout_init := p_Layout_init.kp
  obtain ⟨fd_check_program, G_check_program, b_check_program⟩ := p_check_program.ex
  have kp_check_program := p_check_program.kp
  refine mkPr T.def_Machine_init sc_Machine_init (fun _ _ _ _ _ _ us hl => match us, hl with | [_, _], _ => rfl) (fun vs H Q E h => ?_) (fun cdv A outer s H E hr => ?_) (rd_Machine_init T.fx)
  · unfold sp_Machine_init at h
    repeat (first | (obtain ⟨e, _⟩ := h; subst e; rfl) | (obtain ⟨_, h⟩ := h))
  · have hr_Hand_init : Room 5 _ := hr.mono (by decide)
    have hr_Machine__begun : Room 5 _ := hr.mono (by decide)
    have hr_Layout_init : Room 14 _ := hr.mono (by decide)
    have hr_check_program : Room 6 _ := hr.mono (by decide)
    exact (pss_cons (ps_expr (pe_call G_check_program hr_check_program rfl T.glo_check_program kp_check_program b_check_program .nil pass0 (pa_cons (pv 1) pa_nil)))
    (pss_cons (ps_asg (pv 1) (pg_tup rfl (pgs_cons (pg_name (i := 2) sc_Machine_init.nd rfl (by first | exact Or.inl rfl | exact Or.inr rfl)) (pgs_cons (pg_name (i := 3) sc_Machine_init.nd rfl (by first | exact Or.inl rfl | exact Or.inr rfl)) (pgs_cons (pg_name (i := 4) sc_Machine_init.nd rfl (by first | exact Or.inl rfl | exact Or.inr rfl)) pgs_nil)))))
    (pss_cons (ps_fld (pv 0) (pe_lc (own := [("fun", 5)]) rfl sc_Machine_init.nd (pi_tup (pv 3)) (blkOk_by (own := [("fun", 5)]) (N := ["self", "program", "cells", "funs", "hands", "fun"]) (sc := defScope s_Machine_init) (by decide +kernel)) (fun _ _ _ _ _ => (pg_name (i := 5) sc_Machine_init.nd rfl (by first | exact Or.inl rfl | exact Or.inr rfl))) (fun _ _ _ _ _ => pts_nil) (fun _ _ _ _ _ => (pe_ix ix_tup (pv 5) pe_int (fun _ _ => rfl)))) rfl)
    (pss_cons (ps_fld (pv 0) (pe_make T.mkr_Layout G_Layout_init hr_Layout_init rfl T.glo_Layout b_Layout_init .nil pass0 (pa_cons (pv 3) pa_nil)) rfl)
    (pss_cons (ps_fld (pv 0) (pe_callTy (call_list_of) (by rfl) T.free_list (by decide +kernel) (pa_cons (pv 2) pa_nil)) rfl)
    (pss_cons (ps_fld (pv 0) (pe_lst pa_nil) rfl)
    (pss_cons (ps_fld (pv 0) (pe_lc (own := [("fun", 5)]) rfl sc_Machine_init.nd (pi_tup (pv 4)) (blkOk_by (own := [("fun", 5)]) (N := ["self", "program", "cells", "funs", "hands", "fun"]) (sc := defScope s_Machine_init) (by decide +kernel)) (fun _ _ _ _ _ => (pg_name (i := 5) sc_Machine_init.nd rfl (by first | exact Or.inl rfl | exact Or.inr rfl))) (fun _ _ _ _ _ => pts_nil) (fun _ _ _ _ _ => (pe_make T.mkr_Hand G_Hand_init hr_Hand_init rfl T.glo_Hand b_Hand_init .nil pass0 (pa_cons (pe_meth (pv 0) T.cls_Machine T.meth_Machine__begun G_Machine__begun hr_Machine__begun b_Machine__begun .nil pass0 (pa_cons (pv 5) (pa_cons (pe_lst pa_nil) pa_nil))) pa_nil)))) rfl)
    (pss_one (ps_fld (pv 0) pe_int rfl)))))))))
theorem sc_Watched_init : FnScope n_Watched_init ["self", "program"] (defScope s_Watched_init) := ⟨rfl, rfl, rfl, by decide +kernel, rfl, by decide +kernel, by decide +kernel⟩
theorem ok_Watched_init (T : Tx w K mg)
    (p_Machine_init : Pr P w K mg base 15 (He.ma K (He.ga K "Machine") "__init__") ["self", "program"] (sp_Machine_init K)) :
    Pr P w K mg base 17 (He.ma K (He.ga K "Watched") "__init__") ["self", "program"] (sp_Watched_init K) := by
  obtain ⟨fd_Machine_init, G_Machine_init, b_Machine_init⟩ := p_Machine_init.ex
  have kp_Machine_init := p_Machine_init.kp
  refine mkPr T.def_Watched_init sc_Watched_init (fun _ _ _ _ _ _ us hl => match us, hl with | [_, _], _ => rfl) (fun vs H Q E h => ?_) (fun cdv A outer s H E hr => ?_) (rd_Watched_init T.fx T.gx)
  · unfold sp_Watched_init at h
    repeat (first | (obtain ⟨e, _⟩ := h; subst e; rfl) | (obtain ⟨_, h⟩ := h))
  · have hr_Machine_init : Room 16 _ := hr.mono (by decide)
    exact (pss_cons (ps_fld (pv 0) (pe_make T.mkr_Machine G_Machine_init hr_Machine_init rfl T.glo_Machine b_Machine_init .nil pass0 (pa_cons (pv 1) pa_nil)) rfl)
    (pss_cons (ps_fld (pv 0) (pv 1) rfl)
    (pss_cons (ps_fld (pv 0) pe_dnewK rfl)
    (pss_one (ps_fld (pv 0) pe_int rfl)))))
theorem sc_Watched__check_hand : FnScope n_Watched__check_hand ["self", "hand"] (defScope s_Watched__check_hand) := ⟨rfl, rfl, rfl, by decide +kernel, rfl, by decide +kernel, by decide +kernel⟩
theorem ok_Watched__check_hand (T : Tx w K mg) :
    Pr P w K mg base 1 (He.ma K (He.ga K "Watched") "_check_hand") ["self", "hand"] (sp_Watched__check_hand K) := by
  refine mkPr T.def_Watched__check_hand sc_Watched__check_hand (fun _ _ _ _ _ _ us hl => match us, hl with | [_, _], _ => rfl) (fun vs H Q E h => ?_) (fun cdv A outer s H E hr => ?_) (rd_Watched__check_hand T.fx T.gx)
  · unfold sp_Watched__check_hand at h
    repeat (first | (obtain ⟨e, _⟩ := h; subst e; rfl) | (obtain ⟨_, h⟩ := h))
  · exact (pss_one (ps_if (pt_not (pt_chain op_le op_lt pe_int (pv 1) (pe_callB (call_len_seq) (by rfl) T.free_len (by decide +kernel) (pa_cons (pe_fld (pe_fld (pv 0) rfl) rfl) pa_nil))))
      (pss_one ps_never)
      pss_nil))
theorem sc_Watched_stop : FnScope n_Watched_stop ["self", "place", "hand", "wish"] (defScope s_Watched_stop) := ⟨rfl, rfl, rfl, by decide +kernel, rfl, by decide +kernel, by decide +kernel⟩
theorem ok_Watched_stop (T : Tx w K mg)
    (p_Stop_init : Pr P w K mg base 1 (He.ma K (He.ga K "Stop") "__init__") ["self", "place", "hand", "wish"] (sp_Stop_init K))
    (p_is_part : Pr P w K mg base 5 (He.ga K "is_part") ["part", "scope"] (sp_is_part K))
    (p_Scope_init : Pr P w K mg base 1 (He.ma K (He.ga K "Scope") "__init__") ["self", "program", "fun"] (sp_Scope_init K))
    (p_Watched__check_hand : Pr P w K mg base 1 (He.ma K (He.ga K "Watched") "_check_hand") ["self", "hand"] (sp_Watched__check_hand K)) :
    Pr P w K mg base 6 (He.ma K (He.ga K "Watched") "stop") ["self", "place", "hand", "wish"] (sp_Watched_stop K) := by
  obtain ⟨fd_Stop_init, G_Stop_init, b_Stop_init⟩ := p_Stop_init.ex
  have kp_Stop_init := p_Stop_init.kp
  obtain ⟨fd_is_part, G_is_part, b_is_part⟩ := p_is_part.ex
  have kp_is_part := p_is_part.kp
  obtain ⟨fd_Scope_init, G_Scope_init, b_Scope_init⟩ := p_Scope_init.ex
  have kp_Scope_init := p_Scope_init.kp
  obtain ⟨fd_Watched__check_hand, G_Watched__check_hand, b_Watched__check_hand⟩ := p_Watched__check_hand.ex
  have kp_Watched__check_hand := p_Watched__check_hand.kp
  refine mkPr T.def_Watched_stop sc_Watched_stop (fun _ _ _ _ _ _ us hl => match us, hl with | [_, _, _, _], _ => rfl) (fun vs H Q E h => ?_) (fun cdv A outer s H E hr => ?_) (rd_Watched_stop T.fx T.gx)
  · unfold sp_Watched_stop at h
    repeat (first | (obtain ⟨e, _⟩ := h; subst e; rfl) | (obtain ⟨_, h⟩ := h))
  · have hr_Stop_init : Room 2 _ := hr.mono (by decide)
    have hr_is_part : Room 5 _ := hr.mono (by decide)
    have hr_Scope_init : Room 2 _ := hr.mono (by decide)
    have hr_Watched__check_hand : Room 1 _ := hr.mono (by decide)
    exact (pss_cons (ps_set (i := 4) sc_Watched_stop.nd rfl (by first | exact Or.inl rfl | exact Or.inr rfl) (pe_fld (pe_fld (pe_fld (pv 0) rfl) rfl) rfl))
    (pss_cons (ps_if (pt_not (pt_chain op_le op_lt pe_int (pv 1) (pe_callB (call_len_seq) (by rfl) T.free_len (by decide +kernel) (pa_cons (pv 4) pa_nil))))
      (pss_one ps_never)
      pss_nil)
    (pss_cons (ps_if (pt_cmpR op_notN (pv 2) pe_non (nomark _))
      (pss_one (ps_expr (pe_meth (pv 0) T.cls_Watched T.meth_Watched__check_hand G_Watched__check_hand hr_Watched__check_hand b_Watched__check_hand .nil pass0 (pa_cons (pv 2) pa_nil))))
      pss_nil)
    (pss_cons (ps_if (PW.pt (pw_and (pt_cmpR op_notN (pv 3) pe_non (nomark _)) (pw_and1 (pt_not (pt_val (pe_call G_is_part hr_is_part rfl T.glo_is_part kp_is_part b_is_part .nil pass0 (pa_cons (pv 3) (pa_cons (pe_make T.mkr_Scope G_Scope_init hr_Scope_init rfl T.glo_Scope b_Scope_init .nil pass0 (pa_cons (pe_fld (pv 0) rfl) (pa_cons (pe_fld (pe_ix ix_list (pv 4) (pv 1) (fun _ _ => rfl)) rfl) pa_nil))) pa_nil))))))))
      (pss_one ps_never)
      pss_nil)
    (pss_cons (ps_if (pt_cmpR op_ge (pe_callB (call_lenD) (by rfl) T.free_len (by decide +kernel) (pa_cons (pe_fld (pv 0) rfl) pa_nil)) (pe_gi rfl T.int_MOST_STOPS) (nomark _))
      (pss_one ps_never)
      pss_nil)
    (pss_cons (ps_set (i := 5) sc_Watched_stop.nd rfl (by first | exact Or.inl rfl | exact Or.inr rfl) (pe_fld (pv 0) rfl))
    (pss_cons (ps_dput (hu_of hr) (pe_fld (pv 0) rfl) (pv 5) (pe_make T.mkr_Stop G_Stop_init hr_Stop_init rfl T.glo_Stop b_Stop_init .nil pass0 (pa_cons (pv 1) (pa_cons (pv 2) (pa_cons (pv 3) pa_nil)))) rfl)
    (pss_cons (ps_fldaug (pv 0) pe_int in_add)
    (pss_one (ps_ret (pv 5)))))))))))
theorem sc_Watched_is_over : FnScope n_Watched_is_over ["self"] (defScope s_Watched_is_over) := ⟨rfl, rfl, rfl, by decide +kernel, rfl, by decide +kernel, by decide +kernel⟩
theorem ok_Watched_is_over (T : Tx w K mg)
    (p_Machine_all_ended : Pr P w K mg base 2 (He.ma K (He.ga K "Machine") "all_ended") ["self"] (sp_Machine_all_ended K)) :
    Pr P w K mg base 3 (He.ma K (He.ga K "Watched") "is_over") ["self"] (sp_Watched_is_over K) := by
  obtain ⟨fd_Machine_all_ended, G_Machine_all_ended, b_Machine_all_ended⟩ := p_Machine_all_ended.ex
  have kp_Machine_all_ended := p_Machine_all_ended.kp
  refine mkPr T.def_Watched_is_over sc_Watched_is_over (fun _ _ _ _ _ _ us hl => match us, hl with | [_], _ => rfl) (fun vs H Q E h => ?_) (fun cdv A outer s H E hr => ?_) (rd_Watched_is_over T.fx T.gx)
  · unfold sp_Watched_is_over at h
    repeat (first | (obtain ⟨e, _⟩ := h; subst e; rfl) | (obtain ⟨_, h⟩ := h))
  · have hr_Machine_all_ended : Room 2 _ := hr.mono (by decide)
    exact (pss_one (ps_ret (pe_meth0 (pe_fld (pv 0) rfl) T.cls_Machine T.meth_Machine_all_ended G_Machine_all_ended hr_Machine_all_ended b_Machine_all_ended .nil pass0)))
theorem sc_Watched_begin_go : FnScope n_Watched_begin_go ["self", "many"] (defScope s_Watched_begin_go) := ⟨rfl, rfl, rfl, by decide +kernel, rfl, by decide +kernel, by decide +kernel⟩
theorem ok_Watched_begin_go (T : Tx w K mg)
    (p_Going_init : Pr P w K mg base 1 (He.ma K (He.ga K "Going") "__init__") ["self", "machine", "stops", "hand", "way", "many"] (sp_Going_init K))
    (p_Watched_is_over : Pr P w K mg base 3 (He.ma K (He.ga K "Watched") "is_over") ["self"] (sp_Watched_is_over K))
    (p_check_count : Pr P w K mg base 1 (He.ga K "check_count") ["many"] (sp_check_count K)) :
    Pr P w K mg base 4 (He.ma K (He.ga K "Watched") "begin_go") ["self", "many"] (sp_Watched_begin_go K) := by
  obtain ⟨fd_Going_init, G_Going_init, b_Going_init⟩ := p_Going_init.ex
  have kp_Going_init := p_Going_init.kp
  obtain ⟨fd_Watched_is_over, G_Watched_is_over, b_Watched_is_over⟩ := p_Watched_is_over.ex
  have kp_Watched_is_over := p_Watched_is_over.kp
  obtain ⟨fd_check_count, G_check_count, b_check_count⟩ := p_check_count.ex
  have kp_check_count := p_check_count.kp
  refine mkPr T.def_Watched_begin_go sc_Watched_begin_go (fun _ _ _ _ _ _ us hl => match us, hl with | [_, _], _ => rfl) (fun vs H Q E h => ?_) (fun cdv A outer s H E hr => ?_) (rd_Watched_begin_go T.fx T.gx)
  · unfold sp_Watched_begin_go at h
    repeat (first | (obtain ⟨e, _⟩ := h; subst e; rfl) | (obtain ⟨_, h⟩ := h))
  · have hr_Going_init : Room 2 _ := hr.mono (by decide)
    have hr_Watched_is_over : Room 3 _ := hr.mono (by decide)
    have hr_check_count : Room 1 _ := hr.mono (by decide)
    exact (pss_cons (ps_expr (pe_call G_check_count hr_check_count rfl T.glo_check_count kp_check_count b_check_count .nil pass0 (pa_cons (pv 1) pa_nil)))
    (pss_cons (ps_if (pt_val (pe_meth0 (pv 0) T.cls_Watched T.meth_Watched_is_over G_Watched_is_over hr_Watched_is_over b_Watched_is_over .nil pass0))
      (pss_one ps_never)
      pss_nil)
    (pss_one (ps_ret (pe_make T.mkr_Going G_Going_init hr_Going_init rfl T.glo_Going b_Going_init .nil pass0 (pa_cons (pe_fld (pv 0) rfl) (pa_cons (pe_fld (pv 0) rfl) (pa_cons pe_non (pa_cons pe_non (pa_cons (pv 1) pa_nil))))))))))
theorem sc_Watched_go : FnScope n_Watched_go ["self", "many"] (defScope s_Watched_go) := ⟨rfl, rfl, rfl, by decide +kernel, rfl, by decide +kernel, by decide +kernel⟩
theorem ok_Watched_go (T : Tx w K mg)
    (p_Going_finish : Pr P w K mg base 9 (He.ma K (He.ga K "Going") "finish") ["self"] (sp_Going_finish K))
    (p_Watched_begin_go : Pr P w K mg base 4 (He.ma K (He.ga K "Watched") "begin_go") ["self", "many"] (sp_Watched_begin_go K)) :
    Pr P w K mg base 10 (He.ma K (He.ga K "Watched") "go") ["self", "many"] (sp_Watched_go K) := by
  obtain ⟨fd_Going_finish, G_Going_finish, b_Going_finish⟩ := p_Going_finish.ex
  have kp_Going_finish := p_Going_finish.kp
  obtain ⟨fd_Watched_begin_go, G_Watched_begin_go, b_Watched_begin_go⟩ := p_Watched_begin_go.ex
  have kp_Watched_begin_go := p_Watched_begin_go.kp
  refine mkPr T.def_Watched_go sc_Watched_go (fun _ _ _ _ _ _ us hl => match us, hl with | [_, _], _ => rfl) (fun vs H Q E h => ?_) (fun cdv A outer s H E hr => ?_) (rd_Watched_go T.fx T.gx)
  · unfold sp_Watched_go at h
    repeat (first | (obtain ⟨e, _⟩ := h; subst e; rfl) | (obtain ⟨_, h⟩ := h))
  · have hr_Going_finish : Room 9 _ := hr.mono (by decide)
    have hr_Watched_begin_go : Room 4 _ := hr.mono (by decide)
    exact (pss_one (ps_ret (pe_meth0 (pe_meth (pv 0) T.cls_Watched T.meth_Watched_begin_go G_Watched_begin_go hr_Watched_begin_go b_Watched_begin_go .nil pass0 (pa_cons (pv 1) pa_nil)) T.cls_Going T.meth_Going_finish G_Going_finish hr_Going_finish b_Going_finish .nil pass0)))
theorem sc_Watched_begin_step : FnScope n_Watched_begin_step ["self", "hand", "way", "many"] (defScope s_Watched_begin_step) := ⟨rfl, rfl, rfl, by decide +kernel, rfl, by decide +kernel, by decide +kernel⟩
theorem ok_Watched_begin_step (T : Tx w K mg)
    (p_Going_init : Pr P w K mg base 1 (He.ma K (He.ga K "Going") "__init__") ["self", "machine", "stops", "hand", "way", "many"] (sp_Going_init K))
    (p_check_count : Pr P w K mg base 1 (He.ga K "check_count") ["many"] (sp_check_count K))
    (p_Watched__check_hand : Pr P w K mg base 1 (He.ma K (He.ga K "Watched") "_check_hand") ["self", "hand"] (sp_Watched__check_hand K)) :
    Pr P w K mg base 3 (He.ma K (He.ga K "Watched") "begin_step") ["self", "hand", "way", "many"] (sp_Watched_begin_step K) := by
  obtain ⟨fd_Going_init, G_Going_init, b_Going_init⟩ := p_Going_init.ex
  have kp_Going_init := p_Going_init.kp
  obtain ⟨fd_check_count, G_check_count, b_check_count⟩ := p_check_count.ex
  have kp_check_count := p_check_count.kp
  obtain ⟨fd_Watched__check_hand, G_Watched__check_hand, b_Watched__check_hand⟩ := p_Watched__check_hand.ex
  have kp_Watched__check_hand := p_Watched__check_hand.kp
  refine mkPr T.def_Watched_begin_step sc_Watched_begin_step (fun _ _ _ _ _ _ us hl => match us, hl with | [_, _, _, _], _ => rfl) (fun vs H Q E h => ?_) (fun cdv A outer s H E hr => ?_) (rd_Watched_begin_step T.fx T.gx)
  · unfold sp_Watched_begin_step at h
    repeat (first | (obtain ⟨e, _⟩ := h; subst e; rfl) | (obtain ⟨_, h⟩ := h))
  · have hr_Going_init : Room 2 _ := hr.mono (by decide)
    have hr_check_count : Room 1 _ := hr.mono (by decide)
    have hr_Watched__check_hand : Room 1 _ := hr.mono (by decide)
    exact (pss_cons (ps_expr (pe_meth (pv 0) T.cls_Watched T.meth_Watched__check_hand G_Watched__check_hand hr_Watched__check_hand b_Watched__check_hand .nil pass0 (pa_cons (pv 1) pa_nil)))
    (pss_cons (ps_if (pt_cmpR op_notIn_seq (pv 2) (pe_tup (pa_cons pe_str (pa_cons pe_str (pa_cons pe_str pa_nil)))) (by with_unfolding_all rfl))
      (pss_one ps_never)
      pss_nil)
    (pss_cons (ps_expr (pe_call G_check_count hr_check_count rfl T.glo_check_count kp_check_count b_check_count .nil pass0 (pa_cons (pv 3) pa_nil)))
    (pss_cons (ps_if (pt_not (pt_truth (pe_fld (pe_ix ix_list (pe_fld (pe_fld (pv 0) rfl) rfl) (pv 1) (fun _ _ => rfl)) rfl) (by intro _; rfl)))
      (pss_one ps_never)
      pss_nil)
    (pss_one (ps_ret (pe_make T.mkr_Going G_Going_init hr_Going_init rfl T.glo_Going b_Going_init .nil pass0 (pa_cons (pe_fld (pv 0) rfl) (pa_cons (pe_fld (pv 0) rfl) (pa_cons (pv 1) (pa_cons (pv 2) (pa_cons (pv 3) pa_nil))))))))))))
theorem sc_Watched_step : FnScope n_Watched_step ["self", "hand", "way", "many"] (defScope s_Watched_step) := ⟨rfl, rfl, rfl, by decide +kernel, rfl, by decide +kernel, by decide +kernel⟩
theorem ok_Watched_step (T : Tx w K mg)
    (p_Going_finish : Pr P w K mg base 9 (He.ma K (He.ga K "Going") "finish") ["self"] (sp_Going_finish K))
    (p_Watched_begin_step : Pr P w K mg base 3 (He.ma K (He.ga K "Watched") "begin_step") ["self", "hand", "way", "many"] (sp_Watched_begin_step K)) :
    Pr P w K mg base 10 (He.ma K (He.ga K "Watched") "step") ["self", "hand", "way", "many"] (sp_Watched_step K) := by
  obtain ⟨fd_Going_finish, G_Going_finish, b_Going_finish⟩ := p_Going_finish.ex
  have kp_Going_finish := p_Going_finish.kp
  obtain ⟨fd_Watched_begin_step, G_Watched_begin_step, b_Watched_begin_step⟩ := p_Watched_begin_step.ex
  have kp_Watched_begin_step := p_Watched_begin_step.kp
  refine mkPr T.def_Watched_step sc_Watched_step (fun _ _ _ _ _ _ us hl => match us, hl with | [_, _, _, _], _ => rfl) (fun vs H Q E h => ?_) (fun cdv A outer s H E hr => ?_) (rd_Watched_step T.fx T.gx)
  · unfold sp_Watched_step at h
    repeat (first | (obtain ⟨e, _⟩ := h; subst e; rfl) | (obtain ⟨_, h⟩ := h))
  · have hr_Going_finish : Room 9 _ := hr.mono (by decide)
    have hr_Watched_begin_step : Room 3 _ := hr.mono (by decide)
    exact (pss_one (ps_ret (pe_meth0 (pe_meth (pv 0) T.cls_Watched T.meth_Watched_begin_step G_Watched_begin_step hr_Watched_begin_step b_Watched_begin_step .nil pass0 (pa_cons (pv 1) (pa_cons (pv 2) (pa_cons (pv 3) pa_nil)))) T.cls_Going T.meth_Going_finish G_Going_finish hr_Going_finish b_Going_finish .nil pass0)))
theorem sc_Watched_stack : FnScope n_Watched_stack ["self", "hand"] (defScope s_Watched_stack) := ⟨rfl, rfl, rfl, by decide +kernel, rfl, by decide +kernel, by decide +kernel⟩
theorem ok_Watched_stack (T : Tx w K mg)
    (p_Frame_deed : Pr P w K mg base 1 (He.ma K (He.ga K "Frame") "deed") ["self"] (sp_Frame_deed K))
    (p_Watched__check_hand : Pr P w K mg base 1 (He.ma K (He.ga K "Watched") "_check_hand") ["self", "hand"] (sp_Watched__check_hand K)) :
    Pr P w K mg base 2 (He.ma K (He.ga K "Watched") "stack") ["self", "hand"] (sp_Watched_stack K) := by
  obtain ⟨fd_Frame_deed, G_Frame_deed, b_Frame_deed⟩ := p_Frame_deed.ex
  have kp_Frame_deed := p_Frame_deed.kp
  obtain ⟨fd_Watched__check_hand, G_Watched__check_hand, b_Watched__check_hand⟩ := p_Watched__check_hand.ex
  have kp_Watched__check_hand := p_Watched__check_hand.kp
  refine mkPr T.def_Watched_stack sc_Watched_stack (fun _ _ _ _ _ _ us hl => match us, hl with | [_, _], _ => rfl) (fun vs H Q E h => ?_) (fun cdv A outer s H E hr => ?_) (rd_Watched_stack T.fx T.gx)
  · unfold sp_Watched_stack at h
    repeat (first | (obtain ⟨e, _⟩ := h; subst e; rfl) | (obtain ⟨_, h⟩ := h))
  · have hr_Frame_deed : Room 1 _ := hr.mono (by decide)
    have hr_Watched__check_hand : Room 1 _ := hr.mono (by decide)
    exact (pss_cons (ps_expr (pe_meth (pv 0) T.cls_Watched T.meth_Watched__check_hand G_Watched__check_hand hr_Watched__check_hand b_Watched__check_hand .nil pass0 (pa_cons (pv 1) pa_nil)))
    (pss_cons (ps_set (i := 2) sc_Watched_stack.nd rfl (by first | exact Or.inl rfl | exact Or.inr rfl) (pe_fld (pe_ix ix_list (pe_fld (pe_fld (pv 0) rfl) rfl) (pv 1) (fun _ _ => rfl)) rfl))
    (pss_one (ps_ret (pe_lc (own := [("frame", 3)]) rfl sc_Watched_stack.nd (pi_reversed rfl T.free_reversed (pa_cons (pv 2) pa_nil)) (blkOk_by (own := [("frame", 3)]) (N := ["self", "hand", "frames", "frame"]) (sc := defScope s_Watched_stack) (by decide +kernel)) (fun _ _ _ _ _ => (pg_name (i := 3) sc_Watched_stack.nd rfl (by first | exact Or.inl rfl | exact Or.inr rfl))) (fun _ _ _ _ _ => pts_nil) (fun _ _ _ _ _ => (pe_tup (pa_cons (pe_fld (pv 3) rfl) (pa_cons (pe_fld (pe_meth0 (pv 3) T.cls_Frame T.meth_Frame_deed G_Frame_deed hr_Frame_deed b_Frame_deed .nil pass0) rfl) pa_nil)))))))))
theorem sc_Watched__frame : FnScope n_Watched__frame ["self", "hand", "deep"] (defScope s_Watched__frame) := ⟨rfl, rfl, rfl, by decide +kernel, rfl, by decide +kernel, by decide +kernel⟩
theorem ok_Watched__frame (T : Tx w K mg)
    (p_Watched__check_hand : Pr P w K mg base 1 (He.ma K (He.ga K "Watched") "_check_hand") ["self", "hand"] (sp_Watched__check_hand K)) :
    Pr P w K mg base 2 (He.ma K (He.ga K "Watched") "_frame") ["self", "hand", "deep"] (sp_Watched__frame K) := by
  obtain ⟨fd_Watched__check_hand, G_Watched__check_hand, b_Watched__check_hand⟩ := p_Watched__check_hand.ex
  have kp_Watched__check_hand := p_Watched__check_hand.kp
  refine mkPr T.def_Watched__frame sc_Watched__frame (fun _ _ _ _ _ _ us hl => match us, hl with | [_, _, _], _ => rfl) (fun vs H Q E h => ?_) (fun cdv A outer s H E hr => ?_) (rd_Watched__frame T.fx T.gx)
  · unfold sp_Watched__frame at h
    repeat (first | (obtain ⟨e, _⟩ := h; subst e; rfl) | (obtain ⟨_, h⟩ := h))
  · have hr_Watched__check_hand : Room 1 _ := hr.mono (by decide)
    exact (pss_cons (ps_expr (pe_meth (pv 0) T.cls_Watched T.meth_Watched__check_hand G_Watched__check_hand hr_Watched__check_hand b_Watched__check_hand .nil pass0 (pa_cons (pv 1) pa_nil)))
    (pss_cons (ps_set (i := 3) sc_Watched__frame.nd rfl (by first | exact Or.inl rfl | exact Or.inr rfl) (pe_fld (pe_ix ix_list (pe_fld (pe_fld (pv 0) rfl) rfl) (pv 1) (fun _ _ => rfl)) rfl))
    (pss_cons (ps_if (pt_not (pt_chain op_le op_lt pe_int (pv 2) (pe_callB (call_len_seq) (by rfl) T.free_len (by decide +kernel) (pa_cons (pv 3) pa_nil))))
      (pss_one ps_never)
      pss_nil)
    (pss_one (ps_ret (pe_ix ix_list (pv 3) (pe_op op_sub (pe_un un_neg pe_int) (pv 2)) (fun _ _ => rfl)))))))
theorem sc_Watched_look : FnScope n_Watched_look ["self", "hand", "deep"] (defScope s_Watched_look) := ⟨rfl, rfl, rfl, by decide +kernel, rfl, by decide +kernel, by decide +kernel⟩
theorem ok_Watched_look (T : Tx w K mg)
    (p_Watched__frame : Pr P w K mg base 2 (He.ma K (He.ga K "Watched") "_frame") ["self", "hand", "deep"] (sp_Watched__frame K)) :
    Pr P w K mg base 3 (He.ma K (He.ga K "Watched") "look") ["self", "hand", "deep"] (sp_Watched_look K) := by
  obtain ⟨fd_Watched__frame, G_Watched__frame, b_Watched__frame⟩ := p_Watched__frame.ex
  have kp_Watched__frame := p_Watched__frame.kp
  refine mkPr T.def_Watched_look sc_Watched_look (fun _ _ _ _ _ _ us hl => match us, hl with | [_, _, _], _ => rfl) (fun vs H Q E h => ?_) (fun cdv A outer s H E hr => ?_) (rd_Watched_look T.fx T.gx)
  · unfold sp_Watched_look at h
    repeat (first | (obtain ⟨e, _⟩ := h; subst e; rfl) | (obtain ⟨_, h⟩ := h))
  · have hr_Watched__frame : Room 2 _ := hr.mono (by decide)
    exact (pss_one (ps_ret (pe_callTy (call_list_of) (by rfl) T.free_list (by decide +kernel) (pa_cons (pe_fld (pe_meth (pv 0) T.cls_Watched T.meth_Watched__frame G_Watched__frame hr_Watched__frame b_Watched__frame .nil pass0 (pa_cons (pv 1) (pa_cons (pv 2) pa_nil))) rfl) pa_nil))))
theorem sc_Watched_cells : FnScope n_Watched_cells ["self"] (defScope s_Watched_cells) := ⟨rfl, rfl, rfl, by decide +kernel, rfl, by decide +kernel, by decide +kernel⟩
theorem ok_Watched_cells (T : Tx w K mg) :
    Pr P w K mg base 1 (He.ma K (He.ga K "Watched") "cells") ["self"] (sp_Watched_cells K) := by
  refine mkPr T.def_Watched_cells sc_Watched_cells (fun _ _ _ _ _ _ us hl => match us, hl with | [_], _ => rfl) (fun vs H Q E h => ?_) (fun cdv A outer s H E hr => ?_) (rd_Watched_cells T.fx T.gx)
  · unfold sp_Watched_cells at h
    repeat (first | (obtain ⟨e, _⟩ := h; subst e; rfl) | (obtain ⟨_, h⟩ := h))
  · exact (pss_one (ps_ret (pe_callTy (call_list_of) (by rfl) T.free_list (by decide +kernel) (pa_cons (pe_fld (pe_fld (pv 0) rfl) rfl) pa_nil))))
theorem sc_Watched_said : FnScope n_Watched_said ["self"] (defScope s_Watched_said) := ⟨rfl, rfl, rfl, by decide +kernel, rfl, by decide +kernel, by decide +kernel⟩
theorem ok_Watched_said (T : Tx w K mg) :
    Pr P w K mg base 1 (He.ma K (He.ga K "Watched") "said") ["self"] (sp_Watched_said K) := by
  refine mkPr T.def_Watched_said sc_Watched_said (fun _ _ _ _ _ _ us hl => match us, hl with | [_], _ => rfl) (fun vs H Q E h => ?_) (fun cdv A outer s H E hr => ?_) (rd_Watched_said T.fx T.gx)
  · unfold sp_Watched_said at h
    repeat (first | (obtain ⟨e, _⟩ := h; subst e; rfl) | (obtain ⟨_, h⟩ := h))
  · exact (pss_one (ps_ret (pe_callTy (call_list_of) (by rfl) T.free_list (by decide +kernel) (pa_cons (pe_fld (pe_fld (pv 0) rfl) rfl) pa_nil))))
theorem sc__law_dice : FnScope n__law_dice ["_law_script"] (defScope s__law_dice) := ⟨rfl, rfl, rfl, by decide +kernel, rfl, by decide +kernel, by decide +kernel⟩
theorem ok__law_dice (T : Tx w K mg) :
    Pr P w K mg base 1 (He.ga K "_law_dice") ["_law_script"] (sp__law_dice K) := by
  refine mkPr T.def__law_dice sc__law_dice (fun _ _ _ _ _ _ us hl => match us, hl with | [_], _ => rfl) (fun vs H Q E h => ?_) (fun cdv A outer s H E hr => ?_) (rd__law_dice)
  · unfold sp__law_dice at h
    repeat (first | (obtain ⟨e, _⟩ := h; subst e; rfl) | (obtain ⟨_, h⟩ := h))
  · exact (pss_cons (ps_set (i := 1) sc__law_dice.nd rfl (by first | exact Or.inl rfl | exact Or.inr rfl) pe_int)
    (pss_cons (ps_for PassesOwn.never rfl (pi_list (pv 0)) (pg_name (i := 2) sc__law_dice.nd rfl (by first | exact Or.inl rfl | exact Or.inr rfl))
      (pss_one (ps_set (i := 1) sc__law_dice.nd rfl (by first | exact Or.inl rfl | exact Or.inr rfl) (pe_op op_mod (pe_op op_add (pe_op op_add (pe_op op_mul (pv 1) pe_int) (pe_op op_mul (pe_op op_mod (pv 2) pe_int) pe_int)) pe_int) pe_int))))
    (pss_one (ps_ret (pe_lst (pa_cons (pv 0) (pa_cons pe_int (pa_cons (pe_op op_mul (pv 1) (pe_callTy (call_int1) (by rfl) T.free_int (by decide +kernel) (pa_cons (pe_cmpR op_gt (pe_callB (call_len_seq) (by rfl) T.free_len (by decide +kernel) (pa_cons (pv 0) pa_nil)) pe_int (nomark _)) pa_nil))) (pa_cons pe_int pa_nil)))))))))
theorem sc__law_next : FnScope n__law_next ["_law_dice_here", "_law_many"] (defScope s__law_next) := ⟨rfl, rfl, rfl, by decide +kernel, rfl, by decide +kernel, by decide +kernel⟩
theorem ok__law_next (T : Tx w K mg) :
    Pr P w K mg base 1 (He.ga K "_law_next") ["_law_dice_here", "_law_many"] (sp__law_next K) := by
  refine mkPr T.def__law_next sc__law_next (fun _ _ _ _ _ _ us hl => match us, hl with | [_, _], _ => rfl) (fun vs H Q E h => ?_) (fun cdv A outer s H E hr => ?_) (rd__law_next)
  · unfold sp__law_next at h
    repeat (first | (obtain ⟨e, _⟩ := h; subst e; rfl) | (obtain ⟨_, h⟩ := h))
  · exact (pss_cons (ps_if (pt_cmpR op_gt (pe_ix ix_list (pv 0) pe_int (fun _ _ => rfl)) pe_int (nomark _))
      (pss_cons (ps_set (i := 2) sc__law_next.nd rfl (by first | exact Or.inl rfl | exact Or.inr rfl) (pe_op op_mod (pe_ix ix_list (pv 0) pe_int (fun _ _ => rfl)) (pv 1)))
      (pss_cons (ps_asg (pe_op op_fdiv (pe_ix ix_list (pv 0) pe_int (fun _ _ => rfl)) (pv 1)) (pg_sub (pv 0) pe_int set_list))
      (pss_one (ps_ret (pv 2)))))
      pss_nil)
    (pss_cons (ps_asg (pe_op op_add (pe_ix ix_list (pv 0) pe_int (fun _ _ => rfl)) pe_int) (pg_sub (pv 0) pe_int set_list))
    (pss_cons (ps_if (pt_cmpR op_le (pe_ix ix_list (pv 0) pe_int (fun _ _ => rfl)) (pe_callB (call_len_seq) (by rfl) T.free_len (by decide +kernel) (pa_cons (pe_ix ix_list (pv 0) pe_int (fun _ _ => rfl)) pa_nil)) (nomark _))
      (pss_cons (ps_set (i := 3) sc__law_next.nd rfl (by first | exact Or.inl rfl | exact Or.inr rfl) (pe_ix ix_list (pe_ix ix_list (pv 0) pe_int (fun _ _ => rfl)) (pe_op op_sub (pe_ix ix_list (pv 0) pe_int (fun _ _ => rfl)) pe_int) (fun _ _ => rfl)))
      (pss_cons (ps_asg (pe_ifExp (pt_cmpR op_ge (pv 3) (pe_op op_pow pe_int pe_int) (nomark _)) (pe_op op_fdiv (pv 3) (pv 1)) pe_int) (pg_sub (pv 0) pe_int set_list))
      (pss_one (ps_ret (pe_op op_mod (pv 3) (pv 1))))))
      pss_nil)
    (pss_cons (ps_asg (pe_op op_mod (pe_op op_mul (pe_ix ix_list (pv 0) pe_int (fun _ _ => rfl)) pe_int) pe_int) (pg_sub (pv 0) pe_int set_list))
    (pss_one (ps_ret (pe_op op_mod (pe_op op_fdiv (pe_ix ix_list (pv 0) pe_int (fun _ _ => rfl)) pe_int) (pv 1))))))))
theorem sc__law_deep_one : FnScope n__law_deep_one ["_law_many", "_law_hands"] (defScope s__law_deep_one) := ⟨rfl, rfl, rfl, by decide +kernel, rfl, by decide +kernel, by decide +kernel⟩
theorem ok__law_deep_one (T : Tx w K mg) :
    Pr P w K mg base 1 (He.ga K "_law_deep_one") ["_law_many", "_law_hands"] (sp__law_deep_one K) := by
  refine mkPr T.def__law_deep_one sc__law_deep_one (fun _ _ _ _ _ _ us hl => match us, hl with | [_, _], _ => rfl) (fun vs H Q E h => ?_) (fun cdv A outer s H E hr => ?_) (rd__law_deep_one)
  · unfold sp__law_deep_one at h
    repeat (first | (obtain ⟨e, _⟩ := h; subst e; rfl) | (obtain ⟨_, h⟩ := h))
  · exact (pss_cons (ps_asg (pe_tup (pa_cons (pe_tup (pa_cons pe_str (pa_cons pe_int pa_nil))) (pa_cons (pe_tup (pa_cons pe_str (pa_cons pe_int pa_nil))) pa_nil))) (pg_tup rfl (pgs_cons (pg_name (i := 5) sc__law_deep_one.nd rfl (by first | exact Or.inl rfl | exact Or.inr rfl)) (pgs_cons (pg_name (i := 6) sc__law_deep_one.nd rfl (by first | exact Or.inl rfl | exact Or.inr rfl)) pgs_nil))))
    (pss_cons (ps_set (i := 2) sc__law_deep_one.nd rfl (by first | exact Or.inl rfl | exact Or.inr rfl) (pe_tup (pa_cons (pe_tup (pa_cons pe_str (pa_cons (pe_tup (pa_cons pe_str (pa_cons (pv 5) (pa_cons (pe_tup (pa_cons pe_str (pa_cons pe_int pa_nil))) pa_nil)))) (pa_cons (pe_tup (pa_cons (pe_tup (pa_cons pe_str (pa_cons (pe_tup (pa_cons pe_str (pa_cons pe_int pa_nil))) pa_nil))) pa_nil)) (pa_cons (pe_tup pa_nil) pa_nil))))) (pa_cons (pe_tup (pa_cons pe_str (pa_cons pe_int (pa_cons (pe_tup (pa_cons (pe_tup (pa_cons pe_str (pa_cons (pv 5) (pa_cons (pe_tup (pa_cons pe_str (pa_cons pe_int pa_nil))) pa_nil)))) pa_nil)) (pa_cons pe_int pa_nil))))) (pa_cons (pe_tup (pa_cons pe_str (pa_cons (pe_tup (pa_cons pe_str (pa_cons (pv 6) (pa_cons (pe_tup (pa_cons pe_str (pa_cons pe_int pa_nil))) pa_nil)))) pa_nil))) pa_nil)))))
    (pss_cons (ps_set (i := 3) sc__law_deep_one.nd rfl (by first | exact Or.inl rfl | exact Or.inr rfl) (pe_tup (pa_cons (pe_tup (pa_cons pe_str (pa_cons pe_int (pa_cons (pe_tup (pa_cons (pe_tup (pa_cons pe_str (pa_cons (pv 0) pa_nil))) pa_nil)) (pa_cons pe_int pa_nil))))) (pa_cons (pe_tup (pa_cons pe_str (pa_cons (pv 5) pa_nil))) pa_nil))))
    (pss_cons (ps_set (i := 4) sc__law_deep_one.nd rfl (by first | exact Or.inl rfl | exact Or.inr rfl) (pe_tup (pa_cons (pe_tup (pa_cons pe_str (pa_cons (pe_tup (pa_cons pe_str (pa_cons pe_int pa_nil))) (pa_cons (pe_tup (pa_cons (pe_tup (pa_cons pe_str (pa_cons pe_int (pa_cons (pe_tup (pa_cons pe_str (pa_cons (pe_tup (pa_cons pe_str (pa_cons pe_int pa_nil))) (pa_cons (pe_tup (pa_cons pe_str (pa_cons pe_int pa_nil))) pa_nil)))) pa_nil)))) pa_nil)) pa_nil)))) pa_nil)))
    (pss_one (ps_ret (pe_tup (pa_cons (pe_tup (pa_cons pe_int pa_nil)) (pa_cons (pe_tup (pa_cons (pe_tup (pa_cons pe_int (pa_cons pe_int (pa_cons (pv 3) pa_nil)))) (pa_cons (pe_tup (pa_cons pe_int (pa_cons pe_int (pa_cons (pv 2) pa_nil)))) (pa_cons (pe_tup (pa_cons pe_int (pa_cons pe_int (pa_cons (pv 4) pa_nil)))) pa_nil)))) (pa_cons (pv 1) pa_nil))))))))))
end
end S
set_option Elab.async false
set_option linter.all false
set_option maxRecDepth 100000
set_option maxHeartbeats 4000000
namespace S
open PySem PySem.Spec PyProof.Rows L2
section
variable {P : Program} {w : World} {K : PySem.W.Frag} {mg : Str → Option Value} {base : Heap}
theorem sc_law : FnScope n_law ["_law_script"] (defScope s_law) := ⟨rfl, rfl, rfl, by decide +kernel, rfl, by decide +kernel, by decide +kernel⟩
theorem ok_law (T : Tx w K mg)
    (p_Watched_cells : Pr P w K mg base 1 (He.ma K (He.ga K "Watched") "cells") ["self"] (sp_Watched_cells K))
    (p_Watched_said : Pr P w K mg base 1 (He.ma K (He.ga K "Watched") "said") ["self"] (sp_Watched_said K))
    (p_Watched_is_over : Pr P w K mg base 3 (He.ma K (He.ga K "Watched") "is_over") ["self"] (sp_Watched_is_over K))
    (p_Watched_go : Pr P w K mg base 10 (He.ma K (He.ga K "Watched") "go") ["self", "many"] (sp_Watched_go K))
    (p_Watched_step : Pr P w K mg base 10 (He.ma K (He.ga K "Watched") "step") ["self", "hand", "way", "many"] (sp_Watched_step K))
    (p__law_next : Pr P w K mg base 1 (He.ga K "_law_next") ["_law_dice_here", "_law_many"] (sp__law_next K))
    (p_Watched_stack : Pr P w K mg base 2 (He.ma K (He.ga K "Watched") "stack") ["self", "hand"] (sp_Watched_stack K))
    (p_Watched_look : Pr P w K mg base 3 (He.ma K (He.ga K "Watched") "look") ["self", "hand", "deep"] (sp_Watched_look K))
    (p_Watched_stop : Pr P w K mg base 6 (He.ma K (He.ga K "Watched") "stop") ["self", "place", "hand", "wish"] (sp_Watched_stop K))
    (p_Watched_init : Pr P w K mg base 17 (He.ma K (He.ga K "Watched") "__init__") ["self", "program"] (sp_Watched_init K))
    (p__law_deep_one : Pr P w K mg base 1 (He.ga K "_law_deep_one") ["_law_many", "_law_hands"] (sp__law_deep_one K))
    (p__law_dice : Pr P w K mg base 1 (He.ga K "_law_dice") ["_law_script"] (sp__law_dice K)) :
    ∀ fd, FunD K "law" "law" (defArgs s_law) (defBody s_law) (defScope s_law) [] [] (He.ga K "law") fd → FnOk P w K mg base CX0 19 (He.ga K "law") fd ["_law_script"] (sp_law K) := by
  obtain ⟨fd_Watched_cells, G_Watched_cells, b_Watched_cells⟩ := p_Watched_cells.ex
  have kp_Watched_cells := p_Watched_cells.kp
  obtain ⟨fd_Watched_said, G_Watched_said, b_Watched_said⟩ := p_Watched_said.ex
  have kp_Watched_said := p_Watched_said.kp
  obtain ⟨fd_Watched_is_over, G_Watched_is_over, b_Watched_is_over⟩ := p_Watched_is_over.ex
  have kp_Watched_is_over := p_Watched_is_over.kp
  obtain ⟨fd_Watched_go, G_Watched_go, b_Watched_go⟩ := p_Watched_go.ex
  have kp_Watched_go := p_Watched_go.kp
  obtain ⟨fd_Watched_step, G_Watched_step, b_Watched_step⟩ := p_Watched_step.ex
  have kp_Watched_step := p_Watched_step.kp
  obtain ⟨fd__law_next, G__law_next, b__law_next⟩ := p__law_next.ex
  have kp__law_next := p__law_next.kp
  obtain ⟨fd_Watched_stack, G_Watched_stack, b_Watched_stack⟩ := p_Watched_stack.ex
  have kp_Watched_stack := p_Watched_stack.kp
  obtain ⟨fd_Watched_look, G_Watched_look, b_Watched_look⟩ := p_Watched_look.ex
  have kp_Watched_look := p_Watched_look.kp
  obtain ⟨fd_Watched_stop, G_Watched_stop, b_Watched_stop⟩ := p_Watched_stop.ex
  have kp_Watched_stop := p_Watched_stop.kp
  obtain ⟨fd_Watched_init, G_Watched_init, b_Watched_init⟩ := p_Watched_init.ex
  have kp_Watched_init := p_Watched_init.kp
  obtain ⟨fd__law_deep_one, G__law_deep_one, b__law_deep_one⟩ := p__law_deep_one.ex
  have kp__law_deep_one := p__law_deep_one.kp
  obtain ⟨fd__law_dice, G__law_dice, b__law_dice⟩ := p__law_dice.ex
  have kp__law_dice := p__law_dice.kp
  intro fd F
  refine mkFn F sc_law (fun vs H Q E h => ?_) (fun cdv A outer s H E hr => ?_) (rd_law)
  · unfold sp_law at h
    repeat (first | (obtain ⟨e, _⟩ := h; subst e; rfl) | (obtain ⟨_, h⟩ := h))
  · have hr_Watched_cells : Room 1 _ := hr.mono (by decide)
    have hr_Watched_said : Room 1 _ := hr.mono (by decide)
    have hr_Watched_is_over : Room 3 _ := hr.mono (by decide)
    have hr_Watched_go : Room 10 _ := hr.mono (by decide)
    have hr_Watched_step : Room 10 _ := hr.mono (by decide)
    have hr__law_next : Room 1 _ := hr.mono (by decide)
    have hr_Watched_stack : Room 2 _ := hr.mono (by decide)
    have hr_Watched_look : Room 3 _ := hr.mono (by decide)
    have hr_Watched_stop : Room 6 _ := hr.mono (by decide)
    have hr_Watched_init : Room 18 _ := hr.mono (by decide)
    have hr__law_deep_one : Room 1 _ := hr.mono (by decide)
    have hr__law_dice : Room 1 _ := hr.mono (by decide)
    exact (pss_cons (ps_set (i := 1) sc_law.nd rfl (by first | exact Or.inl rfl | exact Or.inr rfl) (pe_call G__law_dice hr__law_dice rfl T.glo__law_dice kp__law_dice b__law_dice .nil pass0 (pa_cons (pv 0) pa_nil)))
    (pss_cons (ps_set (i := 2) sc_law.nd rfl (by first | exact Or.inl rfl | exact Or.inr rfl) (pe_call G__law_next hr__law_next rfl T.glo__law_next kp__law_next b__law_next .nil pass0 (pa_cons (pv 1) (pa_cons pe_int pa_nil))))
    (pss_cons (ps_set (i := 3) sc_law.nd rfl (by first | exact Or.inl rfl | exact Or.inr rfl) (pe_slice sl_tupA (pe_tup (pa_cons pe_int (pa_cons pe_int (pa_cons pe_int pa_nil)))) po_none (po_some (pe_op op_add pe_int (pe_call G__law_next hr__law_next rfl T.glo__law_next kp__law_next b__law_next .nil pass0 (pa_cons (pv 1) (pa_cons pe_int pa_nil)))))))
    (pss_cons (ps_set (i := 4) sc_law.nd rfl (by first | exact Or.inl rfl | exact Or.inr rfl) (pe_make T.mkr_Watched G_Watched_init hr_Watched_init rfl T.glo_Watched b_Watched_init .nil pass0 (pa_cons (pe_call G__law_deep_one hr__law_deep_one rfl T.glo__law_deep_one kp__law_deep_one b__law_deep_one .nil pass0 (pa_cons (pv 2) (pa_cons (pv 3) pa_nil))) pa_nil)))
    (pss_cons (ps_if (PW.pt (pw_or (pt_cmpR op_ne (pe_meth (pv 4) T.cls_Watched T.meth_Watched_stop G_Watched_stop hr_Watched_stop b_Watched_stop .nil pass0 (pa_cons pe_int (pa_cons pe_int (pa_cons pe_non pa_nil)))) pe_int (nomark _)) (pw_or1 (pt_cmpR (op_neD hr.units) (pe_meth (pv 4) T.cls_Watched T.meth_Watched_go G_Watched_go hr_Watched_go b_Watched_go .nil pass0 (pa_cons pe_int pa_nil)) (pe_tup (pa_cons pe_str (pa_cons pe_int (pa_cons pe_int (pa_cons pe_int pa_nil))))) (nomark _)))))
      (pss_one (ps_ret pe_bl))
      pss_nil)
    (pss_cons (ps_if (pt_cmpR (op_neD hr.units) (pe_lc (own := [("_law_row", 9)]) rfl sc_law.nd (pi_list (pe_meth (pv 4) T.cls_Watched T.meth_Watched_stack G_Watched_stack hr_Watched_stack b_Watched_stack .nil pass0 (pa_cons pe_int pa_nil))) (blkOk_by (own := [("_law_row", 9)]) (N := ["_law_script", "_law_d", "_law_many", "_law_hands", "_law_watched", "_law_left", "_law_bound_here", "_law_way", "_law_told", "_law_row"]) (sc := defScope s_law) (by decide +kernel)) (fun _ _ _ _ _ => (pg_name (i := 9) sc_law.nd rfl (by first | exact Or.inl rfl | exact Or.inr rfl))) (fun _ _ _ _ _ => pts_nil) (fun _ _ _ _ _ => (pe_ix ix_tup (pv 9) pe_int (fun _ _ => rfl)))) (pe_op op_cat (pe_op op_cat (pe_lst (pa_cons pe_int pa_nil)) (pe_op op_rep (pe_lst (pa_cons pe_int pa_nil)) (pv 2))) (pe_lst (pa_cons pe_int pa_nil))) (nomark _))
      (pss_one (ps_ret pe_bl))
      pss_nil)
    (pss_cons (ps_set (i := 5) sc_law.nd rfl (by first | exact Or.inl rfl | exact Or.inr rfl) (pv 2))
    (pss_cons (ps_while PassesOwn.never (pt_cmpR op_gt (pv 5) (pe_un un_neg pe_int) (nomark _))
      (pss_cons (ps_set (i := 7) sc_law.nd rfl (by first | exact Or.inl rfl | exact Or.inr rfl) (pe_ix ix_list (pe_lst (pa_cons pe_str (pa_cons pe_str pa_nil))) (pe_op op_mul (pe_call G__law_next hr__law_next rfl T.glo__law_next kp__law_next b__law_next .nil pass0 (pa_cons (pv 1) (pa_cons pe_int pa_nil))) (pe_callTy (call_int1) (by rfl) T.free_int (by decide +kernel) (pa_cons (pe_cmpR op_lt (pv 5) (pv 2) (nomark _)) pa_nil))) (fun _ _ => rfl)))
      (pss_cons (ps_set (i := 8) sc_law.nd rfl (by first | exact Or.inl rfl | exact Or.inr rfl) (pe_meth (pv 4) T.cls_Watched T.meth_Watched_step G_Watched_step hr_Watched_step b_Watched_step .nil pass0 (pa_cons pe_int (pa_cons (pv 7) (pa_cons pe_int pa_nil)))))
      (pss_cons (ps_if (PW.pt (pw_or (pt_cmpR (op_neD hr.units) (pv 8) (pe_tup (pa_cons pe_str (pa_cons pe_int (pa_cons (pe_ifExp (pt_cmpR op_gt (pv 5) pe_int (nomark _)) pe_int pe_int) pa_nil)))) (nomark _)) (pw_or1 (pt_cmpR op_ne (pe_callB (call_len_seq) (by rfl) T.free_len (by decide +kernel) (pa_cons (pe_meth (pv 4) T.cls_Watched T.meth_Watched_stack G_Watched_stack hr_Watched_stack b_Watched_stack .nil pass0 (pa_cons pe_int pa_nil)) pa_nil)) (pe_op op_add (pv 5) pe_int) (nomark _)))))
        (pss_one (ps_ret pe_bl))
        pss_nil)
      (pss_cons (ps_if (pt_cmpR (op_neD hr.units) (pe_meth (pv 4) T.cls_Watched T.meth_Watched_look G_Watched_look hr_Watched_look b_Watched_look .nil pass0 (pa_cons pe_int (pa_cons pe_int pa_nil))) (pe_ifExp (pt_cmpR op_gt (pv 5) pe_int (nomark _)) (pe_lst (pa_cons (pe_op op_add (pe_op op_sub (pv 2) (pv 5)) pe_int) (pa_cons (pe_op op_sub (pe_op op_add pe_int (pv 2)) (pv 5)) pa_nil))) (pe_lst (pa_cons (pe_op op_add pe_int (pv 2)) pa_nil))) (nomark _))
        (pss_one (ps_ret pe_bl))
        pss_nil)
      (pss_one (ps_set (i := 5) sc_law.nd rfl (by first | exact Or.inl rfl | exact Or.inr rfl) (pe_op op_sub (pv 5) pe_int))))))))
    (pss_cons (ps_for PassesOwn.never rfl (pi_range1 rfl T.free_range (pa_cons pe_int pa_nil)) (pg_name (i := 6) sc_law.nd rfl (by first | exact Or.inl rfl | exact Or.inr rfl))
      (pss_cons (ps_if (pt_cmpR (op_eqD hr.units) (pe_meth (pv 4) T.cls_Watched T.meth_Watched_stack G_Watched_stack hr_Watched_stack b_Watched_stack .nil pass0 (pa_cons pe_int pa_nil)) (pe_lst pa_nil) (nomark _))
        (pss_one ps_break)
        pss_nil)
      (pss_one (ps_set (i := 8) sc_law.nd rfl (by first | exact Or.inl rfl | exact Or.inr rfl) (pe_meth (pv 4) T.cls_Watched T.meth_Watched_step G_Watched_step hr_Watched_step b_Watched_step .nil pass0 (pa_cons pe_int (pa_cons (pe_ix ix_list (pe_lst (pa_cons pe_str (pa_cons pe_str (pa_cons pe_str pa_nil)))) (pe_call G__law_next hr__law_next rfl T.glo__law_next kp__law_next b__law_next .nil pass0 (pa_cons (pv 1) (pa_cons pe_int pa_nil))) (fun _ _ => rfl)) (pa_cons pe_int pa_nil))))))))
    (pss_cons (ps_if (pt_cmpR op_notIn_seq (pe_ix ix_tup (pv 8) pe_int (fun _ _ => rfl)) (pe_tup (pa_cons pe_str (pa_cons pe_str pa_nil))) (by with_unfolding_all rfl))
      (pss_one (ps_ret pe_bl))
      pss_nil)
    (pss_cons (ps_if (pt_not (pt_val (pe_meth0 (pv 4) T.cls_Watched T.meth_Watched_is_over G_Watched_is_over hr_Watched_is_over b_Watched_is_over .nil pass0)))
      (pss_one (ps_expr (pe_meth (pv 4) T.cls_Watched T.meth_Watched_go G_Watched_go hr_Watched_go b_Watched_go .nil pass0 (pa_cons pe_int pa_nil))))
      pss_nil)
    (pss_one (ps_ret (pe_and (pe_cmpR (op_eqD hr.units) (pe_meth0 (pv 4) T.cls_Watched T.meth_Watched_said G_Watched_said hr_Watched_said b_Watched_said .nil pass0) (pe_lst (pa_cons (pe_tup (pa_cons pe_int (pa_cons (pe_op op_add pe_int (pv 2)) pa_nil))) pa_nil)) (nomark _)) (pe_one (pe_cmpR (op_eqD hr.units) (pe_meth0 (pv 4) T.cls_Watched T.meth_Watched_cells G_Watched_cells hr_Watched_cells b_Watched_cells .nil pass0) (pe_lst (pa_cons (pe_op op_mul pe_int (pe_op op_sub (pe_callB (call_len_seq) (by rfl) T.free_len (by decide +kernel) (pa_cons (pv 3) pa_nil)) pe_int)) pa_nil)) (nomark _)))))))))))))))))
end
end S
set_option Elab.async false
set_option linter.all false
set_option maxRecDepth 100000
set_option maxHeartbeats 4000000
namespace S
open PySem PySem.Spec PyProof.Rows L2
section
variable {P : Program} {w : World} {K : PySem.W.Frag} {mg : Str → Option Value} {base : Heap}
theorem laid_len (d : Nat) (vs : List V) (H : Hp) (Q : VK) (E : XK) (h : sp_laid K d vs H Q E) : vs.length = 3 := by
  unfold sp_laid at h
  repeat (first | (obtain ⟨e, _⟩ := h; subst e; rfl) | (obtain ⟨_, h⟩ := h))
theorem laid_at (T : Tx w K mg) (p1 : Pr P w K mg base 1 (He.ga K "_bodies_in") ["told"] (sp__bodies_in K)) (p2 : Pr P w K mg base 1 (He.ma K (He.ga K "Deed") "__init__") ["self", "place", "fun", "told"] (sp_Deed_init K)) :
    ∀ d, Pr P w K mg base (4 + d) (He.ma K (He.ga K "Layout") "_laid_out") ["self", "body", "fun"] (sp_laid K d)
  | 0 => step_Layout__laid_out T (by decide) p1 p2 (none_Layout__laid_out T 2) (laid_len 0) (rd_laid T.fx 0 _ (fun d' h => by omega))
  | d + 1 => step_Layout__laid_out T (by show 2 ≤ 4 + d; omega) p1 p2 (laid_at T p1 p2 d) (laid_len (d + 1)) (rd_laid T.fx (d + 1) _ (fun d' h vs H Q E hs => by
      have : d = d' := by omega
      subst this
      exact hs))
theorem ok_Layout__laid_out (T : Tx w K mg) (p1 : Pr P w K mg base 1 (He.ga K "_bodies_in") ["told"] (sp__bodies_in K)) (p2 : Pr P w K mg base 1 (He.ma K (He.ga K "Deed") "__init__") ["self", "place", "fun", "told"] (sp_Deed_init K)) :
    Pr P w K mg base 12 (He.ma K (He.ga K "Layout") "_laid_out") ["self", "body", "fun"] (sp_Layout__laid_out K) := laid_at T p1 p2 8
theorem chain_law (T : Tx w K mg) : ∀ fd, FunD K "law" "law" (defArgs s_law) (defBody s_law) (defScope s_law) [] [] (He.ga K "law") fd → FnOk P w K mg base CX0 19 (He.ga K "law") fd ["_law_script"] (sp_law K) := by
  have p_Watched_cells := ok_Watched_cells (P := P) (base := base) T
  have p_Watched_said := ok_Watched_said (P := P) (base := base) T
  have p_Machine_next_hand := ok_Machine_next_hand (P := P) (base := base) T
  have p_Machine_all_ended := ok_Machine_all_ended (P := P) (base := base) T p_Machine_next_hand
  have p_Watched_is_over := ok_Watched_is_over (P := P) (base := base) T p_Machine_all_ended
  have p_Going__has_stepped := ok_Going__has_stepped (P := P) (base := base) T
  have p_kinds_behind := ok_kinds_behind (P := P) (base := base) T
  have p_things_within := ok_things_within (P := P) (base := base) T p_kinds_behind
  have p__things_of := ok__things_of (P := P) (base := base) T p_things_within
  have p__joined := ok__joined (P := P) (base := base) T
  have p_reckoned := ok_reckoned (P := P) (base := base) T p__things_of p__joined
  have p_Frame_deed := ok_Frame_deed (P := P) (base := base) T
  have p_Stop_is_met := ok_Stop_is_met (P := P) (base := base) T p_reckoned p_Frame_deed
  have p_Machine_next_frame := ok_Machine_next_frame (P := P) (base := base) T p_Machine_next_hand
  have p_Going__stop_met := ok_Going__stop_met (P := P) (base := base) T p_Stop_is_met p_Machine_next_frame p_Machine_next_hand
  have p_Going__next_deed := ok_Going__next_deed (P := P) (base := base) T p_Frame_deed p_Machine_next_frame p_Machine_next_hand
  have p_Going_ending := ok_Going_ending (P := P) (base := base) T p_Going__has_stepped p_Going__stop_met p_Going__next_deed p_Machine_all_ended
  have p_Frame_find_deed := ok_Frame_find_deed (P := P) (base := base) T
  have p_Frame_move_on := ok_Frame_move_on (P := P) (base := base) T
  have p_Hand_end_fun := ok_Hand_end_fun (P := P) (base := base) T p_Frame_move_on p_Frame_deed
  have p_Hand_settle := ok_Hand_settle (P := P) (base := base) T p_Frame_find_deed p_Hand_end_fun
  have p_Block_init := ok_Block_init (P := P) (base := base) T
  have p_Frame_init := ok_Frame_init (P := P) (base := base) T p_Block_init
  have p_Machine__begun := ok_Machine__begun (P := P) (base := base) T p_Frame_init
  have p_Machine__call := ok_Machine__call (P := P) (base := base) T p_Machine__begun p_reckoned p_Frame_move_on
  have p_Frame_enter := ok_Frame_enter (P := P) (base := base) T p_Block_init
  have p_Machine__choose := ok_Machine__choose (P := P) (base := base) T p_Frame_enter p_Frame_move_on p_reckoned p_Frame_deed
  have p_Machine__note := ok_Machine__note (P := P) (base := base) T p_Frame_move_on p_reckoned
  have p_Machine_do_next := ok_Machine_do_next (P := P) (base := base) T p_Hand_settle p_Machine__call p_Hand_end_fun p_reckoned p_Machine__choose p_Machine__note p_Frame_deed p_Machine_next_hand
  have p_Going_do_deed := ok_Going_do_deed (P := P) (base := base) T p_Machine_do_next p_Machine_next_hand
  have p_Going_finish := ok_Going_finish (P := P) (base := base) T p_Going_ending p_Going_do_deed
  have p_Going_init := ok_Going_init (P := P) (base := base) T
  have p_check_count := ok_check_count (P := P) (base := base) T
  have p_Watched_begin_go := ok_Watched_begin_go (P := P) (base := base) T p_Going_init p_Watched_is_over p_check_count
  have p_Watched_go := ok_Watched_go (P := P) (base := base) T p_Going_finish p_Watched_begin_go
  have p_Watched__check_hand := ok_Watched__check_hand (P := P) (base := base) T
  have p_Watched_begin_step := ok_Watched_begin_step (P := P) (base := base) T p_Going_init p_check_count p_Watched__check_hand
  have p_Watched_step := ok_Watched_step (P := P) (base := base) T p_Going_finish p_Watched_begin_step
  have p__law_next := ok__law_next (P := P) (base := base) T
  have p_Watched_stack := ok_Watched_stack (P := P) (base := base) T p_Frame_deed p_Watched__check_hand
  have p_Watched__frame := ok_Watched__frame (P := P) (base := base) T p_Watched__check_hand
  have p_Watched_look := ok_Watched_look (P := P) (base := base) T p_Watched__frame
  have p_Stop_init := ok_Stop_init (P := P) (base := base) T
  have p_is_number := ok_is_number (P := P) (base := base) T
  have p_can_be_held := ok_can_be_held (P := P) (base := base) T p_is_number
  have p__is_of_kind := ok__is_of_kind (P := P) (base := base) T p_is_number
  have p__has_shape := ok__has_shape (P := P) (base := base) T p__is_of_kind p_kinds_behind
  have p__fault_of := ok__fault_of (P := P) (base := base) T p_kinds_behind p_can_be_held p__has_shape
  have p_is_part := ok_is_part (P := P) (base := base) T p_things_within p__fault_of
  have p_Scope_init := ok_Scope_init (P := P) (base := base) T
  have p_Watched_stop := ok_Watched_stop (P := P) (base := base) T p_Stop_init p_is_part p_Scope_init p_Watched__check_hand
  have p_Hand_init := ok_Hand_init (P := P) (base := base) T p_Hand_settle
  have p__bodies_in := ok__bodies_in (P := P) (base := base) T
  have p_Deed_init := ok_Deed_init (P := P) (base := base) T
  have p_Layout__laid_out := ok_Layout__laid_out (P := P) (base := base) T p__bodies_in p_Deed_init
  have p_Layout_init := ok_Layout_init (P := P) (base := base) T p_Layout__laid_out
  have p__fault_by_limits := ok__fault_by_limits (P := P) (base := base) T
  have p__check_body := ok__check_body (P := P) (base := base) T p_things_within p__fault_of p__fault_by_limits
  have p__can_be_done := ok__can_be_done (P := P) (base := base) T p_is_number
  have p__is_tuple_of := ok__is_tuple_of (P := P) (base := base) T
  have p__has_names := ok__has_names (P := P) (base := base) T p_is_number
  have p__is_fun := ok__is_fun (P := P) (base := base) T
  have p__fault_of_head := ok__fault_of_head (P := P) (base := base) T p__can_be_done p__is_tuple_of p__has_names p__is_fun p_can_be_held
  have p_check_program := ok_check_program (P := P) (base := base) T p__check_body p_Scope_init p__fault_of_head
  have p_Machine_init := ok_Machine_init (P := P) (base := base) T p_Hand_init p_Machine__begun p_Layout_init p_check_program
  have p_Watched_init := ok_Watched_init (P := P) (base := base) T p_Machine_init
  have p__law_deep_one := ok__law_deep_one (P := P) (base := base) T
  have p__law_dice := ok__law_dice (P := P) (base := base) T
  have p_law := ok_law (P := P) (base := base) T p_Watched_cells p_Watched_said p_Watched_is_over p_Watched_go p_Watched_step p__law_next p_Watched_stack p_Watched_look p_Watched_stop p_Watched_init p__law_deep_one p__law_dice
  exact p_law
end
end S
set_option Elab.async false
set_option linter.all false
set_option maxRecDepth 100000
set_option maxHeartbeats 0
namespace S
open PySem PySem.Spec PyProof.Rows L2
theorem facts {P : Program} {w : World} {h : Heap} {mg : Str → Option Value} {f : Addr} {K : PySem.W.Frag} (X : K.In h) (G : h.Ns mainGlobals mg) (hfa : mg ("law" : Str) = some (.ref f)) (c : SaysE w K) :
    ∃ fd : FuncData, (∀ (s : Shared) (v : Value), BindsTo s fd ⟨[v], []⟩ [("_law_script", v)]) ∧ ∀ base : Heap, K.In base → base.Ns mainGlobals mg → FnOk P w K mg base CX0 19 f fd ["_law_script"] (sp_law K) := by
  have T : Tx w K mg := ⟨⟨h, X, G⟩, c⟩
  obtain ⟨fd, F⟩ := T.def_law
  have e := hfa.symm.trans T.glo_law
  cases e
  have b := FunD.bindsA (ps := ["_law_script"]) F fun _ _ _ _ _ _ us hl => match us, hl with | [_], _ => rfl
  exact ⟨fd, fun s v => b s [v] rfl, fun base _ _ => chain_law (P := P) (base := base) T fd F⟩
end S
open PySem PySem.W PySem.Calls PyProof.Rows
theorem PySem.Challenge.cw_stopdesk_k18_whole_out_of_calls_holds : PySem.Challenge.rw_stopdesk_k18_whole_out_of_calls.Holds := by
  w_on; o_law
  refine HandSHeadRun.head_any (r := OpenLaw.row PySem.Challenge.rw_stopdesk_k18_whole_out_of_calls) (q := S.qv) (H := S.hk) (ob := S.ob) (M := 9000) (loose := S.names) (d := HandSHeadRun.topDef (OpenLaw.row PySem.Challenge.rw_stopdesk_k18_whole_out_of_calls).prog 69) (kwd := []) S.ob_eq
    (by kernel_rfl) (fun s => by kernel_rfl) S.run (by kernel_rfl) (by kernel_rfl) (by kernel_rfl) (by rfl) (by first | assumption | decide +kernel) (by decide +kernel) ⟨rfl, rfl, rfl, rfl, rfl, by decide +kernel⟩ ?hw ?hc
  case hw => w_witness2
  case hc =>
    refine L2.walk_ofE (l := PySem.Challenge.rw_stopdesk_k18_whole_out_of_calls) (n := 63) (k := 19) (x := "_law_script") (CX := L2.CX0) rfl (by decide) (by kernel_rfl) ⟨rfl, by decide, by decide⟩ ?F (fun _ _ _ _ z => z)
    intro w mg fa h Y G hmg0
    obtain ⟨K, KX, c⟩ := Y
    have hmg : mg ("law" : PySem.Str) = some (.ref fa) := by
      have e : (HandSHeadRun.topDef (OpenLaw.row PySem.Challenge.rw_stopdesk_k18_whole_out_of_calls).prog 69).name = ("law" : PySem.Str) := by kernel_rfl
      rw [← e]
      exact hmg0
    obtain ⟨fd, hb, hF⟩ := S.facts (P := (PySem.Challenge.rw_stopdesk_k18_whole_out_of_calls).prog) (w := w) KX G hmg c
    exact ⟨K, fd, S.sp_law K, KX, hb, fun H a ns hl _ hS => ⟨H, a, ns, rfl, L2.Same.refl _, hS, Nat.le_trans hl (by decide), fun _ => rfl⟩, hF⟩
