import PyProof.Rows.All
import Wide.All
import OpenK.AllK
import Wide.FinOn
import KE.KStateDown
import Open.SpecLaws
import KE.OsGo
import HandS.ForSpec
import HandS.Defaults
import HandS.HeadHook4
import HandS.ExcField
import HandS.ExcSuper
import HandS.Head4
import PyWqacdd
import HandS.ExcInit
import HandS.ExcCtx
import HandS.ExcInitHot
import HandS.TryMany
import KE.KExcPX
import KE.DataMinMax
import HandS.Comp
import HandS.Iter
import HandS.Text
import HandS.SortInts
import HandS.SetFor
import HandS.Walk
import PyFlatLaws
import PySem.Challenge.RW_taflahead_s01_answers
set_option Elab.async false
set_option linter.all false
set_option maxRecDepth 100000
set_option maxHeartbeats 2000000
/-! The text of the program by places: statements, the names of each def by slot. -/
namespace Tf
open PySem PySem.Spec PyProof.Rows L2
def topS (i : Nat) : Stmt := PySem.Challenge.pw_taflahead_s01_answers.main.body.getD i (.Pass ⟨0, 0, 0, 0⟩)
abbrev s_GrammarFault_init : Stmt := inClass (topS 1) 0
abbrev n_GrammarFault_init : List Str := ["self", "place"]
abbrev p_GrammarFault_init : List Str := ["self", "place"]
theorem sc_GrammarFault_init : FnScope n_GrammarFault_init p_GrammarFault_init (defScope s_GrammarFault_init) := ⟨rfl, rfl, rfl, by decide +kernel, rfl, by decide +kernel, by decide +kernel⟩
def d_GrammarFault_init : He.DefD := ⟨("GrammarFault", some "__init__"), "__init__", "GrammarFault.__init__", defArgs s_GrammarFault_init, defBody s_GrammarFault_init, defScope s_GrammarFault_init, [], []⟩
abbrev s_TextFault_init : Stmt := inClass (topS 2) 0
abbrev n_TextFault_init : List Str := ["self", "kind", "place"]
abbrev p_TextFault_init : List Str := ["self", "kind", "place"]
theorem sc_TextFault_init : FnScope n_TextFault_init p_TextFault_init (defScope s_TextFault_init) := ⟨rfl, rfl, rfl, by decide +kernel, rfl, by decide +kernel, by decide +kernel⟩
def d_TextFault_init : He.DefD := ⟨("TextFault", some "__init__"), "__init__", "TextFault.__init__", defArgs s_TextFault_init, defBody s_TextFault_init, defScope s_TextFault_init, [], []⟩
abbrev s_LineFault_init : Stmt := inClass (topS 3) 0
abbrev n_LineFault_init : List Str := ["self", "kind", "place"]
abbrev p_LineFault_init : List Str := ["self", "kind", "place"]
theorem sc_LineFault_init : FnScope n_LineFault_init p_LineFault_init (defScope s_LineFault_init) := ⟨rfl, rfl, rfl, by decide +kernel, rfl, by decide +kernel, by decide +kernel⟩
def d_LineFault_init : He.DefD := ⟨("LineFault", some "__init__"), "__init__", "LineFault.__init__", defArgs s_LineFault_init, defBody s_LineFault_init, defScope s_LineFault_init, [], []⟩
abbrev s_Position_init : Stmt := inClass (topS 22) 0
abbrev n_Position_init : List Str := ["self", "board", "king", "turn"]
abbrev p_Position_init : List Str := ["self", "board", "king", "turn"]
theorem sc_Position_init : FnScope n_Position_init p_Position_init (defScope s_Position_init) := ⟨rfl, rfl, rfl, by decide +kernel, rfl, by decide +kernel, by decide +kernel⟩
def d_Position_init : He.DefD := ⟨("Position", some "__init__"), "__init__", "Position.__init__", defArgs s_Position_init, defBody s_Position_init, defScope s_Position_init, [], []⟩
abbrev s_may_stand : Stmt := topS 23
abbrev n_may_stand : List Str := ["ground", "piece"]
abbrev p_may_stand : List Str := ["ground", "piece"]
theorem sc_may_stand : FnScope n_may_stand p_may_stand (defScope s_may_stand) := ⟨rfl, rfl, rfl, by decide +kernel, rfl, by decide +kernel, by decide +kernel⟩
def d_may_stand : He.DefD := ⟨("may_stand", none), "may_stand", "may_stand", defArgs s_may_stand, defBody s_may_stand, defScope s_may_stand, [], []⟩
abbrev s_on_edge : Stmt := topS 24
abbrev n_on_edge : List Str := ["wide", "high", "cell", "x", "y"]
abbrev p_on_edge : List Str := ["wide", "high", "cell"]
theorem sc_on_edge : FnScope n_on_edge p_on_edge (defScope s_on_edge) := ⟨rfl, rfl, rfl, by decide +kernel, rfl, by decide +kernel, by decide +kernel⟩
def d_on_edge : He.DefD := ⟨("on_edge", none), "on_edge", "on_edge", defArgs s_on_edge, defBody s_on_edge, defScope s_on_edge, [], []⟩
abbrev s_is_digit : Stmt := topS 27
abbrev n_is_digit : List Str := ["sign"]
abbrev p_is_digit : List Str := ["sign"]
theorem sc_is_digit : FnScope n_is_digit p_is_digit (defScope s_is_digit) := ⟨rfl, rfl, rfl, by decide +kernel, rfl, by decide +kernel, by decide +kernel⟩
def d_is_digit : He.DefD := ⟨("is_digit", none), "is_digit", "is_digit", defArgs s_is_digit, defBody s_is_digit, defScope s_is_digit, [], []⟩
abbrev s_is_letter : Stmt := topS 28
abbrev n_is_letter : List Str := ["sign"]
abbrev p_is_letter : List Str := ["sign"]
theorem sc_is_letter : FnScope n_is_letter p_is_letter (defScope s_is_letter) := ⟨rfl, rfl, rfl, by decide +kernel, rfl, by decide +kernel, by decide +kernel⟩
def d_is_letter : He.DefD := ⟨("is_letter", none), "is_letter", "is_letter", defArgs s_is_letter, defBody s_is_letter, defScope s_is_letter, [], []⟩
abbrev s_leads_to : Stmt := topS 29
abbrev n_leads_to : List Str := ["value", "least", "most", "lowest", "highest"]
abbrev p_leads_to : List Str := ["value", "least", "most"]
theorem sc_leads_to : FnScope n_leads_to p_leads_to (defScope s_leads_to) := ⟨rfl, rfl, rfl, by decide +kernel, rfl, by decide +kernel, by decide +kernel⟩
def d_leads_to : He.DefD := ⟨("leads_to", none), "leads_to", "leads_to", defArgs s_leads_to, defBody s_leads_to, defScope s_leads_to, [], []⟩
abbrev s_Reader_init : Stmt := inClass (topS 30) 0
abbrev n_Reader_init : List Str := ["self", "text"]
abbrev p_Reader_init : List Str := ["self", "text"]
theorem sc_Reader_init : FnScope n_Reader_init p_Reader_init (defScope s_Reader_init) := ⟨rfl, rfl, rfl, by decide +kernel, rfl, by decide +kernel, by decide +kernel⟩
def d_Reader_init : He.DefD := ⟨("Reader", some "__init__"), "__init__", "Reader.__init__", defArgs s_Reader_init, defBody s_Reader_init, defScope s_Reader_init, [], []⟩
abbrev s_Reader_sign : Stmt := inClass (topS 30) 1
abbrev n_Reader_sign : List Str := ["self"]
abbrev p_Reader_sign : List Str := ["self"]
theorem sc_Reader_sign : FnScope n_Reader_sign p_Reader_sign (defScope s_Reader_sign) := ⟨rfl, rfl, rfl, by decide +kernel, rfl, by decide +kernel, by decide +kernel⟩
def d_Reader_sign : He.DefD := ⟨("Reader", some "sign"), "sign", "Reader.sign", defArgs s_Reader_sign, defBody s_Reader_sign, defScope s_Reader_sign, [], []⟩
abbrev s_Reader_go_on : Stmt := inClass (topS 30) 2
abbrev n_Reader_go_on : List Str := ["self"]
abbrev p_Reader_go_on : List Str := ["self"]
theorem sc_Reader_go_on : FnScope n_Reader_go_on p_Reader_go_on (defScope s_Reader_go_on) := ⟨rfl, rfl, rfl, by decide +kernel, rfl, by decide +kernel, by decide +kernel⟩
def d_Reader_go_on : He.DefD := ⟨("Reader", some "go_on"), "go_on", "Reader.go_on", defArgs s_Reader_go_on, defBody s_Reader_go_on, defScope s_Reader_go_on, [], []⟩
abbrev s_Reader_word : Stmt := inClass (topS 30) 3
abbrev n_Reader_word : List Str := ["self", "letters", "letter"]
abbrev p_Reader_word : List Str := ["self", "letters"]
theorem sc_Reader_word : FnScope n_Reader_word p_Reader_word (defScope s_Reader_word) := ⟨rfl, rfl, rfl, by decide +kernel, rfl, by decide +kernel, by decide +kernel⟩
def d_Reader_word : He.DefD := ⟨("Reader", some "word"), "word", "Reader.word", defArgs s_Reader_word, defBody s_Reader_word, defScope s_Reader_word, [], []⟩
abbrev s_Reader_choice : Stmt := inClass (topS 30) 4
abbrev n_Reader_choice : List Str := ["self", "words", "offered", "left", "size", "word"]
abbrev p_Reader_choice : List Str := ["self", "words"]
theorem sc_Reader_choice : FnScope n_Reader_choice p_Reader_choice (defScope s_Reader_choice) := ⟨rfl, rfl, rfl, by decide +kernel, rfl, by decide +kernel, by decide +kernel⟩
def d_Reader_choice : He.DefD := ⟨("Reader", some "choice"), "choice", "Reader.choice", defArgs s_Reader_choice, defBody s_Reader_choice, defScope s_Reader_choice, [], []⟩
abbrev s_Reader_number : Stmt := inClass (topS 30) 5
abbrev n_Reader_number : List Str := ["self", "least", "most", "value", "longer"]
abbrev p_Reader_number : List Str := ["self", "least", "most"]
theorem sc_Reader_number : FnScope n_Reader_number p_Reader_number (defScope s_Reader_number) := ⟨rfl, rfl, rfl, by decide +kernel, rfl, by decide +kernel, by decide +kernel⟩
def d_Reader_number : He.DefD := ⟨("Reader", some "number"), "number", "Reader.number", defArgs s_Reader_number, defBody s_Reader_number, defScope s_Reader_number, [], []⟩
abbrev s_Reader_finish : Stmt := inClass (topS 30) 6
abbrev n_Reader_finish : List Str := ["self"]
abbrev p_Reader_finish : List Str := ["self"]
theorem sc_Reader_finish : FnScope n_Reader_finish p_Reader_finish (defScope s_Reader_finish) := ⟨rfl, rfl, rfl, by decide +kernel, rfl, by decide +kernel, by decide +kernel⟩
def d_Reader_finish : He.DefD := ⟨("Reader", some "finish"), "finish", "Reader.finish", defArgs s_Reader_finish, defBody s_Reader_finish, defScope s_Reader_finish, [], []⟩
abbrev s_RulesText_init : Stmt := inClass (topS 35) 0
abbrev n_RulesText_init : List Str := ["self", "reader"]
abbrev p_RulesText_init : List Str := ["self", "reader"]
theorem sc_RulesText_init : FnScope n_RulesText_init p_RulesText_init (defScope s_RulesText_init) := ⟨rfl, rfl, rfl, by decide +kernel, rfl, by decide +kernel, by decide +kernel⟩
def d_RulesText_init : He.DefD := ⟨("RulesText", some "__init__"), "__init__", "RulesText.__init__", defArgs s_RulesText_init, defBody s_RulesText_init, defScope s_RulesText_init, [], []⟩
abbrev s_read_name : Stmt := topS 36
abbrev n_read_name : List Str := ["reader", "size"]
abbrev p_read_name : List Str := ["reader"]
theorem sc_read_name : FnScope n_read_name p_read_name (defScope s_read_name) := ⟨rfl, rfl, rfl, by decide +kernel, rfl, by decide +kernel, by decide +kernel⟩
def d_read_name : He.DefD := ⟨("read_name", none), "read_name", "read_name", defArgs s_read_name, defBody s_read_name, defScope s_read_name, [], []⟩
abbrev s_read_rows : Stmt := topS 37
abbrev n_read_rows : List Str := ["reader", "signs", "wide", "high", "cells", "y", "x", "place"]
abbrev p_read_rows : List Str := ["reader", "signs", "wide", "high"]
theorem sc_read_rows : FnScope n_read_rows p_read_rows (defScope s_read_rows) := ⟨rfl, rfl, rfl, by decide +kernel, rfl, by decide +kernel, by decide +kernel⟩
def d_read_rows : He.DefD := ⟨("read_rows", none), "read_rows", "read_rows", defArgs s_read_rows, defBody s_read_rows, defScope s_read_rows, [], []⟩
abbrev s_ground_list : Stmt := topS 38
abbrev n_ground_list : List Str := ["told", "ground", "cell", "what", "place"]
abbrev p_ground_list : List Str := ["told"]
theorem sc_ground_list : FnScope n_ground_list p_ground_list (defScope s_ground_list) := ⟨rfl, rfl, rfl, by decide +kernel, rfl, by decide +kernel, by decide +kernel⟩
def d_ground_list : He.DefD := ⟨("ground_list", none), "ground_list", "ground_list", defArgs s_ground_list, defBody s_ground_list, defScope s_ground_list, [], []⟩
abbrev s_cells_with : Stmt := topS 39
abbrev n_cells_with : List Str := ["rows", "wanted", "cell", "what", "place"]
abbrev p_cells_with : List Str := ["rows", "wanted"]
theorem sc_cells_with : FnScope n_cells_with p_cells_with (defScope s_cells_with) := ⟨rfl, rfl, rfl, by decide +kernel, rfl, by decide +kernel, by decide +kernel⟩
def d_cells_with : He.DefD := ⟨("cells_with", none), "cells_with", "cells_with", defArgs s_cells_with, defBody s_cells_with, defScope s_cells_with, [], []⟩
abbrev s_second_faults : Stmt := topS 40
abbrev n_second_faults : List Str := ["rows", "wanted", "kind", "places", "cell", "what", "place"]
abbrev p_second_faults : List Str := ["rows", "wanted", "kind"]
theorem sc_second_faults : FnScope n_second_faults p_second_faults (defScope s_second_faults) := ⟨rfl, rfl, rfl, by decide +kernel, rfl, by decide +kernel, by decide +kernel⟩
def d_second_faults : He.DefD := ⟨("second_faults", none), "second_faults", "second_faults", defArgs s_second_faults, defBody s_second_faults, defScope s_second_faults, [], []⟩
abbrev s_may_start : Stmt := topS 41
abbrev n_may_start : List Str := ["ground", "piece"]
abbrev p_may_start : List Str := ["ground", "piece"]
theorem sc_may_start : FnScope n_may_start p_may_start (defScope s_may_start) := ⟨rfl, rfl, rfl, by decide +kernel, rfl, by decide +kernel, by decide +kernel⟩
def d_may_start : He.DefD := ⟨("may_start", none), "may_start", "may_start", defArgs s_may_start, defBody s_may_start, defScope s_may_start, [], []⟩
abbrev s_start_faults : Stmt := topS 42
abbrev n_start_faults : List Str := ["told", "ground", "cell", "piece", "place"]
abbrev p_start_faults : List Str := ["told"]
theorem sc_start_faults : FnScope n_start_faults p_start_faults (defScope s_start_faults) := ⟨rfl, rfl, rfl, by decide +kernel, rfl, by decide +kernel, by decide +kernel⟩
def d_start_faults : He.DefD := ⟨("start_faults", none), "start_faults", "start_faults", defArgs s_start_faults, defBody s_start_faults, defScope s_start_faults, [], []⟩
abbrev s_goal_faults : Stmt := topS 43
abbrev n_goal_faults : List Str := ["told", "kings", "bad"]
abbrev p_goal_faults : List Str := ["told"]
theorem sc_goal_faults : FnScope n_goal_faults p_goal_faults (defScope s_goal_faults) := ⟨rfl, rfl, rfl, by decide +kernel, rfl, by decide +kernel, by decide +kernel⟩
def d_goal_faults : He.DefD := ⟨("goal_faults", none), "goal_faults", "goal_faults", defArgs s_goal_faults, defBody s_goal_faults, defScope s_goal_faults, [], []⟩
abbrev s_missing_faults : Stmt := topS 44
abbrev n_missing_faults : List Str := ["told", "seat_asked", "bad"]
abbrev p_missing_faults : List Str := ["told"]
theorem sc_missing_faults : FnScope n_missing_faults p_missing_faults (defScope s_missing_faults) := ⟨rfl, rfl, rfl, by decide +kernel, rfl, by decide +kernel, by decide +kernel⟩
def d_missing_faults : He.DefD := ⟨("missing_faults", none), "missing_faults", "missing_faults", defArgs s_missing_faults, defBody s_missing_faults, defScope s_missing_faults, [], []⟩
abbrev s_read_rules : Stmt := topS 45
abbrev n_read_rules : List Str := ["text", "told", "e", "found", "least"]
abbrev p_read_rules : List Str := ["text"]
theorem sc_read_rules : FnScope n_read_rules p_read_rules (defScope s_read_rules) := ⟨rfl, rfl, rfl, by decide +kernel, rfl, by decide +kernel, by decide +kernel⟩
def d_read_rules : He.DefD := ⟨("read_rules", none), "read_rules", "read_rules", defArgs s_read_rules, defBody s_read_rules, defScope s_read_rules, [], []⟩
abbrev s_Hall_init : Stmt := inClass (topS 47) 0
abbrev n_Hall_init : List Str := ["self", "told", "cell", "rays", "what", "place", "cells"]
abbrev p_Hall_init : List Str := ["self", "told"]
theorem sc_Hall_init : FnScope n_Hall_init p_Hall_init (defScope s_Hall_init) := ⟨rfl, rfl, rfl, by decide +kernel, rfl, by decide +kernel, by decide +kernel⟩
def d_Hall_init : He.DefD := ⟨("Hall", some "__init__"), "__init__", "Hall.__init__", defArgs s_Hall_init, defBody s_Hall_init, defScope s_Hall_init, [], []⟩
abbrev s_enmity_of : Stmt := topS 48
abbrev n_enmity_of : List Str := ["told", "what"]
abbrev p_enmity_of : List Str := ["told", "what"]
theorem sc_enmity_of : FnScope n_enmity_of p_enmity_of (defScope s_enmity_of) := ⟨rfl, rfl, rfl, by decide +kernel, rfl, by decide +kernel, by decide +kernel⟩
def d_enmity_of : He.DefD := ⟨("enmity_of", none), "enmity_of", "enmity_of", defArgs s_enmity_of, defBody s_enmity_of, defScope s_enmity_of, [], []⟩
abbrev s_is_goal : Stmt := topS 49
abbrev n_is_goal : List Str := ["told", "cell", "what"]
abbrev p_is_goal : List Str := ["told", "cell", "what"]
theorem sc_is_goal : FnScope n_is_goal p_is_goal (defScope s_is_goal) := ⟨rfl, rfl, rfl, by decide +kernel, rfl, by decide +kernel, by decide +kernel⟩
def d_is_goal : He.DefD := ⟨("is_goal", none), "is_goal", "is_goal", defArgs s_is_goal, defBody s_is_goal, defScope s_is_goal, [], []⟩
abbrev s_ray : Stmt := topS 50
abbrev n_ray : List Str := ["told", "cell", "across", "up", "cells", "x", "y"]
abbrev p_ray : List Str := ["told", "cell", "across", "up"]
theorem sc_ray : FnScope n_ray p_ray (defScope s_ray) := ⟨rfl, rfl, rfl, by decide +kernel, rfl, by decide +kernel, by decide +kernel⟩
def d_ray : He.DefD := ⟨("ray", none), "ray", "ray", defArgs s_ray, defBody s_ray, defScope s_ray, [], []⟩
abbrev s_way : Stmt := topS 51
abbrev n_way : List Str := ["told", "ground", "cells", "passable", "cell"]
abbrev p_way : List Str := ["told", "ground", "cells"]
theorem sc_way : FnScope n_way p_way (defScope s_way) := ⟨rfl, rfl, rfl, by decide +kernel, rfl, by decide +kernel, by decide +kernel⟩
def d_way : He.DefD := ⟨("way", none), "way", "way", defArgs s_way, defBody s_way, defScope s_way, [], []⟩
abbrev s_king_way : Stmt := topS 52
abbrev n_king_way : List Str := ["told", "ground", "cells", "passable", "cell"]
abbrev p_king_way : List Str := ["told", "ground", "cells"]
theorem sc_king_way : FnScope n_king_way p_king_way (defScope s_king_way) := ⟨rfl, rfl, rfl, by decide +kernel, rfl, by decide +kernel, by decide +kernel⟩
def d_king_way : He.DefD := ⟨("king_way", none), "king_way", "king_way", defArgs s_king_way, defBody s_king_way, defScope s_king_way, [], []⟩
abbrev s_Line_init : Stmt := inClass (topS 54) 0
abbrev n_Line_init : List Str := ["self", "reader", "wide", "high", "y"]
abbrev p_Line_init : List Str := ["self", "reader", "wide", "high"]
theorem sc_Line_init : FnScope n_Line_init p_Line_init (defScope s_Line_init) := ⟨rfl, rfl, rfl, by decide +kernel, rfl, by decide +kernel, by decide +kernel⟩
def d_Line_init : He.DefD := ⟨("Line", some "__init__"), "__init__", "Line.__init__", defArgs s_Line_init, defBody s_Line_init, defScope s_Line_init, [], []⟩
abbrev s_Line_read_row : Stmt := inClass (topS 54) 1
abbrev n_Line_read_row : List Str := ["self", "reader", "wide", "y", "x", "behind_number", "place", "piece"]
abbrev p_Line_read_row : List Str := ["self", "reader", "wide", "y"]
theorem sc_Line_read_row : FnScope n_Line_read_row p_Line_read_row (defScope s_Line_read_row) := ⟨rfl, rfl, rfl, by decide +kernel, rfl, by decide +kernel, by decide +kernel⟩
def d_Line_read_row : He.DefD := ⟨("Line", some "read_row"), "read_row", "Line.read_row", defArgs s_Line_read_row, defBody s_Line_read_row, defScope s_Line_read_row, [], []⟩
abbrev s_Line_piece_signs : Stmt := inClass (topS 54) 2
abbrev n_Line_piece_signs : List Str := ["self", "kings", "cell", "piece", "place"]
abbrev p_Line_piece_signs : List Str := ["self"]
theorem sc_Line_piece_signs : FnScope n_Line_piece_signs p_Line_piece_signs (defScope s_Line_piece_signs) := ⟨rfl, rfl, rfl, by decide +kernel, rfl, by decide +kernel, by decide +kernel⟩
def d_Line_piece_signs : He.DefD := ⟨("Line", some "piece_signs"), "piece_signs", "Line.piece_signs", defArgs s_Line_piece_signs, defBody s_Line_piece_signs, defScope s_Line_piece_signs, [], []⟩
abbrev s_read_position : Stmt := topS 55
abbrev n_read_position : List Str := ["hall", "line", "told", "e", "board", "king", "cell", "piece", "place"]
abbrev p_read_position : List Str := ["hall", "line"]
theorem sc_read_position : FnScope n_read_position p_read_position (defScope s_read_position) := ⟨rfl, rfl, rfl, by decide +kernel, rfl, by decide +kernel, by decide +kernel⟩
def d_read_position : He.DefD := ⟨("read_position", none), "read_position", "read_position", defArgs s_read_position, defBody s_read_position, defScope s_read_position, [], []⟩
abbrev s_Made_init : Stmt := inClass (topS 61) 0
abbrev n_Made_init : List Str := ["self", "position", "taken"]
abbrev p_Made_init : List Str := ["self", "position", "taken"]
theorem sc_Made_init : FnScope n_Made_init p_Made_init (defScope s_Made_init) := ⟨rfl, rfl, rfl, by decide +kernel, rfl, by decide +kernel, by decide +kernel⟩
def d_Made_init : He.DefD := ⟨("Made", some "__init__"), "__init__", "Made.__init__", defArgs s_Made_init, defBody s_Made_init, defScope s_Made_init, [], []⟩
abbrev s_reach : Stmt := topS 62
abbrev n_reach : List Str := ["hall", "board", "cell", "is_king", "ways", "found", "way", "further"]
abbrev p_reach : List Str := ["hall", "board", "cell"]
theorem sc_reach : FnScope n_reach p_reach (defScope s_reach) := ⟨rfl, rfl, rfl, by decide +kernel, rfl, by decide +kernel, by decide +kernel⟩
def d_reach : He.DefD := ⟨("reach", none), "reach", "reach", defArgs s_reach, defBody s_reach, defScope s_reach, [], []⟩
abbrev s_is_of : Stmt := topS 63
abbrev n_is_of : List Str := ["piece", "turn"]
abbrev p_is_of : List Str := ["piece", "turn"]
theorem sc_is_of : FnScope n_is_of p_is_of (defScope s_is_of) := ⟨rfl, rfl, rfl, by decide +kernel, rfl, by decide +kernel, by decide +kernel⟩
def d_is_of : He.DefD := ⟨("is_of", none), "is_of", "is_of", defArgs s_is_of, defBody s_is_of, defScope s_is_of, [], []⟩
abbrev s_king_is_gone : Stmt := topS 64
abbrev n_king_is_gone : List Str := ["hall", "position"]
abbrev p_king_is_gone : List Str := ["hall", "position"]
theorem sc_king_is_gone : FnScope n_king_is_gone p_king_is_gone (defScope s_king_is_gone) := ⟨rfl, rfl, rfl, by decide +kernel, rfl, by decide +kernel, by decide +kernel⟩
def d_king_is_gone : He.DefD := ⟨("king_is_gone", none), "king_is_gone", "king_is_gone", defArgs s_king_is_gone, defBody s_king_is_gone, defScope s_king_is_gone, [], []⟩
abbrev s_moves : Stmt := topS 65
abbrev n_moves : List Str := ["hall", "position", "found", "cell", "further"]
abbrev p_moves : List Str := ["hall", "position"]
theorem sc_moves : FnScope n_moves p_moves (defScope s_moves) := ⟨rfl, rfl, rfl, by decide +kernel, rfl, by decide +kernel, by decide +kernel⟩
def d_moves : He.DefD := ⟨("moves", none), "moves", "moves", defArgs s_moves, defBody s_moves, defScope s_moves, [], []⟩
abbrev s_can_move : Stmt := topS 66
abbrev n_can_move : List Str := ["hall", "position", "cell"]
abbrev p_can_move : List Str := ["hall", "position"]
theorem sc_can_move : FnScope n_can_move p_can_move (defScope s_can_move) := ⟨rfl, rfl, rfl, by decide +kernel, rfl, by decide +kernel, by decide +kernel⟩
def d_can_move : He.DefD := ⟨("can_move", none), "can_move", "can_move", defArgs s_can_move, defBody s_can_move, defScope s_can_move, [], []⟩
abbrev s_over : Stmt := topS 67
abbrev n_over : List Str := ["hall", "position"]
abbrev p_over : List Str := ["hall", "position"]
theorem sc_over : FnScope n_over p_over (defScope s_over) := ⟨rfl, rfl, rfl, by decide +kernel, rfl, by decide +kernel, by decide +kernel⟩
def d_over : He.DefD := ⟨("over", none), "over", "over", defArgs s_over, defBody s_over, defScope s_over, [], []⟩
abbrev s_against : Stmt := topS 68
abbrev n_against : List Str := ["hall", "board", "cell", "prey"]
abbrev p_against : List Str := ["hall", "board", "cell", "prey"]
theorem sc_against : FnScope n_against p_against (defScope s_against) := ⟨rfl, rfl, rfl, by decide +kernel, rfl, by decide +kernel, by decide +kernel⟩
def d_against : He.DefD := ⟨("against", none), "against", "against", defArgs s_against, defBody s_against, defScope s_against, [], []⟩
abbrev s_closes_on_hunter : Stmt := topS 69
abbrev n_closes_on_hunter : List Str := ["hall", "board", "cell"]
abbrev p_closes_on_hunter : List Str := ["hall", "board", "cell"]
theorem sc_closes_on_hunter : FnScope n_closes_on_hunter p_closes_on_hunter (defScope s_closes_on_hunter) := ⟨rfl, rfl, rfl, by decide +kernel, rfl, by decide +kernel, by decide +kernel⟩
def d_closes_on_hunter : He.DefD := ⟨("closes_on_hunter", none), "closes_on_hunter", "closes_on_hunter", defArgs s_closes_on_hunter, defBody s_closes_on_hunter, defScope s_closes_on_hunter, [], []⟩
abbrev s_closes_on_man : Stmt := topS 70
abbrev n_closes_on_man : List Str := ["hall", "board", "cell"]
abbrev p_closes_on_man : List Str := ["hall", "board", "cell"]
theorem sc_closes_on_man : FnScope n_closes_on_man p_closes_on_man (defScope s_closes_on_man) := ⟨rfl, rfl, rfl, by decide +kernel, rfl, by decide +kernel, by decide +kernel⟩
def d_closes_on_man : He.DefD := ⟨("closes_on_man", none), "closes_on_man", "closes_on_man", defArgs s_closes_on_man, defBody s_closes_on_man, defScope s_closes_on_man, [], []⟩
abbrev s_king_surrounded : Stmt := topS 71
abbrev n_king_surrounded : List Str := ["hall", "board", "king", "cell"]
abbrev p_king_surrounded : List Str := ["hall", "board", "king"]
theorem sc_king_surrounded : FnScope n_king_surrounded p_king_surrounded (defScope s_king_surrounded) := ⟨rfl, rfl, rfl, by decide +kernel, rfl, by decide +kernel, by decide +kernel⟩
def d_king_surrounded : He.DefD := ⟨("king_surrounded", none), "king_surrounded", "king_surrounded", defArgs s_king_surrounded, defBody s_king_surrounded, defScope s_king_surrounded, [], []⟩
abbrev s_taken_by_hunter : Stmt := topS 72
abbrev n_taken_by_hunter : List Str := ["hall", "board", "cell", "taken", "near", "behind"]
abbrev p_taken_by_hunter : List Str := ["hall", "board", "cell"]
theorem sc_taken_by_hunter : FnScope n_taken_by_hunter p_taken_by_hunter (defScope s_taken_by_hunter) := ⟨rfl, rfl, rfl, by decide +kernel, rfl, by decide +kernel, by decide +kernel⟩
def d_taken_by_hunter : He.DefD := ⟨("taken_by_hunter", none), "taken_by_hunter", "taken_by_hunter", defArgs s_taken_by_hunter, defBody s_taken_by_hunter, defScope s_taken_by_hunter, [], []⟩
abbrev s_taken_by_kings_side : Stmt := topS 73
abbrev n_taken_by_kings_side : List Str := ["hall", "board", "cell", "near", "behind"]
abbrev p_taken_by_kings_side : List Str := ["hall", "board", "cell"]
theorem sc_taken_by_kings_side : FnScope n_taken_by_kings_side p_taken_by_kings_side (defScope s_taken_by_kings_side) := ⟨rfl, rfl, rfl, by decide +kernel, rfl, by decide +kernel, by decide +kernel⟩
def d_taken_by_kings_side : He.DefD := ⟨("taken_by_kings_side", none), "taken_by_kings_side", "taken_by_kings_side", defArgs s_taken_by_kings_side, defBody s_taken_by_kings_side, defScope s_taken_by_kings_side, [], []⟩
abbrev s_make : Stmt := topS 74
abbrev n_make : List Str := ["hall", "position", "begin", "end", "board", "taken", "king", "cell"]
abbrev p_make : List Str := ["hall", "position", "begin", "end"]
theorem sc_make : FnScope n_make p_make (defScope s_make) := ⟨rfl, rfl, rfl, by decide +kernel, rfl, by decide +kernel, by decide +kernel⟩
def d_make : He.DefD := ⟨("make", none), "make", "make", defArgs s_make, defBody s_make, defScope s_make, [], []⟩
abbrev s_Found_init : Stmt := inClass (topS 77) 0
abbrev n_Found_init : List Str := ["self", "over_by", "worth", "row"]
abbrev p_Found_init : List Str := ["self", "over_by", "worth", "row"]
theorem sc_Found_init : FnScope n_Found_init p_Found_init (defScope s_Found_init) := ⟨rfl, rfl, rfl, by decide +kernel, rfl, by decide +kernel, by decide +kernel⟩
def d_Found_init : He.DefD := ⟨("Found", some "__init__"), "__init__", "Found.__init__", defArgs s_Found_init, defBody s_Found_init, defScope s_Found_init, [], []⟩
abbrev s_weighed : Stmt := topS 78
abbrev n_weighed : List Str := ["hall", "position", "weights", "board", "roads"]
abbrev p_weighed : List Str := ["hall", "position", "weights"]
theorem sc_weighed : FnScope n_weighed p_weighed (defScope s_weighed) := ⟨rfl, rfl, rfl, by decide +kernel, rfl, by decide +kernel, by decide +kernel⟩
def d_weighed : He.DefD := ⟨("weighed", none), "weighed", "weighed", defArgs s_weighed, defBody s_weighed, defScope s_weighed, [], []⟩
abbrev s_end_worth : Stmt := topS 79
abbrev n_end_worth : List Str := ["over_by", "turn", "done", "hunters_won"]
abbrev p_end_worth : List Str := ["over_by", "turn", "done"]
theorem sc_end_worth : FnScope n_end_worth p_end_worth (defScope s_end_worth) := ⟨rfl, rfl, rfl, by decide +kernel, rfl, by decide +kernel, by decide +kernel⟩
def d_end_worth : He.DefD := ⟨("end_worth", none), "end_worth", "end_worth", defArgs s_end_worth, defBody s_end_worth, defScope s_end_worth, [], []⟩
abbrev s_better : Stmt := topS 80
abbrev n_better : List Str := ["turn", "worth", "other"]
abbrev p_better : List Str := ["turn", "worth", "other"]
theorem sc_better : FnScope n_better p_better (defScope s_better) := ⟨rfl, rfl, rfl, by decide +kernel, rfl, by decide +kernel, by decide +kernel⟩
def d_better : He.DefD := ⟨("better", none), "better", "better", defArgs s_better, defBody s_better, defScope s_better, [], []⟩
abbrev s_first_best : Stmt := topS 81
abbrev n_first_best : List Str := ["turn", "tries", "best", "found"]
abbrev p_first_best : List Str := ["turn", "tries"]
theorem sc_first_best : FnScope n_first_best p_first_best (defScope s_first_best) := ⟨rfl, rfl, rfl, by decide +kernel, rfl, by decide +kernel, by decide +kernel⟩
def d_first_best : He.DefD := ⟨("first_best", none), "first_best", "first_best", defArgs s_first_best, defBody s_first_best, defScope s_first_best, [], []⟩
abbrev s_Search_init : Stmt := inClass (topS 82) 0
abbrev n_Search_init : List Str := ["self", "hall", "weights", "most"]
abbrev p_Search_init : List Str := ["self", "hall", "weights", "most"]
theorem sc_Search_init : FnScope n_Search_init p_Search_init (defScope s_Search_init) := ⟨rfl, rfl, rfl, by decide +kernel, rfl, by decide +kernel, by decide +kernel⟩
def d_Search_init : He.DefD := ⟨("Search", some "__init__"), "__init__", "Search.__init__", defArgs s_Search_init, defBody s_Search_init, defScope s_Search_init, [], []⟩
abbrev s_Search_look : Stmt := inClass (topS 82) 1
abbrev n_Search_look : List Str := ["self", "position", "ahead", "done", "over_by"]
abbrev p_Search_look : List Str := ["self", "position", "ahead", "done"]
theorem sc_Search_look : FnScope n_Search_look p_Search_look (defScope s_Search_look) := ⟨rfl, rfl, rfl, by decide +kernel, rfl, by decide +kernel, by decide +kernel⟩
def d_Search_look : He.DefD := ⟨("Search", some "look"), "look", "Search.look", defArgs s_Search_look, defBody s_Search_look, defScope s_Search_look, [], []⟩
abbrev s_Search_look_by_each : Stmt := inClass (topS 82) 2
abbrev n_Search_look_by_each : List Str := ["self", "position", "ahead", "done", "choices", "tries", "begin", "end", "made", "found", "move"]
abbrev p_Search_look_by_each : List Str := ["self", "position", "ahead", "done"]
theorem sc_Search_look_by_each : FnScope n_Search_look_by_each p_Search_look_by_each (defScope s_Search_look_by_each) := ⟨rfl, rfl, rfl, by decide +kernel, rfl, by decide +kernel, by decide +kernel⟩
def d_Search_look_by_each : He.DefD := ⟨("Search", some "look_by_each"), "look_by_each", "Search.look_by_each", defArgs s_Search_look_by_each, defBody s_Search_look_by_each, defScope s_Search_look_by_each, [], []⟩
abbrev s_Looker_init : Stmt := inClass (topS 91) 0
abbrev n_Looker_init : List Str := ["self"]
abbrev p_Looker_init : List Str := ["self"]
theorem sc_Looker_init : FnScope n_Looker_init p_Looker_init (defScope s_Looker_init) := ⟨rfl, rfl, rfl, by decide +kernel, rfl, by decide +kernel, by decide +kernel⟩
def d_Looker_init : He.DefD := ⟨("Looker", some "__init__"), "__init__", "Looker.__init__", defArgs s_Looker_init, defBody s_Looker_init, defScope s_Looker_init, [], []⟩
abbrev s_Looker_take_rules : Stmt := inClass (topS 91) 1
abbrev n_Looker_take_rules : List Str := ["self", "text"]
abbrev p_Looker_take_rules : List Str := ["self", "text"]
theorem sc_Looker_take_rules : FnScope n_Looker_take_rules p_Looker_take_rules (defScope s_Looker_take_rules) := ⟨rfl, rfl, rfl, by decide +kernel, rfl, by decide +kernel, by decide +kernel⟩
def d_Looker_take_rules : He.DefD := ⟨("Looker", some "take_rules"), "take_rules", "Looker.take_rules", defArgs s_Looker_take_rules, defBody s_Looker_take_rules, defScope s_Looker_take_rules, [], []⟩
abbrev s_Looker_weigh : Stmt := inClass (topS 91) 2
abbrev n_Looker_weigh : List Str := ["self", "numbers", "line", "position"]
abbrev p_Looker_weigh : List Str := ["self", "numbers", "line"]
theorem sc_Looker_weigh : FnScope n_Looker_weigh p_Looker_weigh (defScope s_Looker_weigh) := ⟨rfl, rfl, rfl, by decide +kernel, rfl, by decide +kernel, by decide +kernel⟩
def d_Looker_weigh : He.DefD := ⟨("Looker", some "weigh"), "weigh", "Looker.weigh", defArgs s_Looker_weigh, defBody s_Looker_weigh, defScope s_Looker_weigh, [], []⟩
abbrev s_Looker_look_ahead : Stmt := inClass (topS 91) 3
abbrev n_Looker_look_ahead : List Str := ["self", "numbers", "line", "position", "found", "answer", "move"]
abbrev p_Looker_look_ahead : List Str := ["self", "numbers", "line"]
theorem sc_Looker_look_ahead : FnScope n_Looker_look_ahead p_Looker_look_ahead (defScope s_Looker_look_ahead) := ⟨rfl, rfl, rfl, by decide +kernel, rfl, by decide +kernel, by decide +kernel⟩
def d_Looker_look_ahead : He.DefD := ⟨("Looker", some "look_ahead"), "look_ahead", "Looker.look_ahead", defArgs s_Looker_look_ahead, defBody s_Looker_look_ahead, defScope s_Looker_look_ahead, [], []⟩
abbrev s_Looker_look_by_each_move : Stmt := inClass (topS 91) 4
abbrev n_Looker_look_by_each_move : List Str := ["self", "numbers", "line", "position", "tries", "found"]
abbrev p_Looker_look_by_each_move : List Str := ["self", "numbers", "line"]
theorem sc_Looker_look_by_each_move : FnScope n_Looker_look_by_each_move p_Looker_look_by_each_move (defScope s_Looker_look_by_each_move) := ⟨rfl, rfl, rfl, by decide +kernel, rfl, by decide +kernel, by decide +kernel⟩
def d_Looker_look_by_each_move : He.DefD := ⟨("Looker", some "look_by_each_move"), "look_by_each_move", "Looker.look_by_each_move", defArgs s_Looker_look_by_each_move, defBody s_Looker_look_by_each_move, defScope s_Looker_look_by_each_move, [], []⟩
abbrev s_Looker_told_position : Stmt := inClass (topS 91) 5
abbrev n_Looker_told_position : List Str := ["self", "numbers", "line", "position", "weight"]
abbrev p_Looker_told_position : List Str := ["self", "numbers", "line"]
theorem sc_Looker_told_position : FnScope n_Looker_told_position p_Looker_told_position (defScope s_Looker_told_position) := ⟨rfl, rfl, rfl, by decide +kernel, rfl, by decide +kernel, by decide +kernel⟩
def d_Looker_told_position : He.DefD := ⟨("Looker", some "told_position"), "told_position", "Looker.told_position", defArgs s_Looker_told_position, defBody s_Looker_told_position, defScope s_Looker_told_position, [], []⟩
abbrev s_Looker_new_search : Stmt := inClass (topS 91) 6
abbrev n_Looker_new_search : List Str := ["self", "numbers"]
abbrev p_Looker_new_search : List Str := ["self", "numbers"]
theorem sc_Looker_new_search : FnScope n_Looker_new_search p_Looker_new_search (defScope s_Looker_new_search) := ⟨rfl, rfl, rfl, by decide +kernel, rfl, by decide +kernel, by decide +kernel⟩
def d_Looker_new_search : He.DefD := ⟨("Looker", some "new_search"), "new_search", "Looker.new_search", defArgs s_Looker_new_search, defBody s_Looker_new_search, defScope s_Looker_new_search, [], []⟩
abbrev s_check_bounds : Stmt := topS 92
abbrev n_check_bounds : List Str := ["numbers", "least"]
abbrev p_check_bounds : List Str := ["numbers", "least"]
theorem sc_check_bounds : FnScope n_check_bounds p_check_bounds (defScope s_check_bounds) := ⟨rfl, rfl, rfl, by decide +kernel, rfl, by decide +kernel, by decide +kernel⟩
def d_check_bounds : He.DefD := ⟨("check_bounds", none), "check_bounds", "check_bounds", defArgs s_check_bounds, defBody s_check_bounds, defScope s_check_bounds, [], []⟩
abbrev s_answer_call : Stmt := topS 93
abbrev n_answer_call : List Str := ["looker", "call", "numbers", "row"]
abbrev p_answer_call : List Str := ["looker", "call", "numbers", "row"]
theorem sc_answer_call : FnScope n_answer_call p_answer_call (defScope s_answer_call) := ⟨rfl, rfl, rfl, by decide +kernel, rfl, by decide +kernel, by decide +kernel⟩
def d_answer_call : He.DefD := ⟨("answer_call", none), "answer_call", "answer_call", defArgs s_answer_call, defBody s_answer_call, defScope s_answer_call, [], []⟩
abbrev s_answer_or_refuse : Stmt := topS 94
abbrev n_answer_or_refuse : List Str := ["looker", "call", "numbers", "row", "e"]
abbrev p_answer_or_refuse : List Str := ["looker", "call", "numbers", "row"]
theorem sc_answer_or_refuse : FnScope n_answer_or_refuse p_answer_or_refuse (defScope s_answer_or_refuse) := ⟨rfl, rfl, rfl, by decide +kernel, rfl, by decide +kernel, by decide +kernel⟩
def d_answer_or_refuse : He.DefD := ⟨("answer_or_refuse", none), "answer_or_refuse", "answer_or_refuse", defArgs s_answer_or_refuse, defBody s_answer_or_refuse, defScope s_answer_or_refuse, [], []⟩
abbrev s_answers : Stmt := topS 95
abbrev n_answers : List Str := ["calls", "looker", "told", "place", "call", "row_at", "numbers", "behind", "answer"]
abbrev p_answers : List Str := ["calls"]
theorem sc_answers : FnScope n_answers p_answers (defScope s_answers) := ⟨rfl, rfl, rfl, by decide +kernel, rfl, by decide +kernel, by decide +kernel⟩
def d_answers : He.DefD := ⟨("answers", none), "answers", "answers", defArgs s_answers, defBody s_answers, defScope s_answers, [], []⟩
def fnl : List He.DefD := [d_GrammarFault_init, d_TextFault_init, d_LineFault_init, d_Position_init, d_may_stand, d_on_edge, d_is_digit, d_is_letter, d_leads_to, d_Reader_init, d_Reader_sign, d_Reader_go_on, d_Reader_word, d_Reader_choice, d_Reader_number, d_Reader_finish, d_RulesText_init, d_read_name, d_read_rows, d_ground_list, d_cells_with, d_second_faults, d_may_start, d_start_faults, d_goal_faults, d_missing_faults, d_read_rules, d_Hall_init, d_enmity_of, d_is_goal, d_ray, d_way, d_king_way, d_Line_init, d_Line_read_row, d_Line_piece_signs, d_read_position, d_Made_init, d_reach, d_is_of, d_king_is_gone, d_moves, d_can_move, d_over, d_against, d_closes_on_hunter, d_closes_on_man, d_king_surrounded, d_taken_by_hunter, d_taken_by_kings_side, d_make, d_Found_init, d_weighed, d_end_worth, d_better, d_first_best, d_Search_init, d_Search_look, d_Search_look_by_each, d_Looker_init, d_Looker_take_rules, d_Looker_weigh, d_Looker_look_ahead, d_Looker_look_by_each_move, d_Looker_told_position, d_Looker_new_search, d_check_bounds, d_answer_call, d_answer_or_refuse, d_answers]
def fal0 : List He.Fa := [.glo "may_stand", .glo "on_edge", .glo "is_digit", .glo "is_letter", .glo "leads_to", .glo "read_name", .glo "read_rows", .glo "ground_list", .glo "cells_with", .glo "second_faults", .glo "may_start", .glo "start_faults", .glo "goal_faults", .glo "missing_faults", .glo "read_rules", .glo "enmity_of", .glo "is_goal", .glo "ray", .glo "way", .glo "king_way", .glo "read_position", .glo "reach", .glo "is_of", .glo "king_is_gone", .glo "moves", .glo "can_move", .glo "over", .glo "against", .glo "closes_on_hunter", .glo "closes_on_man"]
def fal1 : List He.Fa := [.glo "king_surrounded", .glo "taken_by_hunter", .glo "taken_by_kings_side", .glo "make", .glo "weighed", .glo "end_worth", .glo "better", .glo "first_best", .glo "check_bounds", .glo "answer_call", .glo "answer_or_refuse", .glo "answers", .glo "GrammarFault", .keep "GrammarFault", .glo "TextFault", .keep "TextFault", .glo "LineFault", .keep "LineFault", .glo "NoRules", .keep "NoRules", .glo "WeightFault", .keep "WeightFault", .glo "BoundsFault", .keep "BoundsFault", .glo "TooManyMoves", .keep "TooManyMoves", .glo "Position", .cls "Position", .mkr "Position", .noat "Position" "board"]
def fal2 : List He.Fa := [.noat "Position" "king", .noat "Position" "turn", .glo "Reader", .cls "Reader", .mkr "Reader", .noat "Reader" "text", .noat "Reader" "place", .meth "Reader" "sign", .meth "Reader" "go_on", .meth "Reader" "word", .meth "Reader" "choice", .meth "Reader" "number", .meth "Reader" "finish", .glo "RulesText", .cls "RulesText", .mkr "RulesText", .noat "RulesText" "wide", .noat "RulesText" "high", .noat "RulesText" "ground", .noat "RulesText" "start", .noat "RulesText" "slides", .noat "RulesText" "armed", .noat "RulesText" "four", .noat "RulesText" "passed", .noat "RulesText" "seat_enmity", .noat "RulesText" "exits_enmity", .noat "RulesText" "goal_place", .noat "RulesText" "goal", .noat "RulesText" "length", .glo "Hall"]
def fal3 : List He.Fa := [.cls "Hall", .mkr "Hall", .noat "Hall" "wide", .noat "Hall" "high", .noat "Hall" "armed", .noat "Hall" "four", .noat "Hall" "cells", .noat "Hall" "ground", .noat "Hall" "seat", .noat "Hall" "enmity", .noat "Hall" "goals", .noat "Hall" "beside", .noat "Hall" "pairs", .noat "Hall" "ways", .noat "Hall" "king_ways", .glo "Line", .cls "Line", .mkr "Line", .noat "Line" "pieces", .noat "Line" "turn", .meth "Line" "read_row", .meth "Line" "piece_signs", .glo "Made", .cls "Made", .mkr "Made", .noat "Made" "position", .noat "Made" "taken", .glo "Found", .cls "Found", .mkr "Found"]
def fal4 : List He.Fa := [.noat "Found" "over_by", .noat "Found" "worth", .noat "Found" "row", .glo "Search", .cls "Search", .mkr "Search", .noat "Search" "hall", .noat "Search" "weights", .noat "Search" "left", .meth "Search" "look", .meth "Search" "look_by_each", .glo "Looker", .cls "Looker", .mkr "Looker", .noat "Looker" "hall", .meth "Looker" "take_rules", .meth "Looker" "weigh", .meth "Looker" "look_ahead", .meth "Looker" "look_by_each_move", .meth "Looker" "told_position", .meth "Looker" "new_search", .int "ACROSS" 13, .int "CELLS" 169, .int "PLAIN" 0, .int "SEAT" 1, .int "EXIT" 2, .int "WALL" 3, .int "NOBODY" 0, .int "HUNTER" 1, .int "MAN" 2]
def fal5 : List He.Fa := [.int "KING" 3, .int "HUNTERS_TURN" 0, .int "KINGS_TURN" 1, .int "NOWHERE" 169, .int "END" 256, .int "GOAL_EXITS" 1, .int "QUIET" 0, .int "LONGEST_NAME" 16, .int "GOING_ON" 0, .int "KING_TAKEN" 1, .int "KING_AT_GOAL" 2, .int "NO_MOVE" 3, .int "WON" 1000000, .int "RULES" 0, .int "WEIGH" 1, .int "AHEAD" 2, .glo "NUMBERS", .int "GREATEST_WEIGHT" 1000, .int "FURTHEST" 4, .int "MOST_MOVES" 600, .free "ord", .free "len", .free "range", .free "sorted", .free "enumerate", .free "min", .free "all", .free "abs", .free "list", .exm "GrammarFault" "GrammarFault" true]
def fal6 : List He.Fa := [.exm "TextFault" "TextFault" true, .exm "LineFault" "TextFault" false, .exm "LineFault" "LineFault" true, .exm "NoRules" "TextFault" false, .exm "NoRules" "LineFault" false, .exm "NoRules" "NoRules" true, .exm "WeightFault" "TextFault" false, .exm "WeightFault" "LineFault" false, .exm "WeightFault" "NoRules" false, .exm "WeightFault" "WeightFault" true, .exm "BoundsFault" "TextFault" false, .exm "BoundsFault" "LineFault" false, .exm "BoundsFault" "NoRules" false, .exm "BoundsFault" "WeightFault" false, .exm "BoundsFault" "BoundsFault" true, .exm "TooManyMoves" "TextFault" false, .exm "TooManyMoves" "LineFault" false, .exm "TooManyMoves" "NoRules" false, .exm "TooManyMoves" "WeightFault" false, .exm "TooManyMoves" "BoundsFault" false, .exm "TooManyMoves" "TooManyMoves" true]
def fal : List He.Fa := fal0 ++ fal1 ++ fal2 ++ fal3 ++ fal4 ++ fal5 ++ fal6
end Tf
set_option Elab.async false
set_option linter.all false
set_option maxRecDepth 100000
set_option maxHeartbeats 2000000
/-! What the head looks at of the program's top. -/
namespace TfX
open PySem PySem.Spec PyProof.Rows L2
/-- an error class's own record -/
def oxCd (C : Addr) (cd : ClassData) : Bool := cd.mro == Value.ref C :: PySem.ESX.exTail && (cd.hasDict && !cd.hasDel)
/-- its six slots: the fifth makes the instance -/
def oxSl : List (Option Value) → Bool
  | [_, _, _, _, some (.builtin n), _] => n == "Exception.__new__"
  | _ => false
def oxO (C : Addr) (o : Obj) : Bool := match o with
  | ⟨.type t, _, .cls cd, sl⟩ => t == "type" && (oxCd C cd && oxSl sl.toList)
  | _ => false
def oxB (K : PySem.W.Frag) (C : Addr) : Bool := match K.lookup C with
  | some o => oxO C o
  | none => false
def oxeB (K : PySem.W.Frag) (C : Addr) : Bool := oxB K C && (decide (PySem.W.findIn K (.ref C) "__setattr__" = some (some (.builtin "object.__setattr__"))) && (decide (PySem.W.subIn K (.ref C) (.type "BaseException") = some true) && (decide (PySem.W.typeIn K (.ref C) = some (.type "type")) && PySem.W.keepIn K (.ref C))))
def ox0B (K : PySem.W.Frag) (C : Addr) : Bool := PySem.W.excIn K C PySem.ESX.exTail "Exception.__new__" && (PySem.W.keepIn K (.ref C) && (decide (PySem.W.subIn K (.ref C) (.type "BaseException") = some true) && decide (PySem.W.typeIn K (.ref C) = some (.type "type"))))
def inB (K : PySem.W.Frag) (C : Addr) : Bool := decide (PySem.W.findIn K (.ref C) "__init__" = some (some (.ref (He.ma K C "__init__")))) && decide (PySem.W.typeIn K (.ref (He.ma K C "__init__")) = some (.type "function"))
end TfX
namespace Tf
open PySem PySem.Spec PyProof.Rows L2 TfX
abbrev c_GrammarFault (K : PySem.W.Frag) : Addr := He.ga K "GrammarFault"
abbrev c_TextFault (K : PySem.W.Frag) : Addr := He.ga K "TextFault"
abbrev c_LineFault (K : PySem.W.Frag) : Addr := He.ga K "LineFault"
abbrev c_NoRules (K : PySem.W.Frag) : Addr := He.ga K "NoRules"
abbrev c_WeightFault (K : PySem.W.Frag) : Addr := He.ga K "WeightFault"
abbrev c_BoundsFault (K : PySem.W.Frag) : Addr := He.ga K "BoundsFault"
abbrev c_TooManyMoves (K : PySem.W.Frag) : Addr := He.ga K "TooManyMoves"
abbrev c_Position (K : PySem.W.Frag) : Addr := He.ga K "Position"
abbrev c_Reader (K : PySem.W.Frag) : Addr := He.ga K "Reader"
abbrev c_RulesText (K : PySem.W.Frag) : Addr := He.ga K "RulesText"
abbrev c_Hall (K : PySem.W.Frag) : Addr := He.ga K "Hall"
abbrev c_Line (K : PySem.W.Frag) : Addr := He.ga K "Line"
abbrev c_Made (K : PySem.W.Frag) : Addr := He.ga K "Made"
abbrev c_Found (K : PySem.W.Frag) : Addr := He.ga K "Found"
abbrev c_Search (K : PySem.W.Frag) : Addr := He.ga K "Search"
abbrev c_Looker (K : PySem.W.Frag) : Addr := He.ga K "Looker"
/-- what the head looks at besides -/
def exK (K : PySem.W.Frag) : Bool := oxeB K (c_GrammarFault K) && (oxeB K (c_TextFault K) && (oxeB K (c_LineFault K) && (inB K (c_GrammarFault K) && (inB K (c_TextFault K) && (inB K (c_LineFault K) && (xfB K (c_GrammarFault K) && (xfB K (c_TextFault K) && (xfB K (c_LineFault K) && (decide (PySem.W.findIn K (.ref (c_GrammarFault K)) "place" = some none) && (decide (PySem.W.findIn K (.ref (c_TextFault K)) "kind" = some none) && (decide (PySem.W.findIn K (.ref (c_TextFault K)) "place" = some none) && (decide (PySem.W.findIn K (.ref (c_LineFault K)) "kind" = some none) && (decide (PySem.W.findIn K (.ref (c_LineFault K)) "place" = some none) && (ox0B K (c_NoRules K) && (ox0B K (c_WeightFault K) && (ox0B K (c_BoundsFault K) && (ox0B K (c_TooManyMoves K) && (He.tupB K "NUMBERS" [.int 0, .int 3, .int 5, .int 5]))))))))))))))))))
end Tf
set_option Elab.async false
set_option linter.all false
set_option maxRecDepth 100000
set_option maxHeartbeats 0
namespace Tf
open PySem PySem.Spec PyProof.Rows L2
abbrev hk : PySem.W.Hook := He.hookX 4 fal fnl [] [] exK
def ob (s : PySem.W.SharedT) : He.AlX := He.obsX 4 fal fnl [] [] exK (HandSHeadRun.getT s)
theorem ob_eq (s : PySem.W.SharedT) : ob s = hk.obs s.abs := He.obsX_eq (HandSHeadRun.getT_eq s)
def loose0 : List Str := ["GrammarFault", "TextFault", "LineFault", "NoRules", "WeightFault", "BoundsFault", "TooManyMoves", "ACROSS", "CELLS", "PLAIN", "SEAT", "EXIT", "WALL", "NOBODY", "HUNTER", "MAN", "KING", "HUNTERS_TURN", "KINGS_TURN", "NOWHERE"]
def loose1 : List Str := ["Position", "may_stand", "on_edge", "END", "is_digit", "is_letter", "leads_to", "Reader", "GOAL_EXITS", "QUIET", "LONGEST_NAME", "RulesText", "read_name", "read_rows", "ground_list", "cells_with", "second_faults", "may_start", "start_faults", "goal_faults"]
def loose2 : List Str := ["missing_faults", "read_rules", "Hall", "enmity_of", "is_goal", "ray", "way", "king_way", "Line", "read_position", "GOING_ON", "KING_TAKEN", "KING_AT_GOAL", "NO_MOVE", "Made", "reach", "is_of", "king_is_gone", "moves", "can_move"]
def loose3 : List Str := ["over", "against", "closes_on_hunter", "closes_on_man", "king_surrounded", "taken_by_hunter", "taken_by_kings_side", "make", "WON", "Found", "weighed", "end_worth", "better", "first_best", "Search", "RULES", "WEIGH", "AHEAD", "NUMBERS", "GREATEST_WEIGHT"]
def loose4 : List Str := ["FURTHEST", "MOST_MOVES", "Looker", "check_bounds", "answer_call", "answer_or_refuse"]
def loose : List Str := loose0 ++ loose1 ++ loose2 ++ loose3 ++ loose4
theorem map_three {A B C D : Type} {o : Option A} {f : A → B} {g : A → C} {k : A → D} {b : B} {c : C} {d : D} (h : o.map (fun s => (f s, g s)) = some (b, c)) (h' : o.map k = some d) : o.map (fun s => (f s, g s, k s)) = some (b, c, d) := by
  cases o with
  | none => cases h
  | some s =>
    have e1 : (f s, g s) = (b, c) := Option.some.inj h
    have e2 : k s = d := Option.some.inj h'
    injection e1 with e3 e4
    show some (f s, g s, k s) = some (b, c, d)
    rw [e3, e4, e2]
/-- the top's run in two looks, each of which fits the memory -/
theorem run_looks (w : World) (os : OsState) : (HandSHeadRun.endF (HandSHeadRun.stepQ (HandSHeadRun.denQ HandSHeadRun.tabQ) PySem.Challenge.rw_taflahead_s01_answers.prog w) 40000 PySem.Challenge.rw_taflahead_s01_answers.prog w os).map
    (fun s => (HandSHeadRun.looksF PySem.Challenge.rw_taflahead_s01_answers.prog (PySem.W.boot_heap w.params) s.abs, HandSHeadRun.seenQ (PySem.W.view PySem.Challenge.rw_taflahead_s01_answers.prog [95]) loose (PySem.importedModules PySem.Challenge.rw_taflahead_s01_answers.prog.main.body)
      (fun s => PySem.W.xlAt (PySem.W.view PySem.Challenge.rw_taflahead_s01_answers.prog [95]) [] s && PySem.W.recOk [] s) s.abs)) = some (true, PySem.W.openGood (PySem.W.view PySem.Challenge.rw_taflahead_s01_answers.prog [95]) loose) := by
  kernel_rfl
theorem run_facts (w : World) (os : OsState) : (HandSHeadRun.endF (HandSHeadRun.stepQ (HandSHeadRun.denQ HandSHeadRun.tabQ) PySem.Challenge.rw_taflahead_s01_answers.prog w) 40000 PySem.Challenge.rw_taflahead_s01_answers.prog w os).map ob = some (hk.val w) := by
  kernel_rfl
theorem run (w : World) : HandSHeadRun.RunEqS PySem.Challenge.rw_taflahead_s01_answers (PySem.W.view PySem.Challenge.rw_taflahead_s01_answers.prog [95]) hk ob 40000 loose w := by
  unfold HandSHeadRun.RunEqS
  intro os
  exact map_three (run_looks w os) (run_facts w os)
end Tf
set_option linter.all false
/-! Reading, by places: a text b and how many of its bytes are read. -/
namespace TfM
open Tafl
abbrev cur (b : Bytes) (k : Nat) : Cur := ⟨b.drop k, k⟩
theorem next_cur (b : Bytes) (k : Nat) : (cur b k).next = b[k]? := by
  show (b.drop k).head? = b[k]?
  rw [List.head?_drop]
theorem on_cur (b : Bytes) (k : Nat) : (cur b k).on = cur b (k + 1) := by
  show (⟨(b.drop k).drop 1, k + 1⟩ : Cur) = ⟨b.drop (k + 1), k + 1⟩
  rw [List.drop_drop]
/-- words -/
def litK (b : Bytes) : Bytes → Nat → Except Nat Nat
  | [], k => .ok k
  | x :: r, k => if b[k]? = some x then litK b r (k + 1) else .error k
theorem lit_cur (b : Bytes) : ∀ (w : Bytes) (k : Nat), lit w (cur b k) = (litK b w k).map (cur b)
  | [], k => rfl
  | x :: r, k => by
    unfold lit litK
    rw [next_cur, on_cur]
    by_cases h : b[k]? = some x
    · rw [if_pos h, if_pos h]
      exact lit_cur b r (k + 1)
    · rw [if_neg h, if_neg h]
      rfl
/-- one of these words -/
def oneK (b : Bytes) : Nat → List (Nat × Bytes) → Nat → Except Nat (Nat × Nat)
  | 0, _, k => .error k
  | f + 1, l, k => match l.find? fun (w : Nat × Bytes) => w.2.isEmpty with
    | some w => .ok (w.1, k)
    | none => match b[k]? with
      | none => .error k
      | some x => let m := l.filterMap fun (w : Nat × Bytes) => if w.2.head? = some x then some (w.1, w.2.drop 1) else none
        if m.isEmpty = true then .error k else oneK b f m (k + 1)
theorem one_cur (b : Bytes) : ∀ (f : Nat) (l : List (Nat × Bytes)) (k : Nat), oneOf f l (cur b k) = (oneK b f l k).map fun q => (q.1, cur b q.2)
  | 0, l, k => rfl
  | f + 1, l, k => by
    unfold oneOf oneK
    cases h : l.find? fun (w : Nat × Bytes) => w.2.isEmpty with
    | some w => rfl
    | none =>
      dsimp only
      rw [next_cur]
      cases hx : b[k]? with
      | none => rfl
      | some x =>
        dsimp only
        split
        · rfl
        · rw [on_cur]
          exact one_cur b f _ (k + 1)
/-- the words of a choice, with their numbers -/
def numbered (ws : List Bytes) : List (Nat × Bytes) := (List.range ws.length).map fun i => (i, ws.getD i [])
def wordK (b : Bytes) (ws : List Bytes) (k : Nat) : Except Nat (Nat × Nat) := oneK b 16 (numbered ws) k
theorem word_cur (b : Bytes) (l : List String) (k : Nat) : word l (cur b k) = (wordK b (l.map ascii) k).map fun q => (q.1, cur b q.2) := by
  unfold word wordK numbered
  rw [one_cur]
  congr 2
  rw [List.length_map]
  refine List.map_congr_left fun i hi => ?_
  have h : i < l.length := List.mem_range.mp hi
  simp [List.getD, List.getElem?_map, h]
/-- numbers -/
def numK (b : Bytes) (lo hi : Nat) : Nat → Nat → Nat → Except Nat (Nat × Nat)
  | 0, d, k => .ok (d, k)
  | f + 1, d, k => match b[k]? with
    | some x => if isDigit x = true ∧ 0 < 10 * d + (x.toNat - 48) ∧ begins lo hi (10 * d + (x.toNat - 48)) = true then numK b lo hi f (10 * d + (x.toNat - 48)) (k + 1) else if lo ≤ d ∧ d ≤ hi then .ok (d, k) else .error k
    | none => if lo ≤ d ∧ d ≤ hi then .ok (d, k) else .error k
theorem num_cur (b : Bytes) (lo hi : Nat) : ∀ (f d k : Nat), numberFrom lo hi f d (cur b k) = (numK b lo hi f d k).map fun q => (q.1, cur b q.2)
  | 0, d, k => rfl
  | f + 1, d, k => by
    unfold numberFrom numK
    rw [next_cur]
    cases hx : b[k]? with
    | none =>
      dsimp only
      split <;> rfl
    | some x =>
      dsimp only
      split
      · rw [on_cur]
        exact num_cur b lo hi f _ (k + 1)
      · split <;> rfl
/-- names -/
def someK (b : Bytes) (p : UInt8 → Bool) : Nat → Nat → Nat
  | 0, k => k
  | n + 1, k => match b[k]? with
    | some x => if p x = true then someK b p n (k + 1) else k
    | none => k
theorem some_cur (b : Bytes) (p : UInt8 → Bool) : ∀ (n k : Nat), (some_ p n (cur b k)).2 = cur b (someK b p n k)
  | 0, k => rfl
  | n + 1, k => by
    unfold some_ someK
    rw [next_cur]
    cases hx : b[k]? with
    | none => rfl
    | some x =>
      dsimp only
      split
      · rw [on_cur]
        exact some_cur b p n (k + 1)
      · rfl
def nameP (y : UInt8) : Bool := isLetter y || isDigit y
def nameK (b : Bytes) (k : Nat) : Except Nat Nat := match b[k]? with
  | some x => if isLetter x = true then .ok (someK b nameP 16 k) else .error k
  | none => .error k
theorem name_cur (b : Bytes) (k : Nat) : (nameIn (cur b k)).map (fun q => q.2) = (nameK b k).map (cur b) := by
  unfold nameIn nameK
  rw [next_cur]
  cases hx : b[k]? with
  | none => rfl
  | some x =>
    dsimp only
    split
    · exact congrArg Except.ok (some_cur b nameP 16 k)
    · rfl
/-- a row's signs: which one of four (by ix), at each place; then the line's end -/
def rowK (b : Bytes) (sign : UInt8 → Option α) : Nat → Nat → Except Nat (List α × Nat)
  | 0, k => (litK b [LF] k).map fun j => ([], j)
  | n + 1, k => match (b[k]?).bind sign with
    | some a => (rowK b sign n (k + 1)).map fun q => (a :: q.1, q.2)
    | none => .error k
theorem row_cur (b : Bytes) (sign : UInt8 → Option α) : ∀ (n k : Nat), rowIn sign n (cur b k) = (rowK b sign n k).map fun q => (q.1, cur b q.2)
  | 0, k => by
    unfold rowIn rowK
    rw [lit_cur]
    cases litK b [LF] k <;> rfl
  | n + 1, k => by
    unfold rowIn rowK
    rw [next_cur]
    cases (b[k]?).bind sign with
    | none => rfl
    | some a =>
      dsimp only
      rw [on_cur, row_cur b sign n (k + 1)]
      cases rowK b sign n (k + 1) <;> rfl
def rowsK (b : Bytes) (sign : UInt8 → Option α) (wide : Nat) : Nat → Nat → Except Nat (List (List α) × List Nat × Nat)
  | 0, k => .ok ([], [], k)
  | n + 1, k => match rowK b sign wide k with
    | .error p => .error p
    | .ok (r, j) => match rowsK b sign wide n j with
      | .error p => .error p
      | .ok (l, ps, e) => .ok (r :: l, k :: ps, e)
theorem rows_cur (b : Bytes) (sign : UInt8 → Option α) (wide : Nat) : ∀ (n k : Nat), rowsIn sign wide n (cur b k) = (rowsK b sign wide n k).map fun q => (q.1, q.2.1, cur b q.2.2)
  | 0, k => rfl
  | n + 1, k => by
    unfold rowsIn rowsK
    rw [row_cur]
    cases rowK b sign wide k with
    | error p => rfl
    | ok q =>
      obtain ⟨r, j⟩ := q
      show (do let (l, ps, e) ← rowsIn sign wide n (cur b j); return (r :: l, (cur b k).at_ :: ps, e)) = _
      rw [rows_cur b sign wide n j]
      dsimp only
      cases rowsK b sign wide n j with
      | error p => rfl
      | ok q => rfl
end TfM
set_option linter.all false
/-! The program's own ways of reading, against the places' functions. -/
namespace TfM
open Tafl
/-! ### choice: the words that are left, how many of their signs are read -/
/-- none begins another -/
def PFree (ws : List Bytes) : Prop := ∀ i j (hi : i < ws.length) (hj : j < ws.length), ws[i] <+: ws[j] → i = j
def pfree (ws : List Bytes) : Bool := (List.range ws.length).all fun i => (List.range ws.length).all fun j => i == j || !((ws.getD i []).isPrefixOf (ws.getD j []))
theorem pfree_ok {ws : List Bytes} (h : pfree ws = true) : PFree ws := by
  intro i j hi hj hp
  have h1 := List.all_eq_true.mp h i (List.mem_range.mpr hi)
  have h2 := List.all_eq_true.mp h1 j (List.mem_range.mpr hj)
  have e1 : ws.getD i [] = ws[i] := by simp [List.getD, hi]
  have e2 : ws.getD j [] = ws[j] := by simp [List.getD, hj]
  rw [e1, e2, Bool.or_eq_true] at h2
  rcases h2 with h2 | h2
  · exact eq_of_beq h2
  · rw [List.isPrefixOf_iff_prefix.mpr hp] at h2
    cases h2
/-- what is left at size s: numbers of words, each of at least s signs, the first s being those of all the others -/
structure Left (ws : List Bytes) (l : List Nat) (s : Nat) : Prop where
  lt : ∀ i ∈ l, i < ws.length
  long : ∀ i ∈ l, s ≤ (ws.getD i []).length
  same : ∀ i ∈ l, ∀ j ∈ l, (ws.getD i []).take s = (ws.getD j []).take s
theorem Left.start (ws : List Bytes) : Left ws (List.range ws.length) 0 :=
  ⟨fun i h => List.mem_range.mp h, fun i _ => Nat.zero_le _, fun i _ j _ => rfl⟩
/-- behind one more sign -/
def keep (ws : List Bytes) (l : List Nat) (s : Nat) (x : UInt8) : List Nat := l.filter fun i => (ws.getD i [])[s]? == some x
theorem Left.next {ws : List Bytes} {l : List Nat} {s : Nat} (L : Left ws l s) (x : UInt8) : Left ws (keep ws l s x) (s + 1) := by
  have key : ∀ i ∈ keep ws l s x, i ∈ l ∧ (ws.getD i [])[s]? = some x := fun i hi => by
    obtain ⟨h1, h2⟩ := List.mem_filter.mp hi
    exact ⟨h1, eq_of_beq h2⟩
  refine ⟨fun i hi => L.lt i (key i hi).1, fun i hi => ?_, fun i hi j hj => ?_⟩
  · obtain ⟨h, _⟩ := List.getElem?_eq_some_iff.mp (key i hi).2
    exact h
  · rw [List.take_add_one, List.take_add_one, L.same i (key i hi).1 j (key j hj).1, (key i hi).2, (key j hj).2]
/-- where the first has more signs, so have all -/
theorem Left.more {ws : List Bytes} (P : PFree ws) {l : List Nat} {s i0 : Nat} (L : Left ws l s) (h0 : i0 ∈ l) (hs : s < (ws.getD i0 []).length) : ∀ i ∈ l, s < (ws.getD i []).length := by
  intro i hi
  rcases Nat.lt_or_ge s (ws.getD i []).length with h | h
  · exact h
  · exfalso
    have hl : (ws.getD i []).length = s := Nat.le_antisymm h (L.long i hi)
    have li := L.lt i hi
    have l0 := L.lt i0 h0
    have e1 : ws.getD i [] = ws[i] := by simp [List.getD, li]
    have e0 : ws.getD i0 [] = ws[i0] := by simp [List.getD, l0]
    have hp : ws[i] <+: ws[i0] := by
      have q := L.same i hi i0 h0
      rw [List.take_of_length_le (Nat.le_of_eq hl)] at q
      rw [← e1, ← e0, q]
      exact List.take_prefix _ _
    have := P i i0 li l0 hp
    subst this
    omega
/-- the same in oneK's words -/
def rests (ws : List Bytes) (l : List Nat) (s : Nat) : List (Nat × Bytes) := l.map fun i => (i, (ws.getD i []).drop s)
theorem rests_start (ws : List Bytes) : rests ws (List.range ws.length) 0 = numbered ws := rfl
theorem rests_next (ws : List Bytes) (s : Nat) (x : UInt8) : ∀ l : List Nat, (rests ws l s).filterMap (fun (w : Nat × Bytes) => if w.2.head? = some x then some (w.1, w.2.drop 1) else none) = rests ws (keep ws l s x) (s + 1)
  | [] => rfl
  | i :: l => by
    have ih := rests_next ws s x l
    have hh : ((ws.getD i []).drop s).head? = (ws.getD i [])[s]? := List.head?_drop
    show List.filterMap _ ((i, (ws.getD i []).drop s) :: rests ws l s) = rests ws (List.filter _ (i :: l)) (s + 1)
    rw [List.filterMap_cons, List.filter_cons]
    dsimp only
    rw [hh]
    by_cases h : (ws.getD i [])[s]? = some x
    · rw [if_pos h, if_pos (by rw [h]; exact beq_self_eq_true _)]
      show (i, ((ws.getD i []).drop s).drop 1) :: _ = (i, (ws.getD i []).drop (s + 1)) :: rests ws (keep ws l s x) (s + 1)
      rw [List.drop_drop]
      exact congrArg _ ih
    · rw [if_neg h, if_neg (by intro q; exact h (eq_of_beq q))]
      exact ih
theorem rests_empty {ws : List Bytes} {l : List Nat} {s : Nat} : (rests ws l s).isEmpty = l.isEmpty := by
  cases l <;> rfl
/-- the first is at its end: it's that one -/
theorem one_done (b : Bytes) {ws : List Bytes} {i0 : Nat} {l : List Nat} {s f k : Nat} (h : (ws.getD i0 []).length ≤ s) : oneK b (f + 1) (rests ws (i0 :: l) s) k = .ok (i0, k) := by
  unfold oneK rests
  have e : (ws.getD i0 []).drop s = [] := List.drop_eq_nil_of_le h
  rw [List.map_cons, List.find?_cons, e]
  rfl
theorem one_more (b : Bytes) {ws : List Bytes} {l : List Nat} {s f k : Nat} (h : ∀ i ∈ l, s < (ws.getD i []).length) : oneK b (f + 1) (rests ws l s) k = match b[k]? with
    | none => .error k
    | some x => if (keep ws l s x).isEmpty = true then .error k else oneK b f (rests ws (keep ws l s x) (s + 1)) (k + 1) := by
  have e : (rests ws l s).find? (fun (w : Nat × Bytes) => w.2.isEmpty) = none := by
    rw [List.find?_eq_none]
    intro w hw
    obtain ⟨i, hi, rfl⟩ := List.mem_map.mp hw
    have h1 := h i hi
    intro q
    have q1 : ((ws.getD i []).drop s).length = 0 := by
      have q2 : (ws.getD i []).drop s = [] := List.isEmpty_iff.mp q
      rw [q2]
      rfl
    rw [List.length_drop] at q1
    omega
  show (match (rests ws l s).find? (fun (w : Nat × Bytes) => w.2.isEmpty) with
    | some w => Except.ok (w.1, k)
    | none => match b[k]? with
      | none => .error k
      | some x => let m := (rests ws l s).filterMap fun (w : Nat × Bytes) => if w.2.head? = some x then some (w.1, w.2.drop 1) else none
        if m.isEmpty = true then .error k else oneK b f m (k + 1)) = _
  rw [e]
  dsimp only
  cases hx : b[k]? with
  | none => rfl
  | some x =>
    dsimp only
    rw [rests_next, rests_empty]
/-! ### leads_to -/
/-- the loop's answer from lowest, highest on -/
theorem begins_of {lo hi v k : Nat} (hk : k < 6) (h1 : v * 10 ^ k ≤ hi) (h2 : lo ≤ v * 10 ^ k + (10 ^ k - 1)) : begins lo hi v = true := by
  unfold begins
  rw [List.any_eq_true]
  exact ⟨k, List.mem_range.mpr hk, by simp [h1, h2]⟩
theorem begins_not {lo hi v : Nat} (h : ∀ k, k < 6 → v * 10 ^ k ≤ hi → ¬ lo ≤ v * 10 ^ k + (10 ^ k - 1)) : begins lo hi v = false := by
  unfold begins
  rw [List.any_eq_false]
  intro k hk
  have h1 := h k (List.mem_range.mp hk)
  simp only [Bool.and_eq_true, decide_eq_true_eq, not_and]
  exact h1
theorem begins_le {lo hi v : Nat} (h : begins lo hi v = true) : v ≤ hi := by
  unfold begins at h
  obtain ⟨k, _, h2⟩ := List.any_eq_true.mp h
  simp only [Bool.and_eq_true, decide_eq_true_eq] at h2
  have : v * 1 ≤ v * 10 ^ k := Nat.mul_le_mul_left _ (Nat.one_le_pow _ _ (by omega))
  omega
/-- the loop's turn: k tens have been put behind; nothing was found -/
structure Leads (lo hi v : Nat) (k low high : Nat) : Prop where
  low : low = v * 10 ^ k
  high : high = v * 10 ^ k + (10 ^ k - 1)
  none : ∀ j, j < k → ¬ lo ≤ v * 10 ^ j + (10 ^ j - 1)
theorem Leads.start (lo hi v : Nat) : Leads lo hi v 0 v v := ⟨by simp, by simp, fun j h => absurd h (by omega)⟩
theorem Leads.next {lo hi v k low high : Nat} (L : Leads lo hi v k low high) (h : ¬ lo ≤ high) : Leads lo hi v (k + 1) (10 * low) (10 * high + 9) := by
  have p : 1 ≤ 10 ^ k := Nat.one_le_pow _ _ (by omega)
  have e : 10 ^ (k + 1) = 10 * 10 ^ k := by rw [Nat.pow_succ]; omega
  have hm : v * (10 * 10 ^ k) = 10 * (v * 10 ^ k) := by rw [Nat.mul_left_comm]
  refine ⟨?_, ?_, fun j hj => ?_⟩
  · rw [L.low, e, hm]
  · rw [L.high, e, hm]
    omega
  · rcases Nat.lt_or_ge j k with h1 | h1
    · exact L.none j h1
    · have : j = k := by omega
      subst this
      rw [← L.high]
      exact h
theorem Leads.lt {lo hi v k low high : Nat} (L : Leads lo hi v k low high) (hv : 0 < v) (hh : hi < 1000000) (h : low ≤ hi) : k < 6 := by
  rcases Nat.lt_or_ge k 6 with h1 | h1
  · exact h1
  · exfalso
    have h2 : 10 ^ 6 ≤ 10 ^ k := Nat.pow_le_pow_right (by omega) h1
    have h3 : 1 * 10 ^ k ≤ v * 10 ^ k := Nat.mul_le_mul_right _ hv
    rw [L.low] at h
    omega
theorem Leads.found {lo hi v k low high : Nat} (L : Leads lo hi v k low high) (hv : 0 < v) (hh : hi < 1000000) (h : low ≤ hi) (h2 : lo ≤ high) : begins lo hi v = true :=
  begins_of (L.lt hv hh h) (by rw [← L.low]; exact h) (by rw [← L.high]; exact h2)
theorem Leads.over {lo hi v k low high : Nat} (L : Leads lo hi v k low high) (h : ¬ low ≤ hi) : begins lo hi v = false := by
  refine begins_not fun j hj h1 => ?_
  rcases Nat.lt_or_ge j k with h2 | h2
  · exact L.none j h2
  · exfalso
    have h3 : 10 ^ k ≤ 10 ^ j := Nat.pow_le_pow_right (by omega) h2
    have h4 : v * 10 ^ k ≤ v * 10 ^ j := Nat.mul_le_mul_left _ h3
    rw [L.low] at h
    omega
/-! ### number -/
/-- where the reading stands: f turns are left, d is read -/
structure NumAt (hi f d : Nat) : Prop where
  le : d ≤ hi
  big : (d = 0 ∧ f = 6) ∨ (1 ≤ d ∧ f < 6 ∧ 10 ^ (5 - f) ≤ d)
theorem NumAt.start (hi : Nat) : NumAt hi 6 0 := ⟨Nat.zero_le _, .inl ⟨rfl, rfl⟩⟩
theorem NumAt.pos {hi f d : Nat} (N : NumAt hi f d) (hh : hi < 100000) : 0 < f := by
  rcases N.big with ⟨_, h⟩ | ⟨_, h, h2⟩
  · omega
  · rcases Nat.eq_zero_or_pos f with h3 | h3
    · subst h3
      have := N.le
      have e : 10 ^ (5 - 0) = 100000 := by decide
      omega
    · exact h3
theorem NumAt.next {hi f d e : Nat} (N : NumAt hi (f + 1) d) (h0 : 0 < e) (he : 10 * d ≤ e) (hb : e ≤ hi) : NumAt hi f e := by
  refine ⟨hb, .inr ⟨h0, ?_, ?_⟩⟩
  · rcases N.big with ⟨_, h⟩ | ⟨_, h, _⟩ <;> omega
  · rcases N.big with ⟨_, h⟩ | ⟨h1, h, h2⟩
    · have : f = 5 := by omega
      subst this
      show 10 ^ 0 ≤ e
      rw [Nat.pow_zero]
      exact h0
    · have e1 : 5 - f = (5 - (f + 1)) + 1 := by omega
      rw [e1, Nat.pow_succ]
      omega
end TfM
set_option linter.all false
/-! The grammar by places. -/
namespace TfM
open Tafl
section
variable {β : Type} (b : Bytes)
theorem bind_lit (w : Bytes) (k : Nat) (f : Cur → Except Nat β) : (lit w (cur b k) >>= f) = (litK b w k >>= fun j => f (cur b j)) := by
  rw [lit_cur]
  cases litK b w k <;> rfl
theorem bind_word (l : List String) (k : Nat) (f : Nat × Cur → Except Nat β) : (word l (cur b k) >>= f) = (wordK b (l.map ascii) k >>= fun q => f (q.1, cur b q.2)) := by
  rw [word_cur]
  cases wordK b (l.map ascii) k <;> rfl
theorem bind_num (lo hi k : Nat) (f : Nat × Cur → Except Nat β) : (number lo hi (cur b k) >>= f) = (numK b lo hi 6 0 k >>= fun q => f (q.1, cur b q.2)) := by
  unfold number
  rw [num_cur]
  cases numK b lo hi 6 0 k <;> rfl
def nameB (k : Nat) : Bytes := (some_ (fun (y : UInt8) => isLetter y || isDigit y) 16 (cur b k)).1
theorem bind_name (k : Nat) (f : Bytes × Cur → Except Nat β) : (nameIn (cur b k) >>= f) = (nameK b k >>= fun j => f (nameB b k, cur b j)) := by
  unfold nameIn nameK
  rw [next_cur]
  cases hx : b[k]? with
  | none => rfl
  | some x =>
    dsimp only
    split
    · have e := some_cur b nameP 16 k
      show f (some_ (fun (y : UInt8) => isLetter y || isDigit y) 16 (cur b k)) = f (nameB b k, cur b (someK b nameP 16 k))
      rw [← e]
      rfl
    · rfl
theorem bind_rows {α : Type} (sign : UInt8 → Option α) (w n k : Nat) (f : List (List α) × List Nat × Cur → Except Nat β) : (rowsIn sign w n (cur b k) >>= f) = (rowsK b sign w n k >>= fun q => f (q.1, q.2.1, cur b q.2.2)) := by
  rw [rows_cur]
  cases rowsK b sign w n k <;> rfl
end
abbrev wEnm : List Bytes := ENMITY.map ascii
/-- the grammar in the reader's own steps -/
def gramK (b : Bytes) : Except Nat Rules := do
  let k1 ← litK b (ascii "tafl ") 0
  let k2 ← nameK b k1
  let k3 ← litK b [32] k2
  let w ← numK b 5 13 6 0 k3
  let k5 ← litK b [32] w.2
  let h ← numK b 5 13 6 0 k5
  let k7 ← litK b (ascii "\nground\n") h.2
  let g ← rowsK b kindSign w.1 h.1 k7
  let k9 ← litK b (ascii "start\n") g.2.2
  let s ← rowsK b pieceSign w.1 h.1 k9
  let k11 ← litK b (ascii "first ") s.2.2
  let f ← wordK b (["hunters", "king"].map ascii) k11
  let k13 ← litK b (ascii "\nking ") f.2
  let c1 ← wordK b (["steps", "slides"].map ascii) k13
  let k15 ← litK b [32] c1.2
  let c2 ← wordK b (["bare", "armed"].map ascii) k15
  let k17 ← litK b [32] c2.2
  let c3 ← wordK b (["two", "four"].map ascii) k17
  let k19 ← litK b (ascii "\nseat ") c3.2
  let s1 ← wordK b (["barred", "passed"].map ascii) k19
  let k21 ← litK b [32] s1.2
  let s2 ← wordK b (ENMITY.map ascii) k21
  let k23 ← litK b (ascii "\nexits ") s2.2
  let x ← wordK b (ENMITY.map ascii) k23
  let k25 ← litK b (ascii "\ngoal ") x.2
  let o ← wordK b (["edge", "exits"].map ascii) k25
  let k27 ← litK b (ascii "\nthrice ") o.2
  let t ← wordK b (["drawn", "hunters", "king"].map ascii) k27
  let k29 ← litK b (ascii "\nlimit ") t.2
  let l ← numK b 1 60000 6 0 k29
  let k31 ← litK b [LF] l.2
  if b.drop k31 = [] then .ok ⟨nameB b k1, w.1, h.1, g.1, g.2.1, s.1, s.2.1, f.1, c1.1 == 1, c2.1 == 1, c3.1 == 1, s1.1 == 1, s2.1, x.1, o.1, k25, t.1, l.1⟩ else .error k31
theorem gram_eq (b : Bytes) : grammar b = gramK b := by
  unfold grammar gramK
  rw [show (⟨b, 0⟩ : Cur) = cur b 0 from rfl]
  simp only [bind_lit, bind_word, bind_num, bind_name, bind_rows]
  rfl
end TfM
set_option linter.all false
/-! A text's shape; its faults. -/
namespace TfM
open Tafl
theorem row_len {α : Type} {b : Bytes} {sign : UInt8 → Option α} : ∀ {n k : Nat} {r : List α} {j : Nat}, rowK b sign n k = .ok (r, j) → r.length = n
  | 0, k, r, j, h => by
    unfold rowK at h
    cases hl : litK b [LF] k with
    | error p =>
      rw [hl] at h
      cases h
    | ok q =>
      rw [hl] at h
      have y : (([] : List α), q) = (r, j) := by injection h
      cases y
      rfl
  | n + 1, k, r, j, h => by
    unfold rowK at h
    cases ha : (b[k]?).bind sign with
    | none =>
      rw [ha] at h
      cases h
    | some a =>
      rw [ha] at h
      dsimp only at h
      cases hr : rowK b sign n (k + 1) with
      | error p =>
        rw [hr] at h
        cases h
      | ok q =>
        rw [hr] at h
        have y : (a :: q.1, q.2) = (r, j) := by injection h
        cases y
        have ih := row_len (r := q.1) (j := q.2) hr
        rw [List.length_cons, ih]
theorem rows_len {α : Type} {b : Bytes} {sign : UInt8 → Option α} {wide : Nat} : ∀ {n k : Nat} {g : List (List α)} {gp : List Nat} {e : Nat}, rowsK b sign wide n k = .ok (g, gp, e) → g.length = n ∧ gp.length = n ∧ ∀ r ∈ g, r.length = wide
  | 0, k, g, gp, e, h => by
    have y : (([] : List (List α)), ([] : List Nat), k) = (g, gp, e) := by injection h
    cases y
    exact ⟨rfl, rfl, fun r hr => nomatch hr⟩
  | n + 1, k, g, gp, e, h => by
    unfold rowsK at h
    cases hr : rowK b sign wide k with
    | error p =>
      rw [hr] at h
      cases h
    | ok q =>
      obtain ⟨r, j⟩ := q
      rw [hr] at h
      dsimp only at h
      cases hs : rowsK b sign wide n j with
      | error p =>
        rw [hs] at h
        cases h
      | ok q =>
        obtain ⟨l, ps, e2⟩ := q
        rw [hs] at h
        have y : (r :: l, k :: ps, e2) = (g, gp, e) := by injection h
        cases y
        obtain ⟨a1, a2, a3⟩ := rows_len hs
        refine ⟨by rw [List.length_cons, a1], by rw [List.length_cons, a2], fun x hx => ?_⟩
        rcases List.mem_cons.mp hx with rfl | hx
        · exact row_len hr
        · exact a3 x hx
/-- the shape of what a text says -/
structure Shaped (r : Rules) : Prop where
  w5 : 5 ≤ r.wide
  w13 : r.wide ≤ 13
  h5 : 5 ≤ r.high
  h13 : r.high ≤ 13
  gl : r.ground.length = r.high
  gr : ∀ x ∈ r.ground, x.length = r.wide
  gp : r.groundAt.length = r.high
  sl : r.start.length = r.high
  sr : ∀ x ∈ r.start, x.length = r.wide
  sp : r.startAt.length = r.high
  seat : r.seat < 4
  exits : r.exits < 4
  goal : r.goal < 2
def t3 (q : Nat × Nat × Nat) : List Int := [(q.1 : Int), (q.2.1 : Int), (q.2.2 : Int)]
/-- cells as they stand in a text, with what stands there and its place -/
def Rules.gT (ix : Kind → Nat) (r : Rules) : List (Nat × Nat × Nat) := r.asWritten.map fun p => (cellOf p.1 p.2, ix (r.kind p.1 p.2), r.groundPlace p)
def Rules.sT (ix : Piece → Nat) (r : Rules) : List (Nat × Nat × Nat) := r.asWritten.map fun p => (cellOf p.1 p.2, ix (r.piece p.1 p.2), r.startPlace p)
theorem mem_written {r : Rules} {p : Nat × Nat} : p ∈ r.asWritten ↔ p.1 < r.wide ∧ p.2 < r.high := by
  unfold Rules.asWritten
  rw [List.mem_flatMap]
  constructor
  · rintro ⟨i, hi, hp⟩
    obtain ⟨x, hx, rfl⟩ := List.mem_map.mp hp
    have h1 := List.mem_range.mp hi
    have h2 := List.mem_range.mp hx
    exact ⟨h2, by show r.high - 1 - i < r.high; omega⟩
  · rintro ⟨h1, h2⟩
    refine ⟨r.high - 1 - p.2, List.mem_range.mpr (by omega), List.mem_map.mpr ⟨p.1, List.mem_range.mpr h1, ?_⟩⟩
    have e : r.high - 1 - (r.high - 1 - p.2) = p.2 := by omega
    rw [e]
theorem mem_cells {r : Rules} {p : Nat × Nat} : p ∈ r.cells ↔ p.1 < r.wide ∧ p.2 < r.high := by
  unfold Rules.cells cellsOf
  rw [List.mem_flatMap]
  constructor
  · rintro ⟨y, hy, hp⟩
    obtain ⟨x, hx, rfl⟩ := List.mem_map.mp hp
    exact ⟨List.mem_range.mp hx, List.mem_range.mp hy⟩
  · rintro ⟨h1, h2⟩
    exact ⟨p.2, List.mem_range.mpr h2, List.mem_map.mpr ⟨p.1, List.mem_range.mpr h1, rfl⟩⟩
theorem any_cells {r : Rules} (f : Nat × Nat → Bool) : r.cells.any f = r.asWritten.any f := by
  rw [Bool.eq_iff_iff, List.any_eq_true, List.any_eq_true]
  constructor
  · rintro ⟨p, hp, h⟩
    exact ⟨p, mem_written.mpr (mem_cells.mp hp), h⟩
  · rintro ⟨p, hp, h⟩
    exact ⟨p, mem_cells.mpr (mem_written.mp hp), h⟩
/-! ### the first of some faults -/
def later (m : Option (Nat × Nat)) (x : Nat × Nat) : Option (Nat × Nat) := match m with
  | some y => if sooner y x = true then some y else some x
  | none => some x
theorem firstOf_eq (l : List (Nat × Nat)) : firstOf l = l.foldl later none := rfl
theorem soon_refl (a : Nat × Nat) : sooner a a = true := by
  unfold sooner
  simp
theorem soon_tr {a b c : Nat × Nat} (h1 : sooner a b = true) (h2 : sooner b c = true) : sooner a c = true := by
  unfold sooner at *
  simp only [Bool.or_eq_true, Bool.and_eq_true, decide_eq_true_eq, beq_iff_eq] at *
  omega
theorem soon_or {a b : Nat × Nat} (h : ¬ sooner a b = true) : sooner b a = true := by
  unfold sooner at *
  simp only [Bool.or_eq_true, Bool.and_eq_true, decide_eq_true_eq, beq_iff_eq] at *
  omega
theorem soon_anti {a b : Nat × Nat} (h1 : sooner a b = true) (h2 : sooner b a = true) : a = b := by
  unfold sooner at *
  simp only [Bool.or_eq_true, Bool.and_eq_true, decide_eq_true_eq, beq_iff_eq] at *
  exact Prod.ext (by omega) (by omega)
theorem later_fold : ∀ (l : List (Nat × Nat)) (y : Nat × Nat), ∃ z, l.foldl later (some y) = some z ∧ (z = y ∨ z ∈ l) ∧ sooner z y = true ∧ ∀ x ∈ l, sooner z x = true
  | [], y => ⟨y, rfl, .inl rfl, soon_refl y, fun x hx => nomatch hx⟩
  | x :: l, y => by
    by_cases h : sooner y x = true
    · obtain ⟨z, e, m, s, a⟩ := later_fold l y
      refine ⟨z, ?_, ?_, s, fun q hq => ?_⟩
      · rw [List.foldl_cons]
        show l.foldl later (if sooner y x = true then some y else some x) = some z
        rw [if_pos h]
        exact e
      · rcases m with m | m
        · exact .inl m
        · exact .inr (List.mem_cons_of_mem _ m)
      · rcases List.mem_cons.mp hq with rfl | hq
        · exact soon_tr s h
        · exact a q hq
    · obtain ⟨z, e, m, s, a⟩ := later_fold l x
      refine ⟨z, ?_, ?_, soon_tr s (soon_or h), fun q hq => ?_⟩
      · rw [List.foldl_cons]
        show l.foldl later (if sooner y x = true then some y else some x) = some z
        rw [if_neg h]
        exact e
      · rcases m with m | m
        · rw [m]
          exact .inr List.mem_cons_self
        · exact .inr (List.mem_cons_of_mem _ m)
      · rcases List.mem_cons.mp hq with rfl | hq
        · exact s
        · exact a q hq
theorem first_none {l : List (Nat × Nat)} (h : l = []) : firstOf l = none := by
  rw [h]
  rfl
theorem first_some {l : List (Nat × Nat)} {x : Nat × Nat} (hx : x ∈ l) (hm : ∀ y ∈ l, sooner x y = true) : firstOf l = some x := by
  cases l with
  | nil => cases hx
  | cons a l =>
    obtain ⟨z, e, m, s, al⟩ := later_fold l a
    have e' : firstOf (a :: l) = some z := e
    have hz : z ∈ a :: l := by
      rcases m with m | m
      · rw [m]
        exact List.mem_cons_self
      · exact List.mem_cons_of_mem _ m
    have h1 : sooner z x = true := by
      rcases List.mem_cons.mp hx with rfl | hx
      · exact s
      · exact al x hx
    rw [e', soon_anti h1 (hm z hz)]
/-! ### lists written by place -/
theorem fold_set {α β : Type} {f : α → Nat} {v : α → β} {c : Nat} {x : β} : ∀ (l : List α) (g : List β), c < g.length → (∀ p ∈ l, f p = c → v p = x) →
    (l.foldl (fun g p => g.set (f p) (v p)) g)[c]? = if (∃ p ∈ l, f p = c) then some x else g[c]?
  | [], g, hc, h => by
    rw [if_neg (by simp)]
    rfl
  | p :: l, g, hc, h => by
    rw [List.foldl_cons, fold_set l (g.set (f p) (v p)) (by rw [List.length_set]; exact hc) (fun q hq => h q (List.mem_cons_of_mem _ hq))]
    by_cases h1 : ∃ q ∈ l, f q = c
    · rw [if_pos h1, if_pos]
      obtain ⟨q, hq, e⟩ := h1
      exact ⟨q, List.mem_cons_of_mem _ hq, e⟩
    · rw [if_neg h1]
      by_cases h2 : f p = c
      · rw [if_pos ⟨p, List.mem_cons_self, h2⟩, h2, List.getElem?_set_self hc, h p List.mem_cons_self h2]
      · rw [if_neg, List.getElem?_set_ne h2]
        rintro ⟨q, hq, e⟩
        rcases List.mem_cons.mp hq with rfl | hq
        · exact h2 e
        · exact h1 ⟨q, hq, e⟩
theorem fold_len {α β : Type} {f : α → Nat} {v : α → β} : ∀ (l : List α) (g : List β), (l.foldl (fun g p => g.set (f p) (v p)) g).length = g.length
  | [], g => rfl
  | p :: l, g => by
    rw [List.foldl_cons, fold_len l, List.length_set]
end TfM
set_option linter.all false
/-! Lines, by places. -/
namespace TfM
open Tafl
def runK (b : Bytes) (left k : Nat) : Except Nat (Nat × Nat) := match b[k]? with
  | none => .error k
  | some x => if isDigit x = true ∧ 1 ≤ x.toNat - 48 ∧ x.toNat - 48 ≤ left then (match b[k + 1]? with
      | some y => if isDigit y = true ∧ x.toNat - 48 = 1 ∧ 10 + (y.toNat - 48) ≤ left then .ok (10 + (y.toNat - 48), k + 2) else .ok (x.toNat - 48, k + 1)
      | none => .ok (x.toNat - 48, k + 1))
    else .error k
theorem run_cur (b : Bytes) (left k : Nat) : runIn left (cur b k) = (runK b left k).map fun q => (q.1, cur b q.2) := by
  unfold runIn runK
  rw [next_cur]
  cases hx : b[k]? with
  | none => rfl
  | some x =>
    dsimp only
    split
    · rw [on_cur, next_cur]
      cases hy : b[k + 1]? with
      | none => rfl
      | some y =>
        dsimp only
        split
        · rw [on_cur]
          rfl
        · rfl
    · rfl
abbrev PL := List (Piece × Nat × Nat)
def rrK (b : Bytes) (wide : Nat) : Nat → Nat → Nat → Bool → Bool → PL → Nat → Except Nat (PL × Nat × Nat)
  | 0, _, _, _, _, _, k => .error k
  | f + 1, left, rows, was, king, l, k =>
    if left = 0 then
      if rows = 0 then (match litK b [32] k with
        | .error p => .error p
        | .ok j => if b[j]? = some 104 then .ok (l, 0, j + 1) else if b[j]? = some 107 then .ok (l, 1, j + 1) else .error j)
      else (match litK b [47] k with
        | .error p => .error p
        | .ok j => rrK b wide f wide (rows - 1) false king l j)
    else (match b[k]? with
      | none => .error k
      | some x =>
        if x = 104 then rrK b wide f (left - 1) rows false king (l ++ [(.hunter, cellOf (wide - left) rows, k)]) (k + 1)
        else if x = 109 then rrK b wide f (left - 1) rows false king (l ++ [(.man, cellOf (wide - left) rows, k)]) (k + 1)
        else if x = 75 ∧ king = false then rrK b wide f (left - 1) rows false true (l ++ [(.king, cellOf (wide - left) rows, k)]) (k + 1)
        else if was = true then .error k else (match runK b left k with
          | .error e => .error e
          | .ok (n, j) => rrK b wide f (left - n) rows true king l j))
theorem rr_eq (b : Bytes) (wide : Nat) : ∀ (f left rows : Nat) (was king : Bool) (l : PL) (k : Nat), readRows wide f left rows was king l (cur b k) = (rrK b wide f left rows was king l k).map fun q => (q.1, q.2.1, cur b q.2.2)
  | 0, left, rows, was, king, l, k => rfl
  | f + 1, left, rows, was, king, l, k => by
    unfold readRows rrK
    by_cases h1 : left = 0
    · rw [if_pos h1, if_pos h1]
      by_cases h2 : rows = 0
      · rw [if_pos h2, if_pos h2, bind_lit]
        cases hl : litK b [32] k with
        | error p => rfl
        | ok j =>
          show (if (cur b j).next = some 104 then _ else _) = _
          rw [next_cur, on_cur]
          dsimp only
          by_cases h3 : b[j]? = some 104
          · rw [if_pos h3, if_pos h3]
            rfl
          · rw [if_neg h3, if_neg h3]
            by_cases h4 : b[j]? = some 107
            · rw [if_pos h4, if_pos h4]
              rfl
            · rw [if_neg h4, if_neg h4]
              rfl
      · rw [if_neg h2, if_neg h2, bind_lit]
        cases hl : litK b [47] k with
        | error p => rfl
        | ok j => exact rr_eq b wide f wide (rows - 1) false king l j
    · rw [if_neg h1, if_neg h1, next_cur]
      cases hx : b[k]? with
      | none => rfl
      | some x =>
        dsimp only
        by_cases h3 : x = 104
        · rw [if_pos h3, if_pos h3, on_cur]
          exact rr_eq b wide f _ _ _ _ _ _
        rw [if_neg h3, if_neg h3]
        by_cases h4 : x = 109
        · rw [if_pos h4, if_pos h4, on_cur]
          exact rr_eq b wide f _ _ _ _ _ _
        rw [if_neg h4, if_neg h4]
        by_cases h5 : x = 75 ∧ king = false
        · rw [if_pos h5, if_pos h5, on_cur]
          exact rr_eq b wide f _ _ _ _ _ _
        rw [if_neg h5, if_neg h5]
        by_cases h6 : was = true
        · rw [if_pos h6, if_pos h6]
          rfl
        rw [if_neg h6, if_neg h6, run_cur]
        cases hr : runK b left k with
        | error e => rfl
        | ok q => exact rr_eq b wide f _ _ _ _ _ _
/-! ### numbers -/
theorem begins_one {left d : Nat} (h : 0 < d) : begins 1 left d = true ↔ d ≤ left := by
  constructor
  · exact begins_le
  · intro h2
    exact begins_of (k := 0) (by decide) (by simpa using h2) (by omega)
theorem num_step {b : Bytes} {left f d k : Nat} : numK b 1 left (f + 1) d k = match b[k]? with
    | some x => if isDigit x = true ∧ 0 < 10 * d + (x.toNat - 48) ∧ 10 * d + (x.toNat - 48) ≤ left then numK b 1 left f (10 * d + (x.toNat - 48)) (k + 1) else if 1 ≤ d ∧ d ≤ left then .ok (d, k) else .error k
    | none => if 1 ≤ d ∧ d ≤ left then .ok (d, k) else .error k := by
  rw [numK]
  cases hx : b[k]? with
  | none => rfl
  | some x =>
    dsimp only
    by_cases h : isDigit x = true ∧ 0 < 10 * d + (x.toNat - 48) ∧ 10 * d + (x.toNat - 48) ≤ left
    · rw [if_pos h, if_pos ⟨h.1, h.2.1, (begins_one h.2.1).mpr h.2.2⟩]
    · rw [if_neg h, if_neg]
      rintro ⟨h1, h2, h3⟩
      exact h ⟨h1, h2, (begins_one h2).mp h3⟩
theorem num_stop {b : Bytes} {left f d k : Nat} (h : 1 ≤ d ∧ d ≤ left) (h2 : left < 10 * d) : numK b 1 left (f + 1) d k = .ok (d, k) := by
  rw [num_step]
  cases hx : b[k]? with
  | none =>
    dsimp only
    rw [if_pos h]
  | some x =>
    dsimp only
    rw [if_neg (by rintro ⟨_, _, h3⟩; omega), if_pos h]
theorem num_run {b : Bytes} {left k : Nat} (hl : left ≤ 13) : numK b 1 left 6 0 k = runK b left k := by
  rw [num_step]
  unfold runK
  cases hx : b[k]? with
  | none => rfl
  | some x =>
    dsimp only
    rw [show 10 * 0 + (x.toNat - 48) = x.toNat - 48 by omega]
    by_cases h : isDigit x = true ∧ 1 ≤ x.toNat - 48 ∧ x.toNat - 48 ≤ left
    · rw [if_pos h, if_pos ⟨h.1, by omega, h.2.2⟩, num_step]
      cases hy : b[k + 1]? with
      | none =>
        dsimp only
        rw [if_pos ⟨h.2.1, h.2.2⟩]
      | some y =>
        dsimp only
        by_cases h2 : isDigit y = true ∧ x.toNat - 48 = 1 ∧ 10 + (y.toNat - 48) ≤ left
        · rw [if_pos h2, if_pos ⟨h2.1, by omega, by omega⟩]
          have e : 10 * (x.toNat - 48) + (y.toNat - 48) = 10 + (y.toNat - 48) := by omega
          rw [e, num_stop ⟨by omega, h2.2.2⟩ (by omega)]
        · rw [if_neg h2, if_neg, if_pos ⟨h.2.1, h.2.2⟩]
          rintro ⟨h3, h4, h5⟩
          exact h2 ⟨h3, by omega, by omega⟩
    · rw [if_neg h, if_neg (by rintro ⟨h1, h2, h3⟩; exact h ⟨h1, by omega, h3⟩), if_neg (by omega)]
theorem run_in {b : Bytes} {left k n j : Nat} (h : runK b left k = .ok (n, j)) : 1 ≤ n ∧ n ≤ left := by
  unfold runK at h
  cases hx : b[k]? with
  | none =>
    rw [hx] at h
    cases h
  | some x =>
    rw [hx] at h
    dsimp only at h
    split at h
    · rename_i hc
      cases hy : b[k + 1]? with
      | none =>
        rw [hy] at h
        have y : (x.toNat - 48, k + 1) = (n, j) := by injection h
        cases y
        exact hc.2
      | some y =>
        rw [hy] at h
        dsimp only at h
        split at h
        · rename_i hd
          have y : (10 + (y.toNat - 48), k + 2) = (n, j) := by injection h
          cases y
          exact ⟨by omega, hd.2.2⟩
        · have y : (x.toNat - 48, k + 1) = (n, j) := by injection h
          cases y
          exact hc.2
    · cases h
/-! ### steps -/
def lineSign (king : Bool) (x : UInt8) : Option Piece := if x = 104 then some .hunter else if x = 109 then some .man else if x = 75 ∧ king = false then some .king else none
def need (wide left rows : Nat) : Nat := left + rows * (wide + 1) + 1
theorem rr_piece {b : Bytes} {wide f left rows : Nat} {was king : Bool} {l : PL} {k : Nat} {a : Piece} (hl : 0 < left) (h : (b[k]?).bind (lineSign king) = some a) :
    rrK b wide (f + 1) left rows was king l k = rrK b wide f (left - 1) rows false (king || a == .king) (l ++ [(a, cellOf (wide - left) rows, k)]) (k + 1) := by
  cases hx : b[k]? with
  | none =>
    rw [hx] at h
    cases h
  | some x =>
    rw [hx] at h
    have h : lineSign king x = some a := h
    rw [rrK, if_neg (by omega), hx]
    dsimp only
    unfold lineSign at h
    by_cases h3 : x = 104
    · rw [if_pos h3] at h ⊢
      cases h
      rw [show (king || Piece.hunter == Piece.king) = king by cases king <;> rfl]
    rw [if_neg h3] at h ⊢
    by_cases h4 : x = 109
    · rw [if_pos h4] at h ⊢
      cases h
      rw [show (king || Piece.man == Piece.king) = king by cases king <;> rfl]
    rw [if_neg h4] at h ⊢
    by_cases h5 : x = 75 ∧ king = false
    · rw [if_pos h5] at h ⊢
      cases h
      rw [show (king || Piece.king == Piece.king) = true by cases king <;> rfl]
    · rw [if_neg h5] at h
      cases h
theorem sign_digit {king : Bool} {x : UInt8} (h : isDigit x = true) : lineSign king x = none := by
  unfold isDigit at h
  simp only [Bool.and_eq_true, decide_eq_true_eq] at h
  unfold lineSign
  rw [if_neg, if_neg, if_neg]
  · rintro ⟨rfl, _⟩
    exact absurd h.2 (by decide)
  · rintro rfl
    exact absurd h.2 (by decide)
  · rintro rfl
    exact absurd h.2 (by decide)
theorem rr_bad {b : Bytes} {wide f left rows : Nat} {was king : Bool} {l : PL} {k : Nat} (hl : 0 < left) (h : (b[k]?).bind (lineSign king) = none) (h2 : was = true ∨ ∀ x, b[k]? = some x → ¬ isDigit x = true) :
    rrK b wide (f + 1) left rows was king l k = .error k := by
  rw [rrK, if_neg (by omega)]
  cases hx : b[k]? with
  | none => rfl
  | some x =>
    rw [hx] at h
    have h : lineSign king x = none := h
    unfold lineSign at h
    dsimp only
    by_cases h3 : x = 104
    · rw [if_pos h3] at h
      cases h
    rw [if_neg h3] at h ⊢
    by_cases h4 : x = 109
    · rw [if_pos h4] at h
      cases h
    rw [if_neg h4] at h ⊢
    by_cases h5 : x = 75 ∧ king = false
    · rw [if_pos h5] at h
      cases h
    rw [if_neg h5]
    by_cases h6 : was = true
    · rw [if_pos h6]
    rw [if_neg h6]
    have h7 := h2.resolve_left h6 x hx
    unfold runK
    rw [hx]
    dsimp only
    rw [if_neg (fun y => h7 y.1)]
theorem rr_num {b : Bytes} {wide f left rows : Nat} {king : Bool} {l : PL} {k : Nat} {x : UInt8} (hl : 0 < left) (hx : b[k]? = some x) (hd : isDigit x = true) :
    rrK b wide (f + 1) left rows false king l k = match runK b left k with
      | .error e => .error e
      | .ok (n, j) => rrK b wide f (left - n) rows true king l j := by
  have h := sign_digit (king := king) hd
  rw [rrK, if_neg (by omega), hx]
  unfold lineSign at h
  dsimp only
  by_cases h3 : x = 104
  · rw [if_pos h3] at h
    cases h
  rw [if_neg h3] at h ⊢
  by_cases h4 : x = 109
  · rw [if_pos h4] at h
    cases h
  rw [if_neg h4] at h ⊢
  by_cases h5 : x = 75 ∧ king = false
  · rw [if_pos h5] at h
    cases h
  rw [if_neg h5, if_neg Bool.false_ne_true]
theorem rr_next {b : Bytes} {wide f rows : Nat} {was king : Bool} {l : PL} {k : Nat} (h : 0 < rows) : rrK b wide (f + 1) 0 rows was king l k = match litK b [47] k with
    | .error p => .error p
    | .ok j => rrK b wide f wide (rows - 1) false king l j := by
  rw [rrK, if_pos rfl, if_neg (by omega)]
theorem rr_end {b : Bytes} {wide f : Nat} {was king : Bool} {l : PL} {k : Nat} : rrK b wide (f + 1) 0 0 was king l k = match litK b [32] k with
    | .error p => .error p
    | .ok j => if b[j]? = some 104 then .ok (l, 0, j + 1) else if b[j]? = some 107 then .ok (l, 1, j + 1) else .error j := by
  rw [rrK, if_pos rfl, if_pos rfl]
/-! ### a line, by places -/
def lineP (r : Rules) (l : PL) (side : Nat) : Except (Nat × Nat) Pos := match l.find? fun (x : Piece × Nat × Nat) => !mayStand x.1 (r.kindAt x.2.1) with
    | some x => .error (2, x.2.2)
    | none => .ok ⟨setFrom (l.filterMap fun (x : Piece × Nat × Nat) => if x.1 = .hunter then some x.2.1 else none), setFrom (l.filterMap fun (x : Piece × Nat × Nat) => if x.1 = .man then some x.2.1 else none), ((l.find? fun (x : Piece × Nat × Nat) => x.1 == .king).map fun (x : Piece × Nat × Nat) => x.2.1).getD TAKEN, side⟩
def lineK (r : Rules) (b : Bytes) : Except Nat (PL × Nat) := match rrK b r.wide (2 * LINE) r.wide (r.high - 1) false false [] 0 with
  | .error p => .error p
  | .ok (l, side, j) => if b[j]? = none then .ok (l, side) else .error j
theorem line_eq (r : Rules) (b : Bytes) : r.readLine b = match lineK r b with
    | .error p => .error (1, p)
    | .ok (l, side) => lineP r l side := by
  unfold Rules.readLine lineK
  rw [show (⟨b, 0⟩ : Cur) = cur b 0 from rfl, rr_eq]
  cases rrK b r.wide (2 * LINE) r.wide (r.high - 1) false false [] 0 with
  | error p => rfl
  | ok q =>
    obtain ⟨l, side, j⟩ := q
    show (if (cur b j).rest ≠ [] then _ else _) = _
    have e : (cur b j).rest = [] ↔ b[j]? = none := by
      show b.drop j = [] ↔ _
      rw [List.drop_eq_nil_iff, List.getElem?_eq_none_iff]
    by_cases h : b[j]? = none
    · rw [if_neg (fun y => y (e.mpr h))]
      dsimp only
      rw [if_pos h]
      rfl
    · rw [if_pos (fun y => h (e.mp y))]
      dsimp only
      rw [if_neg h]
end TfM
set_option Elab.async false
set_option linter.all false
set_option maxRecDepth 100000
set_option maxHeartbeats 3900000
/-! Error classes of the program's own, straight over Exception, whose __init__ stores fields: a field is stored; such an error is made, in the clear and while another is handled. -/
namespace TfX
open PySem PySem.Spec PyProof.Rows L2
/-- such a class, as the written part tells of it -/
structure OxE (K : PySem.W.Frag) (C : Addr) : Prop where
  obj : ∃ nm qn ns bs sn sb ab cl dd s0 s1 s2 s3 s5, K.lookup C = some (excClassObj nm qn C ns bs PySem.ESX.exTail true sn sb ab cl dd s0 s1 s2 s3 s5 "Exception.__new__")
  put : PySem.W.findIn K (.ref C) "__setattr__" = some (some (Value.builtin "object.__setattr__"))
  err : PySem.W.subIn K (.ref C) (Value.type "BaseException") = some true
  met : PySem.W.typeIn K (.ref C) = some (Value.type "type")
  kep : PySem.W.keepIn K (Value.ref C) = true
theorem OxE.data {K : PySem.W.Frag} {C : Addr} (T : OxE K C) : ∃ cd, PySem.W.clsIn K C = some cd ∧ cd.mro = .ref C :: PySem.ESX.exTail ∧ cd.hasDict = true := by
  obtain ⟨nm, qn, ns, bs, sn, sb, ab, cl, dd, s0, s1, s2, s3, s5, e⟩ := T.obj
  have q : PySem.W.clsIn K C = some { name := nm, bases := bs, mro := .ref C :: PySem.ESX.exTail, ns := ns, qualname := qn, hasDict := true, slotNames := sn, subclasses := sb, abstract := ab, collection := cl, hasDel := false } := by
    unfold PySem.W.clsIn
    rw [e] <;> rfl
  exact ⟨_, q, rfl, rfl⟩
section
variable {X : Cx} {pins : List (Addr × Obj)} {σ : L2.St} {H : Hp} {s : Shared} {a C dx : Addr} {f : Str} {y : V} {u : Value} {fs : List (Str × V)} {Q : Unit → Shared → Prop} {E : Value → Shared → Prop} {A : Around}
/-- the first field: a dict is laid, then the error is written. Between the two stands a heap in which the error is still the old one -/
theorem put_first (T : OxE X.K C) (I : Inv X pins σ H s) (at0 : H a = some (exo a C none)) (own : PySem.W.findIn X.K (.ref C) f = some none) (rel : RelV y u)
    (go : ∀ dx s', H dx = none → dx ≠ a → Inv X pins σ (upd (upd H dx (exd dx [(f, y)])) a (exo a C (some dx))) s' → Q () s') : wpAny (model X.prog X.w) A (setAttr (.ref a) f u) Q E s := by
  obtain ⟨cd, e1, e2, e3⟩ := T.data
  obtain ⟨tup, old⟩ := exo_at I.hok at0
  obtain ⟨hp, gs, dr, tn, oss⟩ := s
  refine PySem.W.set_plain I.kIn (od := none) ⟨old, rfl, rfl, trivial⟩ T.put ?_
  refine PySem.ESX.osa_new I.kIn old e1 e2 e3 own fun h' tn' dx stays above apart now names => ?_
  obtain ⟨mid, mk⟩ : ∃ mid, mid = h'.update a fun _ => ({ cls := .ref C, dict := none, data := .fields #[.ref tup, .none, .none, .none, .bool false, .none] } : Obj) := ⟨_, rfl⟩
  have mid_a : mid.get? a = some { cls := .ref C, dict := none, data := .fields #[.ref tup, .none, .none, .none, .bool false, .none] } := by
    rw [mk]
    exact Heap.get?_update_self _ now rfl
  have mid_b : ∀ b, a ≠ b → mid.get? b = h'.get? b := fun b hb => by
    rw [mk]
    exact Heap.get?_update_other _ _ hb
  have J : Inv X pins σ (upd H dx (exd dx [(f, y)])) ⟨mid, gs, dr, tn', oss⟩ := by
    refine I.laid (t' := tn') (fun b o q => ?_) above (exd_ok (names.at fun o q => ?_) (relO_put (fs := []) rel fun _ => trivial))
    · by_cases hb : a = b
      · subst hb
        exact mid_a.trans (old.symm.trans q)
      · exact (mid_b b hb).trans (stays b o (Ne.symm hb) q)
    · exact (mid_b dx (Ne.symm apart)).trans q
  have free : H dx = none := I.hok.fresh above
  refine go dx _ free apart (J.write (t' := tn') (x := a) (e := a) (o := exo a C (some dx)) ?_ (.inl rfl) (fun b o hb q => ?_) ⟨_, now⟩ (exo_ok now))
  · rw [upd_ne (Ne.symm apart), at0]
    trivial
  · exact (mid_b b (Ne.symm hb)).symm.trans q
/-- a field more -/
theorem put_next (T : OxE X.K C) (I : Inv X pins σ H s) (at0 : H a = some (exo a C (some dx))) (atd : H dx = some (exd dx fs)) (few : fs.length ≤ 900) (own : PySem.W.findIn X.K (.ref C) f = some none) (rel : RelV y u)
    (go : ∀ s', Inv X pins σ (upd H dx (exd dx ((f, y) :: fs))) s' → Q () s') : wpAny (model X.prog X.w) A (setAttr (.ref a) f u) Q E s := by
  obtain ⟨cd, e1, e2, e3⟩ := T.data
  obtain ⟨tup, old⟩ := exo_at I.hok at0
  obtain ⟨mp, names, rels⟩ := exd_at I.hok atd
  have inside := within_of rels
  obtain ⟨hp, gs, dr, tn, oss⟩ := s
  obtain ⟨od, _, _, e4, _⟩ := names.count inside
  refine PySem.W.set_plain I.kIn (od := some od) ⟨old, rfl, rfl, e4⟩ T.put ?_
  have short : (fs.map fun p => p.1).length ≤ 1000 := by
    rw [List.length_map]
    omega
  refine PySem.ESX.osa_old I.kIn old names inside short e1 e2 e3 own fun h' tn' stays names' => go _ ?_
  have there : ∃ o, h'.get? dx = some o := by
    obtain ⟨o, _, _, q, _⟩ := names'
    exact ⟨o, q⟩
  refine I.write (t' := tn') (x := dx) (e := dx) (o := exd dx ((f, y) :: fs)) ?_ (.inl rfl) stays there (exd_ok names' (relO_put rel rels))
  rw [atd]
  trivial
end
/-- what «self.f = y» asks where the error at a has no field yet | has some; N: what follows -/
abbrev FieldFirst (N : Hp → Prop) (H : Hp) (a C : Addr) (f : Str) (y : V) : Prop := H a = some (exo a C none) ∧ ∀ dx, H dx = none → dx ≠ a → N (upd (upd H dx (exd dx [(f, y)])) a (exo a C (some dx)))
abbrev FieldNext (N : Hp → Prop) (H : Hp) (a C : Addr) (f : Str) (y : V) : Prop := ∃ (dx : Addr) (fs : List (Str × V)), H a = some (exo a C (some dx)) ∧ H dx = some (exd dx fs) ∧ fs.length ≤ 900 ∧ N (upd H dx (exd dx ((f, y) :: fs)))
/-- what «self.f = e» asks in such an __init__ -/
def tOse (K : PySem.W.Frag) (f : Str) (to te : TE) : TS := fun D σ H => te σ H fun y H1 => to σ H1 fun x H2 =>
  ∃ a C : Addr, x = .ref a ∧ OxE K C ∧ PySem.W.findIn K (.ref C) f = some none ∧ (FieldFirst (D.nx σ) H2 a C f y ∨ FieldNext (D.nx σ) H2 a C f y)
theorem ps_ose {X : Cx} {o e : Expr} {to te : TE} {f : Str} {p' pos : Pos} (ho : PE X o to) (he : PE X e te) (hs : swapsWith e (some (.Attribute o f p')) pos.line X.env = pure false := by rfl) :
    PS X (.Assign [.Attribute o f p'] e pos) (tOse X.K f to te) := by
  constructor
  intro pins s σ H D I h
  refine plainObj_wpAny_Assign_Attribute ?_ hs
  refine thn (he.run pins s σ H _ I h) fun v t1 got => ?_
  obtain ⟨y, H1, I1, ry, h1⟩ := got
  refine thn (ho.run pins t1 σ H1 _ I1 h1) fun w t2 got => ?_
  obtain ⟨x, H2, I2, rx, a, C, rfl, T, own, way⟩ := got
  have ew : w = Value.ref a := rx
  subst ew
  cases way with
  | inl z => exact put_first T I2 z.1 own ry fun dx t n ne J => ⟨σ, _, J, z.2 dx n ne⟩
  | inr z =>
    obtain ⟨dx, fs, q1, q2, q3, q4⟩ := z
    exact put_next T I2 q1 q2 q3 own ry fun t J => ⟨σ, _, J, q4⟩
/-! ### an error is made -/
/-- the heap in which the new error lies, its args ahead of it -/
def born (C : Addr) (us : List Value) (h : Heap) : Heap := (h.push (PySem.W.kdv_tup us)).push (PySem.HandSPX.excO C h.objs.size)
theorem born_old {C : Addr} {us : List Value} {h : Heap} (b : Addr) (o : Obj) (q : h.get? b = some o) : (born C us h).get? b = some o := by
  unfold born
  exact Heap.get?_push_of_some _ (Heap.get?_push_of_some _ q)
theorem born_new {C : Addr} {us : List Value} {h : Heap} : (born C us h).get? (h.objs.size + 1) = some (PySem.HandSPX.excO C h.objs.size) := by
  unfold born
  heap_get
section
variable {X : Cx} {pins : List (Addr × Obj)} {σ : L2.St} {H : Hp} {hp : Heap} {gs : Array GenState} {dr : Drawn} {tn : Nat} {oss : OsState} {C : Addr} {us : List Value}
theorem Inv.born (I : Inv X pins σ H ⟨hp, gs, dr, tn, oss⟩) : Inv X pins σ (upd H (hp.objs.size + 1) (exo (hp.objs.size + 1) C none)) ⟨TfX.born C us hp, gs, dr, tn, oss⟩ :=
  I.laid (t' := tn) born_old (Nat.le_succ _) (exo_ok born_new)
/-- behind its __init__: what the raise asks of it -/
theorem born_back {Q : XK} (T : OxE X.K C) (I : Inv X pins σ H ⟨hp, gs, dr, tn, oss⟩) {s' : Shared} {v : Value}
    (c : CE X.stack X.prog X.w (upd H (hp.objs.size + 1) (exo (hp.objs.size + 1) C none)) ⟨TfX.born C us hp, gs, dr, tn, oss⟩ (fun v H2 => v = .non ∧ ∃ (d : Addr) (fs : List (Str × V)),
      H2 (hp.objs.size + 1) = some (exo (hp.objs.size + 1) C (some d)) ∧ H2 d = some (exd d fs) ∧ H d = none ∧ Q (.ref C) (some d) (upd (del H2 (hp.objs.size + 1)) d (.xd fs))) v s') :
    RelV .non v ∧ L2N.MkP X pins σ Q (.ref (hp.objs.size + 1)) s' ∧ L2H.Six (.ref (hp.objs.size + 1)) s' := by
  obtain ⟨x, H2, eos, bare, un, ok, rx, rfl, d, fs, ea, ed, new, q⟩ := c
  obtain ⟨h2, g2, d2, t2, os2⟩ := s'
  obtain ⟨tup, G, J, inside, out, there, off⟩ := mk_end0 (d2 := d2) (t2 := t2) I (Nat.le_succ _) born_old un ok eos bare ea ed new
  refine ⟨rx, ⟨_, _, _, ⟨G, g2, d2, t2, os2⟩, _, .ref C, some d, rfl, J, inside, out, there, ⟨rfl, rfl, fun vs e => ?_⟩, rfl, rfl, off, rfl, bare, raises_own T.err T.met, q⟩, fun b ob vs e g e2 => ?_⟩
  · cases e
    rfl
  · cases e
    have z : some ob = some _ := (show h2.get? (hp.objs.size + 1) = some ob from g).symm.trans there
    cases z
    cases e2
    exact (by decide : 4 < 6)
end
section
variable {X : Cx} {e : Expr} {es : List Expr} {ta : TA} {p pos : Pos} {CX : CXT} {x : Str} {C fI : Addr} {k : Nat} {fd : FuncData} {ps : List Str} {sp : Sp}
/-- C(e, ..), whatever is known of the call of its __init__: «ran» hands that in -/
theorem pmk_by (T : OxE X.K C) (iC : PySem.W.findIn X.K (.ref C) "__init__" = some (some (.ref fI))) (tI : PySem.W.typeIn X.K (.ref fI) = some (.type "function")) (len : ∀ vs H Q E, sp vs H Q E → vs.length = ps.length)
    (ran : ∀ (pins : List (Addr × Obj)) (σ : L2.St) (H : Hp) (s : Shared) (us : List Value) (vs : List V) (Q : VK), Inv X pins σ H s → Vals vs us → BindsTo s fd ⟨us, []⟩ (ps.zip us) → sp vs H Q (fun _ _ _ => False) →
      codeAny (model X.prog X.w) (X.A.under (.builtin "type.__call__" ⟨.ref C :: us.tail, []⟩)) (.call (.ref fI) ⟨us, []⟩) (CR CX X.stack X.prog X.w H s Q (fun _ _ _ => False)) s)
    (hb : Binds X.K fd ps []) (hx : Passes CX X (fun _ _ _ => False)) (hg : Gl X x) (hm : X.mg x = some (.ref C)) (ha : PA X (e :: es) ta) (hdb : (x == ("__debug__" : Str)) = false)
    (he : starEach (e :: es) X.env = (false, eval e X.env) :: starEach es X.env) (hpl : (backTo pos (starEach es X.env)).any (·.1) = false) : L2H.PMk5 X (.Call (.Name x p) (e :: es) [] pos) (tMkO C sp [] ta) := by
  intro pins s σ H Q I h
  obtain ⟨nm, qn, ns, bs, sn, sb, ab, cl, dd, s0, s1, s2, s3, s5, isC⟩ := T.obj
  refine wpAny_Call_Name_kw (ld_glob I hg hm (PySem.W.callWith_K (h₀ := X.base) I.ok.mod.kin T.kep (thn (ha.run pos pins s σ H _ I h) fun us t got => ?_) he hpl) hdb)
  obtain ⟨vs, H1, I1, rel, few, ask⟩ := got
  refine ⟨I1.kIn, ?_⟩
  obtain ⟨hp, gs, dr, tn, oss⟩ := t
  have ask1 := ask _ (I1.hok.fresh (Nat.le_succ hp.objs.size))
  rw [List.append_nil] at ask1
  have rel1 : Vals (V.ref (hp.objs.size + 1) :: vs) (Value.ref (hp.objs.size + 1) :: us) := .cons rfl rel
  have many : (Value.ref (hp.objs.size + 1) :: us).length = ps.length := rel1.length.symm.trans (len _ _ _ _ ask1)
  have I2 : Inv X pins σ _ ⟨born C us hp, gs, dr, tn, oss⟩ := Inv.born (C := C) I1
  have bound := hb ⟨born C us hp, gs, dr, tn, oss⟩ (Value.ref (hp.objs.size + 1) :: us) I2.kIn (by rw [List.append_nil]; exact many)
  rw [List.append_nil] at bound
  have size : us.length ≤ sizeLine := by
    have z := Paired.length rel
    rw [sizeLine_eq]
    omega
  refine wpAny_call (PySem.HandSPX.call_own F.excBase_Exception (fun _ => rfl) (I1.kIn _ _ isC) (PySem.W.looks_findIn I1.kIn iC) (fun self => PySem.W.bind_fn I1.kIn self tI) size ?_)
  refine codeAny_mono (ran pins σ _ _ _ _ _ I2 rel1 bound ask1) fun r s' got => ?_
  match r, got with
  | .error er, got => exact hx pins σ _ _ er s' I2 got
  | .ok (.ret v), got => exact born_back T I1 got
/-- .. where nothing is handled -/
theorem pmk_oxe (T : OxE X.K C) (iC : PySem.W.findIn X.K (.ref C) "__init__" = some (some (.ref fI))) (tI : PySem.W.typeIn X.K (.ref fI) = some (.type "function")) (F1 : FnOk X.prog X.w X.K X.mg X.base CX k fI fd ps sp) (hr : Room (k + 1) X.A)
    (hb : Binds X.K fd ps []) (hx : Passes CX X (fun _ _ _ => False)) (hg : Gl X x) (hm : X.mg x = some (.ref C)) (ha : PA X (e :: es) ta) (hdb : (x == ("__debug__" : Str)) = false := by decide)
    (he : starEach (e :: es) X.env = (false, eval e X.env) :: starEach es X.env := by rfl) (hpl : (backTo pos (starEach es X.env)).any (·.1) = false := by rfl) : L2H.PMk5 X (.Call (.Name x p) (e :: es) [] pos) (tMkO C sp [] ta) :=
  pmk_by T iC tI F1.len (fun _ _ _ _ us _ _ I rel bound ask => F1.run _ X.stack _ _ _ us _ _ _ (hr.make C us.tail []) (I.env0.make C us.tail []) bound rel ask) hb hx hg hm ha hdb he hpl
/-- .. while an error is handled -/
theorem pmk_oxeH (T : OxE X.K C) (iC : PySem.W.findIn X.K (.ref C) "__init__" = some (some (.ref fI))) (tI : PySem.W.typeIn X.K (.ref fI) = some (.type "function")) (F1 : L2H.FnH X.prog X.w X.K X.mg X.base CX k fI fd ps sp) (hr : L2H.RoomH (k + 1) X.A) (hot : L2H.HotC X)
    (hb : Binds X.K fd ps []) (hx : Passes CX X (fun _ _ _ => False)) (hg : Gl X x) (hm : X.mg x = some (.ref C)) (ha : PA X (e :: es) ta) (hdb : (x == ("__debug__" : Str)) = false := by decide)
    (he : starEach (e :: es) X.env = (false, eval e X.env) :: starEach es X.env := by rfl) (hpl : (backTo pos (starEach es X.env)).any (·.1) = false := by rfl) : L2H.PMk5 X (.Call (.Name x p) (e :: es) [] pos) (tMkO C sp [] ta) := by
  obtain ⟨pn, is, mem⟩ := hot
  refine pmk_by T iC tI F1.len (fun pins σ H s us _ _ I rel bound ask => ?_) hb hx hg hm ha hdb he hpl
  obtain ⟨q1, q2, q3, q4, q5⟩ := I.pin pn (List.mem_append_left _ mem)
  have pinned : L2H.PinOk X.stack H s pn := ⟨q1, q2, fun z => (List.mem_cons.mp (I.stkSub _ z)).elim q3 q4, q5⟩
  exact F1.run _ X.stack _ _ _ us _ _ _ pn (hr.make C us.tail []) ⟨is.1, is.2⟩ pinned (I.env0.make C us.tail []) bound rel ask
end
end TfX
set_option Elab.async false
set_option linter.all false
set_option maxRecDepth 100000
set_option maxHeartbeats 3900000
/-! An error that is raised in a suite «except x as n» and leaves it: noted, the clause's name goes, it flies on. -/
namespace TfX
open PySem PySem.Spec PyProof.Rows L2 HotX L2H
section
variable {X : Cx} {pins : List (Addr × Obj)} {σ τ : L2.St} {H : Hp} {s : Shared} {G : Heap} {S : Addr → Prop} {tn : Nat}
/-- the heap is another one at the addresses S, on which nothing leans but (it may be) the frame; what the slots show is told anew -/
theorem inv_moved (I : Inv X pins σ H s) (same : ∀ b, ¬ S b → G.get? b = s.heap.get? b) (tr : ∀ b, S b → H b = none) (below : ∀ b, S b → X.s_0.heap.get? b = none) (cells : ∀ x c, X.env.cells.lookup x = some c → ¬ S c)
    (pinned : ∀ p ∈ X.pn ++ pins, ¬ S p.1) (len : τ.length = X.N.length)
    (frame : ∃ m, G.Ns X.env.locals m ∧ ∀ (i : Nat) (x : Str) (v : V), X.N[i]? = some x → τ[i]? = some (some v) → Vis X.env.scope x → ∃ u, RelV v u ∧ Look X.env G m x u) : Inv X pins τ H { s with heap := G, toks := tn } := by
  have at0 : ∀ {b : Addr} {o : Obj}, X.s_0.heap.get? b = some o → G.get? b = s.heap.get? b := fun {b o} q => same b fun z => by
    rw [below b z] at q
    cases q
  constructor
  case ok => exact I.ok
  case os => exact I.os
  case bare => exact I.bare
  case free => exact I.free
  case freeC => exact I.freeC
  case len => exact len
  case loc => exact frame
  case base =>
    have U := I.base
    constructor
    case keep => exact fun b o q n f x => (at0 q).trans (U.keep b o q n f x)
    case slot => exact fun b o q n f x => (U.slot b o q n f x).imp fun sl z => (at0 q).trans z
    case there => exact fun b o q x => (U.there b o q x).imp fun o' z => (at0 q).trans z
    case free => exact U.free
    case tups => exact U.tups
    case frzs => exact U.frzs
    case tbls => exact U.tbls
  case cell =>
    intro x c q
    obtain ⟨v, oc, z1, z2⟩ := I.cell x c q
    exact ⟨v, oc, (same c (cells x c q)).trans z1, z2⟩
  case pin =>
    intro p hp
    have z := I.pin p hp
    exact ⟨(same p.1 (pinned p hp)).trans z.1, z.2⟩
  case hok =>
    intro b o q
    have off : ∀ {c : Addr} {u : HO}, H c = some u → ¬ S c := fun {c u} e z => by
      rw [tr c z] at e
      cases e
    refine (I.hok b o q).stay (fun c v hc z => ?_) (fun _ z => z) (fun _ _ z => z)
    cases hc with
    | inl e => exact (same c (e ▸ off q)).trans z
    | inr e => exact (same c (off e)).trans z
/-- objects that nothing leans on are left out -/
theorem inv_hidden (I : Inv X pins σ H s) (same : ∀ b, ¬ S b → G.get? b = s.heap.get? b) (tr : ∀ b, S b → H b = none) (below : ∀ b, S b → X.s_0.heap.get? b = none) (here : ¬ S X.env.locals) (cells : ∀ x c, X.env.cells.lookup x = some c → ¬ S c)
    (pinned : ∀ p ∈ X.pn ++ pins, ¬ S p.1) : Inv X pins σ H { s with heap := G } := by
  refine inv_moved (tn := s.toks) I same tr below cells pinned I.len ?_
  obtain ⟨m, ⟨ob, es, ep, q, r⟩, see⟩ := I.loc
  refine ⟨m, ⟨ob, es, ep, (same _ here).trans q, r⟩, fun i x v q1 q2 q3 => (see i x v q1 q2 q3).imp fun u z => ⟨z.1, z.2.imp id ?_⟩⟩
  rintro ⟨k, c, e, oc, z1, z2⟩
  exact ⟨k, c, e, oc, (same c (cells x c e)).trans z1, z2⟩
/-- the clause's name goes: nothing but the frame's dict is another one behind it -/
theorem gone_same {M : Model} {A : Around} {E : Value → Shared → Prop} {i : Nat} {n : Str} {pos : Pos} {Q : Unit → Shared → Prop} (I : Inv X pins σ H s) (nd : X.N.Nodup) (at_ : X.N[i]? = some n) (lc : X.env.kindOf n = some .local)
    (go : ∀ h', Heap.SameBut X.env.locals s.heap h' → Inv X pins (σ.set i none) H { s with heap := h', toks := s.toks + 1 } → Q () { s with heap := h', toks := s.toks + 1 }) : wpAny M A (do bindName X.env n .none; unbindBehindTheSuite X.env n pos) Q E s := by
  obtain ⟨m, names, see⟩ := id I.loc
  refine wpAny_nameGoes_keeps lc names (by simp [I.ok.kind]) fun h' v names' sb => go h' sb ?_
  refine inv_moved (S := fun b => b = X.env.locals) I (fun b hb => sb.2 b hb) (fun b e => e ▸ I.free) (fun b e => ?_) (fun x c q => I.cne x c q) (fun p hp => (I.pin p hp).2.2.1) (by rw [List.length_set]; exact I.len) ⟨_, names', fun j y w q1 q2 q3 => ?_⟩
  · cases q : X.s_0.heap.get? b with
    | none => rfl
    | some o => exact absurd (Nat.lt_of_lt_of_le (Heap.lt_size q) I.ok.above) (by rw [e]; exact Nat.lt_irrefl _)
  · have ji : i ≠ j := fun e => by
      subst e
      rw [List.getElem?_set] at q2
      simp at q2
    rw [List.getElem?_set_ne ji] at q2
    have yn : y ≠ n := fun e => ji (nodup_ix nd at_ (e ▸ q1))
    refine (see j y w q1 q2 q3).imp fun u z => ⟨z.1, ?_⟩
    cases z.2 with
    | inl l => exact Or.inl ⟨l.1, (ite_cond_eq_false _ _ (eq_false yn)).trans l.2⟩
    | inr l =>
      obtain ⟨k, c, e, l⟩ := l
      exact Or.inr ⟨k, c, e, l.sameBut sb (I.cne y c e)⟩
end
theorem frames_again {h h' base : Heap} (k : ∀ b o, h.get? b = some o → (∀ vs, o.data ≠ .fields vs) → ∃ o', h'.get? b = some o' ∧ ∀ vs, o'.data ≠ .fields vs) : ∀ {l : List Env}, h.FunFrames base l → h'.FunFrames base l
  | [], _ => trivial
  | _ :: _, hl => by
    obtain ⟨a1, ⟨L, o, a2, a3, a4, a5⟩, a6⟩ := hl
    obtain ⟨o', b1, b2⟩ := k L o a4 a5
    exact ⟨a1, ⟨L, o', a2, a3, b1, b2⟩, frames_again k a6⟩
/-- the suite's context, its own wish about errors -/
abbrev suiteR (X : Cx) (a : Addr) (pn : List (Addr × Obj)) (xe : Value → Shared → Prop) : Cx := { X with A := X.A.mark (some (.ref a)), calm := false, pn := pn, xe := xe }
section
variable {X : Cx} {pins : List (Addr × Obj)} {σ : L2.St} {H : Hp} {s : Shared} {a : Addr}
theorem suiteR_of {pn pn' : List (Addr × Obj)} {xe : Value → Shared → Prop} (I : Inv (X.suite a pn) pn' σ H s) : Inv (suiteR X a pn xe) pn' σ H s := Inv.unwish (X := suiteR X a pn xe) (E := fun _ _ => False) I
theorem unsuiteR {q : Addr × Obj} {pn' : List (Addr × Obj)} {xe : Value → Shared → Prop} (I : Inv (suiteR X a (q :: (X.pn ++ pins)) xe) pn' σ H s) (ok : X.Ok) : Inv X pins σ H s := by
  have J : Inv (X.suite a (q :: (X.pn ++ pins))) pn' σ H s := I.wish fun _ _ => False
  exact J.unsuite ok
end
section
variable {X : Cx} {pins : List (Addr × Obj)} {Wout : WX} {i : Nat} {n : Str} {pos' : Pos}
/-- an error that leaves the suite: it is noted, the clause's name goes, it flies on -/
theorem leaves_suite (hs : X.stack = X.env :: X.outer) (hf : X.env.frame = some X.env.locals) (hN : X.N.Nodup) (hi : X.N[i]? = some n) (hln : X.env.kindOf n = some .local) (ok : X.Ok) (noEx : ∀ c, c ∉ X.ex) (tk : L2.Takes X Wout)
    {a : Addr} {oe : Obj} {R : Value → Shared → Prop} {E1 E2 : Value → Shared → Prop} {xe : Value → Shared → Prop} (hR : ∀ x s, X.xe x s → R x s) {u : Value} {s3 : Shared}
    (x2 : L2.XE (suiteR X a ((a, oe) :: (X.pn ++ pins)) xe) (fun cls d σ H => Wout cls d (σ.set i none) H) u s3) :
    wpAny (model X.prog X.w) (X.A.mark (some (.ref a))) (noteFrame u X.env) (fun _ s4 => wpAny (model X.prog X.w) (X.A.mark (some (.ref a))) (do bindName X.env n .none; unbindBehindTheSuite X.env n pos')
      (fun _ s5 => wpAny (model X.prog X.w) (X.A.mark (some (.ref a))) (passOn "try.except-as" u X.env : Sem Flow) (fun _ _ => False) R s5) E1 s4) E2 s3 := by
  obtain ⟨b, B, sI, pn2, σ2, H2, cls, d, rfl, I2, nb, up, sky, na, os, ag, w2⟩ := x2
  have hfr : (X.A.mark (some (.ref a))).frames = some (X.env :: X.outer) := by
    have q := ok.frames
    rw [hs] at q
    exact q
  have J0 : Inv X pins σ2 H2 sI := unsuiteR I2 ok
  have sky' : Sky B (X.env :: X.outer) b (Zc cls d) X.env.locals s3.heap := by rw [← hs]; exact sky
  have fin : ∀ h1, HandSPX.HeldZ B (X.env :: X.outer) b (Zc cls d) X.env.locals h1 → s3.heap.UpToSlots h1 →
      wpAny (model X.prog X.w) (X.A.mark (some (.ref a))) (do bindName X.env n .none; unbindBehindTheSuite X.env n pos')
        (fun _ s5 => wpAny (model X.prog X.w) (X.A.mark (some (.ref a))) (passOn "try.except-as" (.ref b) X.env : Sem Flow) (fun _ _ => False) R s5) E1 { s3 with heap := h1 } := fun h1 hh up1 => by
    have J1 : Inv X pins σ2 H2 { s3 with heap := h1 } := J0.landed nb hh.1 (up.trans up1) os ag
    refine gone_same J1 hN hi hln fun h7 sb J7 => ?_
    obtain ⟨g1, g2, g3, oe2, vs, T, oT, ts, he, hz, hd, hv1, hnT, hTe, hT, hdT, h3⟩ := hh
    have hLf : X.env.locals ∈ frs (X.env :: X.outer) := List.mem_filterMap.mpr ⟨X.env, List.mem_cons_self, hf⟩
    have noL : ∀ {c : Addr} {o : Obj} {ws : Array Value}, h1.get? c = some o → o.data = .fields ws → c ≠ X.env.locals := fun {c o ws} e1 e2 z => by
      obtain ⟨_, o', e', hnf⟩ := g3.mem hLf
      rw [← z, e1] at e'
      cases e'
      exact hnf _ e2
    have bL : ∀ {c : Addr} {o : Obj}, B.get? c = some o → c ≠ X.env.locals := fun {c o} e z => by
      have q := (g3.mem hLf).1
      rw [← z, e] at q
      cases q
    have B7 : B.StaysIn h7 := fun c o e => (sb.2 c (bL e)).trans (g1 c o e)
    have F7 : h7.FunFrames B (X.env :: X.outer) := by
      refine frames_again (fun c o e hnf => ?_) g3
      by_cases hc : c = X.env.locals
      · obtain ⟨m, ⟨o7, es, ep, q7, q8, _⟩, _⟩ := J7.loc
        subst hc
        exact ⟨o7, q7, fun ws z => by rw [q8] at z; cases z⟩
      · exact ⟨o, (sb.2 c hc).trans e, hnf⟩
    have be7 : h7.get? b = some oe2 := (sb.2 b (noL he hd)).trans he
    have bT7 : h7.get? T = some oT := (sb.2 T (noL hT hdT)).trans hT
    have tr7 : HandSPX.TracedZ h7 B b (Zc cls d) (rawInt X.env.locals) := ⟨oe2, vs, T, oT, ts, be7, hz, hd, hv1, hnT, hTe, bT7, hdT, h3⟩
    unfold PySem.passOn
    refine wpAny_bind (wpAny_field be7 hd hv1 ?_)
    have some_T : ¬ ((Value.ref T == Value.none) = true) := by simp
    rw [if_neg some_T]
    have go : wpAny (model X.prog X.w) (X.A.mark (some (.ref a))) (setFlight (.ref b) X.env.frame) (fun _ s8 => wpAny (model X.prog X.w) (X.A.mark (some (.ref a))) (throw (.ref b) : Sem Flow) (fun _ _ => False) R s8) R { s3 with heap := h7, toks := s3.toks + 1 } := by
      rw [hf]
      refine HandSPX.setFlight_anyZ (s := { s3 with heap := h7, toks := s3.toks + 1 }) B7 F7 tr7 fun h8 B8 F8 tr8 up8 => wpAny_throw (hR _ _ (tk _ _ ?_))
      obtain ⟨G, k1, k2⟩ := restrict h7 fun c => (B.get? c).isSome || decide (c ∈ frs X.stack)
      have inB : ∀ c o, sI.heap.get? c = some o → ((B.get? c).isSome || decide (c ∈ frs X.stack)) = true := fun c o e => by
        by_cases hc : c ∈ frs X.stack
        · simp [hc]
        · have q := nb c o e hc
          rw [q]
          rfl
      have IG : Inv X pins (σ2.set i none) H2 { s3 with heap := G, toks := s3.toks + 1 } := by
        refine inv_hidden (S := fun c => ((B.get? c).isSome || decide (c ∈ frs X.stack)) = false) J7 (fun c hc => k1 c (by rcases Bool.eq_false_or_eq_true ((B.get? c).isSome || decide (c ∈ frs X.stack)) with q | q; exact q; exact absurd q hc)) (fun c hc => ?_) (fun c hc => ?_) ?_ (fun x c e hc => ?_) (fun p hp hc => ?_)
        · cases q : H2 c with
          | none => rfl
          | some o =>
            obtain ⟨ob, z⟩ := objOk_get (J0.hok c o q)
            rw [inB c ob z] at hc
            cases hc
        · cases q : X.s_0.heap.get? c with
          | none => rfl
          | some o =>
            by_cases hex : c ∈ X.ex
            · exact absurd hex (noEx c)
            · obtain ⟨ob, z⟩ := J0.base.there c o q hex
              rw [inB c ob z] at hc
              cases hc
        · have q : X.env.locals ∈ frs X.stack := by rw [hs]; exact hLf
          simp [q]
        · obtain ⟨v, oc, q1, q2⟩ := J0.cell x c e
          rw [inB c oc q1] at hc
          cases hc
        · have q := (J0.pin p hp).1
          rw [inB p.1 _ q] at hc
          cases hc
      refine ⟨b, B, { s3 with heap := G, toks := s3.toks + 1 }, pins, σ2.set i none, H2, cls, d, rfl, IG, fun c o e hc => ?_, fun c o e hnf => ?_, .inr (.inr ?_), na, rfl, ag, w2⟩
      · have e' : G.get? c = some o := e
        cases q : ((B.get? c).isSome || decide (c ∈ frs X.stack)) with
        | false =>
          rw [k2 c q] at e'
          cases e'
        | true =>
          rw [k1 c q] at e'
          cases z : B.get? c with
          | none =>
            rw [z] at q
            simp [hc] at q
          | some o' =>
            rw [B7 c o' z] at e'
            exact e'
      · have e' : G.get? c = some o := e
        cases q : ((B.get? c).isSome || decide (c ∈ frs X.stack)) with
        | false =>
          rw [k2 c q] at e'
          cases e'
        | true =>
          rw [k1 c q] at e'
          exact up8 c o e' hnf
      · rw [hs]
        exact ⟨B8, g2, F8, tr8⟩
    first
      | exact wpAny_bind (wpAny_pure (wpAny_bind go))
      | exact wpAny_bind go
  rcases sky' with ⟨hB, hn, hl, oe2, vs, he, hz, hd, h1⟩ | fl | hh
  · exact HandSPX.look_newZ Zc.steady hfr hl hf he hB hn hd h1 hz fin
  · exact HandSPX.looks_onZ (Z := Zc cls d) Zc.steady hfr hf fl fin
  · exact HandSPX.againZ hf hh.2.2.2 (fin s3.heap hh (Heap.UpToSlots.refl _))
end
end TfX
set_option Elab.async false
set_option linter.all false
set_option maxRecDepth 100000
set_option maxHeartbeats 3900000
/-! A try as one frame for all its clauses; an error that has landed; «except x as n» whose suite raises; «raise Y(..) from e». -/
namespace TfX
open PySem PySem.Spec PyProof.Rows L2 HotX L2H
/-! ### ends -/
section
variable {X Y : Cx} {pins pn : List (Addr × Obj)} {D : Ends} {f : Flow} {s : Shared}
theorem sp_move (k : ∀ σ H, Inv X pn σ H s → Inv Y pins σ H s) (z : SP X pn D f s) : SP Y pins D f s := by
  cases f with
  | ret u =>
    obtain ⟨v, σ, H, I, r, q⟩ := z
    exact ⟨v, σ, H, k σ H I, r, q⟩
  | _ =>
    obtain ⟨σ, H, I, q⟩ := z
    exact ⟨σ, H, k σ H I, q⟩
/-- the ends of a suite whose clause has a name at slot i -/
abbrev unnamed (i : Nat) (D : Ends) : Ends := { nx := fun σ H => D.nx (σ.set i none) H, rt := D.rt, bk := fun σ H => D.bk (σ.set i none) H, ct := fun σ H => D.ct (σ.set i none) H }
theorem sp_gone {M : Model} {A : Around} {E : Value → Shared → Prop} {i : Nat} {n : Str} {pos : Pos} (k : ∀ σ H, Inv X pn σ H s → Inv Y pins σ H s) (nd : Y.N.Nodup) (at_ : Y.N[i]? = some n) (lc : Y.env.kindOf n = some .local)
    (z : SP X pn (unnamed i D) f s) : wpAny M A (do bindName Y.env n .none; unbindBehindTheSuite Y.env n pos) (fun _ t => SP Y pins D f t) E s := by
  cases f with
  | ret u =>
    obtain ⟨v, σ, H, I, r, q⟩ := z
    exact gone_ok (k σ H I) nd at_ lc fun t J => ⟨v, _, H, J, r, q⟩
  | _ =>
    obtain ⟨σ, H, I, q⟩ := z
    exact gone_ok (k σ H I) nd at_ lc fun t J => ⟨_, H, J, q⟩
end
/-! ### the try -/
/-- what becomes of an error of the try's body -/
def Catches (X : Cx) (pins : List (Addr × Obj)) (D : Ends) (hds : List ExceptHandler) (u : Value) (s : Shared) : Prop :=
  wpAny (model X.prog X.w) X.A (noteFrame u X.env) (fun _ t => wpAny (model X.prog X.w) X.A (setFlight u none) (fun _ r => wpAny (model X.prog X.w) X.A (handleBy u X.env hds) (SP X pins D) X.xe r) X.xe t) X.xe s
theorem try_runs {X : Cx} {pins : List (Addr × Obj)} {σ : L2.St} {H : Hp} {s : Shared} {D : Ends} {h0 : ExceptHandler} {hds : List ExceptHandler} {body : List Stmt} {t : TS} {pos : Pos} (I : Inv X pins σ H s)
    (hb : PSs (X.tr (X.pn ++ pins) (Catches X pins D (h0 :: hds))) body t) (h : t D σ H) : wpAny (model X.prog X.w) X.A (exec (.Try body (h0 :: hds) [] [] pos) X.env) (SP X pins D) X.xe s := by
  refine wpAny_Try_except (wpAny_mono (hb.run [] s σ H D (I.toTry _) h) (fun f t z => ?_) fun _ _ z => z)
  have z' : SP X pins D f t := sp_move (fun _ _ J => J.ofTry I.ok) z
  cases f with
  | next => exact wpAny_execs_nil z'
  | _ => exact z'
/-- an error on the ground of X's frame; σ, H: the state without it -/
structure Landed (X : Cx) (pins : List (Addr × Obj)) (σ : L2.St) (H : Hp) (Z : Obj → Prop) (a : Addr) (s : Shared) : Prop where
  ex : ∃ (B : Heap) (r : Shared), Inv X pins σ H r ∧ (∀ b o, r.heap.get? b = some o → b ∉ frs X.stack → B.get? b = some o) ∧ r.heap.UpToSlots s.heap ∧ HandSPX.FlyingZ B (X.env :: X.outer) a Z s.heap ∧ s.os = r.os ∧ AllBare s.gens
  off : H a = none
section
variable {X : Cx} {pins : List (Addr × Obj)} {σ : L2.St} {H : Hp} {s : Shared} {Z : Obj → Prop} {a : Addr} {D : Ends} {cls : Value} {d : Option Addr}
theorem Landed.inv (L : Landed X pins σ H Z a s) : Inv X pins σ H s := by
  obtain ⟨B, r, J, nb, up, fl, os, ag⟩ := L.ex
  exact J.landed nb fl.1 up os ag
theorem Landed.imp {Z' : Obj → Prop} (L : Landed X pins σ H Z a s) (k : ∀ o, Z o → Z' o) : Landed X pins σ H Z' a s := by
  obtain ⟨B, r, J, nb, up, fl, os, ag⟩ := L.ex
  exact ⟨⟨B, r, J, nb, up, flyingZ_imp k fl, os, ag⟩, L.off⟩
theorem Landed.again {M : Model} {A : Around} {E : Value → Shared → Prop} {Q : Unit → Shared → Prop} (L : Landed X pins σ H Z a s) (go : ∀ t, Landed X pins σ H Z a t → Q () t) : wpAny M A (setFlight (.ref a) none) Q E s := by
  obtain ⟨B, r, J, nb, up, fl, os, ag⟩ := L.ex
  exact HandSPX.lands_againZ fl fun h' fl' up' => go _ ⟨⟨B, r, J, nb, up.trans up', fl', os, ag⟩, L.off⟩
/-- the error's object, and the state as its suite has it -/
theorem Landed.suite (hf : X.env.frame = some X.env.locals) (L : Landed X pins σ H Z a s) : ∃ oe vs, s.heap.get? a = some oe ∧ Z oe ∧ oe.data = .fields vs ∧ Inv (X.suite a ((a, oe) :: (X.pn ++ pins))) [] σ H s := by
  obtain ⟨B, r, _, _, _, fl, _, _⟩ := L.ex
  obtain ⟨oe, vs, e1, e2, e3⟩ := fl.there
  have noframe : ∀ L ∈ frs (X.env :: X.outer), a ≠ L := fun L hL e => by
    obtain ⟨_, o, q1, q2⟩ := fl.2.2.1.mem hL
    rw [← e, e1] at q1
    injection q1 with q1
    exact q2 vs (q1 ▸ e3)
  refine ⟨oe, vs, e1, e2, e3, L.inv.suite e1 e3 L.off (noframe _ ?_) fun z => ?_⟩
  · exact List.mem_filterMap.mpr ⟨_, List.mem_cons_self, hf⟩
  · obtain ⟨env, q1, q2⟩ := List.mem_filterMap.mp z
    exact noframe a (List.mem_filterMap.mpr ⟨env, List.mem_cons_of_mem _ q1, q2⟩) rfl
/-- a clause's class, looked up -/
theorem Landed.test (hf : X.env.frame = some X.env.locals) (L : Landed X pins σ H Z a s) {x : Str} {c : Value} {np : Pos} (nm : Names X x c) {Q : Value → Shared → Prop} {E : Value → Shared → Prop} (q : Q c s) :
    wpAny (model X.prog X.w) (X.A.mark (some (.ref a))) (eval (.Name x np) X.env) Q E s := by
  obtain ⟨oe, _, _, _, _, S⟩ := L.suite hf
  obtain ⟨g, nodb, way⟩ := nm
  cases way with
  | inl w => exact ld_glob (X := X.suite a _) S g w q nodb
  | inr w => exact ld_blt (X := X.suite a _) S g w.1 w.2.1 q w.2.2 nodb
theorem Landed.looks (L : Landed X pins σ H Z a s) (hz : ∀ o, Z o → o.cls = cls) {c : Value} {b : Bool} (m : PySem.W.exmOne X.K cls c = some b) : PySem.W.Looks (model X.prog X.w) s.heap (excMatches (.ref a) c) b := by
  obtain ⟨B, r, _, _, _, fl, _, _⟩ := L.ex
  obtain ⟨oe, vs, e1, e2, _⟩ := fl.there
  refine PySem.W.exm_one L.inv.kIn (fun A Q E t k q => wpAny_typeOf_ref (k _ _ e1) ?_) m
  rw [hz oe e2]
  exact q
/-- no clause takes it: out of the try -/
theorem Landed.out {W : WX} {Q : Flow → Shared → Prop} (hs : X.stack = X.env :: X.outer) (hf : X.env.frame = some X.env.locals) (tk : L2.Takes X W) (L : Landed X pins σ H (Zc cls d) a s) (w : W cls d σ H) :
    wpAny (model X.prog X.w) X.A (handleBy (.ref a) X.env []) Q X.xe s := by
  obtain ⟨B, r, J, nb, up, fl, os, ag⟩ := L.ex
  refine PySem.PX.no_clauseZ (B := B) (outer := X.outer) (Z := Zc cls d) hf fl fun h' held up' => tk _ _ ?_
  refine ⟨a, B, r, pins, σ, H, cls, d, rfl, J, nb, up.trans up', .inr (.inr ?_), L.off, os, ag, w⟩
  rw [hs]
  exact held
/-- the body's errors are caught: from the air to the ground -/
theorem lands {pn : List (Addr × Obj)} {B : Heap} {r : Shared} {hds : List ExceptHandler} (ok : X.Ok) (hs : X.stack = X.env :: X.outer) (hf : X.env.frame = some X.env.locals) (st : PXN.Steady1 Z) {xe : Value → Shared → Prop}
    (J : Inv (X.tr (X.pn ++ pins) xe) pn σ H r) (nb : ∀ b o, r.heap.get? b = some o → b ∉ frs X.stack → B.get? b = some o) (up : r.heap.UpToSlots s.heap) (sky : Sky B X.stack a Z X.env.locals s.heap) (off : H a = none) (os : s.os = r.os) (ag : AllBare s.gens)
    (go : ∀ t, Landed X pins σ H Z a t → wpAny (model X.prog X.w) X.A (handleBy (.ref a) X.env hds) (SP X pins D) X.xe t) : Catches X pins D hds (.ref a) s := by
  rw [hs] at sky
  exact L2N.Sky.land st (ok.frames.trans (congrArg some hs)) hf sky fun h' fl up' => go _ ⟨⟨B, r, J.ofTry ok, nb, up.trans up', fl, os, ag⟩, off⟩
end
section
variable {X : Cx} {x n : Str} {c : Value} {i : Nat} {body suite : List Stmt} {b0 : Stmt} {np pos pos' : Pos} {tb : WX → TS} {ts : Addr → Value → Option Addr → TS} {Wout : WX}
/-- try: body, except x as n: a suite that may raise -/
theorem ps_try_asR (hs : X.stack = X.env :: X.outer) (hf : X.env.frame = some X.env.locals) (noEx : ∀ c, c ∉ X.ex) (hN : X.N.Nodup) (hi : X.N[i]? = some n) (hln : X.env.kindOf n = some .local) (hc : Names X x c)
    (hpa : ∀ hd : Option Value, PassesOwnAt (model X.prog X.w) (X.A.mark hd) X.A X.env X.xe) (tk : L2.Takes X Wout)
    (hb : ∀ (W : WX) (pn : List (Addr × Obj)) (xe : Value → Shared → Prop), L2N.Takes (X.tr pn xe) W → PassesOwn (model X.prog X.w) X.A X.env xe → PSs (X.tr pn xe) body (tb W))
    (hsu : ∀ (a : Addr) (oe : Obj) (cls : Value) (d : Option Addr) (pn : List (Addr × Obj)) (xe : Value → Shared → Prop), L2N.Zn cls d oe → (∃ vs, oe.data = .fields vs) →
      L2.Takes (suiteR X a ((a, oe) :: pn) xe) (fun cls d σ H => Wout cls d (σ.set i none) H) → HotC (suiteR X a ((a, oe) :: pn) xe) → PSs (suiteR X a ((a, oe) :: pn) xe) (b0 :: suite) (ts a cls d)) :
    PS X (.Try body [.ExceptHandler (some (.Name x np)) (some n) (b0 :: suite) pos'] [] [] pos) (fun D σ H => tb (wAs X.K c i ts Wout D) D σ H) := by
  constructor
  intro pins s σ H D I h
  refine try_runs I (hb (wAs X.K c i ts Wout D) _ _ (fun u t air => ?_) PassesOwn.looking) h
  obtain ⟨a, B, r, pn, τ, G, cls, d, rfl, J, nb, up, sky, off, os, ag, b, is, yes, no⟩ := air
  refine lands I.ok hs hf L2N.Zn.steady J nb up sky off os ag fun t L => ?_
  refine wpAny_handleBy_cons (codeAny_handlers_test (L.test hf hc ((L.looks (fun _ z => z.1) is).here ?_))) (fun z => by cases z)
  cases b with
  | false => exact Landed.out hs hf tk (L.imp fun _ z => z.zc) (no rfl)
  | true =>
    refine codeAny_handlers_suite_as (L.again fun t1 L1 => ?_)
    obtain ⟨oe, vs, e1, e2, e3, S⟩ := L1.suite hf
    refine store_ok (X := X.suite a _) (v := .ref a) S hN hi (.inl hln) rfl (fun t2 S2 => ?_) (.inr hln)
    have hot : ∀ xe, HotC (suiteR X a ((a, oe) :: (X.pn ++ pins)) xe) := fun _ => ⟨(a, oe), ⟨rfl, vs, e3, e2.2.2 vs e3⟩, List.mem_cons_self⟩
    refine wpAny_mono ((hsu a oe cls d (X.pn ++ pins) _ e2 ⟨vs, e3⟩ (fun u t3 air => leaves_suite hs hf hN hi hln I.ok noEx tk (fun y t z => hpa (some (.ref a)) y t z) air) (hot _)).run [] t2 _ G _ (suiteR_of S2) (yes rfl a off)) (fun f t3 z => ?_) fun _ _ z => z
    exact sp_gone (fun _ _ K => unsuiteR K I.ok) hN hi hln z
end
/-! ### raise Y(..) from e -/
/-- the raised object behind «from c»: c is its cause, and its context is not shown -/
def causedBy (c : Value) (o : Obj) : Obj := (o.mapFields fun vs => vs.setIfInBounds 3 c).mapFields fun vs => vs.setIfInBounds 4 (.bool true)
def caused (h : Heap) (a : Addr) (c : Value) : Heap := (h.update a (Obj.mapFields fun vs => vs.setIfInBounds 3 c)).update a (Obj.mapFields fun vs => vs.setIfInBounds 4 (.bool true))
section
variable {h : Heap} {a b : Addr} {c : Value} {o : Obj} {vs : Array Value}
theorem causedBy_data (e : o.data = .fields vs) : (causedBy c o).data = .fields ((vs.setIfInBounds 3 c).setIfInBounds 4 (.bool true)) := Obj.data_mapFields (Obj.data_mapFields e _) _
theorem causedBy_cls : (causedBy c o).cls = o.cls := by
  unfold causedBy
  rw [Obj.cls_mapFields, Obj.cls_mapFields]
theorem causedBy_dict : (causedBy c o).dict = o.dict := by
  unfold causedBy
  rw [HandSPX.dict_mapFields, HandSPX.dict_mapFields]
theorem half_at (q : h.get? a = some o) (e : o.data = .fields vs) : (h.update a (Obj.mapFields fun vs => vs.setIfInBounds 3 c)).get? a = some (o.mapFields fun vs => vs.setIfInBounds 3 c) :=
  Heap.get?_update_self _ q (Obj.isFreed_of_fields (Obj.data_mapFields e _))
theorem caused_at (q : h.get? a = some o) (e : o.data = .fields vs) : (caused h a c).get? a = some (causedBy c o) :=
  Heap.get?_update_self _ (half_at q e) (Obj.isFreed_of_fields (causedBy_data e))
theorem caused_off (n : a ≠ b) : (caused h a c).get? b = h.get? b := (Heap.get?_update_other _ _ n).trans (Heap.get?_update_other _ _ n)
end
section
variable {prog : Program} {w : World} {A : Around} {E : Value → Shared → Prop} {s : Shared} {a : Addr} {o : Obj} {vs : Array Value} {cls : Value}
theorem no_type {Q : Bool → Shared → Prop} (q : s.heap.get? a = some o) (e : o.data = .fields vs) (go : Q false s) : wpAny (model prog w) A (isType (.ref a)) Q E s := by
  unfold isType loadHead
  refine wpAny_bind (wpAny_loadPart q ?_)
  rw [e]
  exact wpAny_pure go
theorem type_at (q : s.heap.get? a = some o) (ec : o.cls = cls) : PySem.W.Looks (model prog w) s.heap (typeOf (.ref a)) cls := fun _ _ _ _ k z => wpAny_typeOf_ref (k _ _ q) (ec ▸ z)
/-- an error stands for itself -/
theorem exc_itself {Q : Value → Shared → Prop} {why : String} (q : s.heap.get? a = some o) (e : o.data = .fields vs) (ec : o.cls = cls) (L : PySem.W.Looks (model prog w) s.heap (isSubtype cls (.type "BaseException")) true) (go : Q (.ref a) s) :
    wpAny (model prog w) A (excFromValue (.ref a) why) Q E s := by
  have inst : PySem.W.Looks (model prog w) s.heap (isInstance (.ref a) (.type "BaseException")) true := (type_at q ec).andThen L
  unfold excFromValue
  refine wpAny_bind ?_
  unfold isExcClass
  refine wpAny_bind (no_type q e ?_)
  refine wpAny_pure ?_
  exact wpAny_bind (inst.here (wpAny_pure go))
/-- an error of a class of class «type» may be raised as it is -/
theorem raised_itself {Q : Value → Shared → Prop} (q : s.heap.get? a = some o) (ec : o.cls = cls) (L : PySem.W.Looks (model prog w) s.heap (typeOf cls) (.type "type")) (go : Q (.ref a) s) : wpAny (model prog w) A (raisedInstance (.ref a)) Q E s := by
  unfold raisedInstance
  refine wpAny_bind ((type_at q ec).here (wpAny_bind (L.here ?_)))
  exact wpAny_pure go
/-- an error that no frame has noted: nothing is set -/
theorem no_flight {Q : Unit → Shared → Prop} (q : s.heap.get? a = some o) (e : o.data = .fields vs) (e1 : vs[1]? = some .none) (go : Q () s) : wpAny (model prog w) A (setFlight (.ref a) none) Q E s := by
  unfold setFlight
  exact wpAny_bind (wpAny_field q e e1 (wpAny_pure go))
theorem raise_from {env : Env} {x c : Sem Value} {Q : Flow → Shared → Prop} {x1 : Addr}
    (h : wpAny (model prog w) A x (fun v t => (∀ R : Value → Shared → Prop, R (.ref x1) t → wpAny (model prog w) A c R E t) ∧ ∃ a o vs cls c1 o1 v1, v = .ref a ∧ t.heap.get? a = some o ∧ o.cls = cls ∧ o.data = .fields vs ∧ vs[1]? = some .none ∧ 4 < vs.size ∧
      x1 ≠ a ∧ HotAt A x1 t.heap ∧ t.heap.get? x1 = some o1 ∧ o1.cls = c1 ∧ o1.data = .fields v1 ∧ PySem.W.Looks (model prog w) t.heap (isSubtype c1 (.type "BaseException")) true ∧ PySem.W.Looks (model prog w) t.heap (isSubtype cls (.type "BaseException")) true ∧
      PySem.W.Looks (model prog w) (caused t.heap a (.ref x1)) (typeOf cls) (.type "type") ∧ E (.ref a) { t with heap := (caused t.heap a (.ref x1)).update a (Obj.mapFields fun vs => vs.setIfInBounds 2 (.ref x1)) }) E s) : wpAny (model prog w) A (raiseStmt env (some x) (some c)) Q E s := by
  unfold raiseStmt
  refine wpAny_bind (thn h fun v t got => ?_)
  obtain ⟨cause, a, o, vs, cls, c1, o1, v1, rfl, q, ec, e, e1, big, apart, hot, q1, ec1, ed1, L1, L, T, out⟩ := got
  have big3 : 3 < vs.size := by omega
  have big4 : 4 < (vs.setIfInBounds 3 (.ref x1)).size := set_size.symm ▸ big
  have big2 : 2 < ((vs.setIfInBounds 3 (.ref x1)).setIfInBounds 4 (.bool true)).size := by
    rw [set_size, set_size]
    omega
  have hot' : HotAt A x1 (caused t.heap a (.ref x1)) := by
    obtain ⟨z1, z2, z3, z4, z5⟩ := hot
    exact ⟨z1, z2, z3, (caused_off (Ne.symm apart)).trans z4, z5⟩
  have q' := caused_at (c := .ref x1) q e
  have e' := causedBy_data (c := .ref x1) e
  refine wpAny_bind (wpAny_holding (cause _ (wpAny_bind (wpAny_pure ?_))))
  refine wpAny_bind (wpAny_holding (exc_itself q e ec L ?_))
  show wpAny _ _ (if (Value.ref x1 == Value.none) = true then _ else _) _ _ _
  have some_cause : ¬ ((Value.ref x1 == Value.none) = true) := by simp
  rw [if_neg some_cause]
  refine wpAny_bind (wpAny_holding (exc_itself q1 ed1 ec1 L1 ?_))
  refine wpAny_bind (wpAny_setField q e big3 (wpAny_bind (wpAny_setField (half_at q e) (Obj.data_mapFields e _) big4 ?_)))
  refine wpAny_bind (no_type q' e' ?_)
  refine wpAny_bind (raised_itself q' (causedBy_cls.trans ec) T ?_)
  refine wpAny_bind (no_flight q' e' (set_other (by decide) (set_other (by decide) e1)) ?_)
  exact raiseNew_hot hot' apart q' e' big2 out
/-- raise Y(..) from e, in e's own suite: i is e's slot, a the handled error -/
theorem ps_raiseHF {X : Cx} {W : WX} {ex : Expr} {t : L2.St → Hp → XK → Prop} {n : Str} {i : Nat} {cpos pos : Pos} {a : Addr} {oe : Obj} {cls : Value} {d : Option Addr} (hN : X.N[i]? = some n) (hv : X.env.scope.names.lookup n = some .local)
    (hh : X.A.handled = some (.ref a)) (hp : (a, oe) ∈ X.pn) (hz : L2N.Zn cls d oe) (hf : ∃ vs, oe.data = .fields vs) (tk : L2.Takes X W) (he : PMk5 X ex t) (hdb : (n == ("__debug__" : Str)) = false := by decide) :
    PS X (.Raise (some ex) (some (.Name n cpos)) pos) (fun _ σ H => σ[i]? = some (some (.ref a)) ∧ PySem.W.subIn X.K cls (.type "BaseException") = some true ∧ t σ H fun cls d H' => W cls d σ H') := by
  constructor
  rintro pins s σ H D I ⟨slot, sub, h⟩
  obtain ⟨fv, efv⟩ := hf
  show wpAny _ _ (do standAt pos; raiseStmt X.env (some (do let v ← eval ex X.env; standAt pos; pure v)) (some (do let v ← eval (.Name n cpos) X.env; standAt pos; pure v))) _ _ _
  refine wpAny_bind (wpAny_standAt (raise_from (x1 := a) (wpAny_bind (thn (he pins s σ H _ I h) fun u r made => wpAny_bind (wpAny_standAt (wpAny_pure ?_))))))
  obtain ⟨⟨b, ob, vs, r0, H1, cl, d1, rfl, J, keep, new, q, z, e, e1, off, os, ag, may, w⟩, six⟩ := made
  have J1 : Inv X pins σ H1 r := J.landed (B := r0.heap) (fun _ _ z _ => z) keep (Heap.UpToSlots.of_keeps keep) os ag
  have at_a : r0.heap.get? a = some oe := (J.pin (a, oe) (List.mem_append_left _ hp)).1
  have other : ∀ {c : Addr} {o : Obj}, r0.heap.get? c = some o → b ≠ c := fun {c o} z y => by
    rw [← y, new] at z
    cases z
  have keep' : ∀ c o, r0.heap.get? c = some o → (caused r.heap b (.ref a)).get? c = some o := fun c o z => (caused_off (other z)).trans (keep c o z)
  refine ⟨fun R go => ?_, b, ob, vs, cl, cls, oe, fv, rfl, q, z.1, e, e1, six b ob vs rfl q e, Ne.symm (other at_a), ⟨hh, oe, fv, keep _ _ at_a, efv, hz.2.2 fv efv⟩, keep _ _ at_a, hz.1, efv, PySem.W.looks_subIn (J.kIn.keeps keep) sub,
    (may _ _ (J.kIn.keeps keep)).1, (may _ _ (J.kIn.keeps keep')).2, tk _ _ ?_⟩
  · obtain ⟨m, names, see⟩ := J1.loc
    obtain ⟨u, ru, look⟩ := see i n (.ref a) hN slot (.inl hv)
    have eu : u = Value.ref a := ru
    subst eu
    have only : X.env.kindOf n = some .local := hv
    cases look with
    | inl l => exact wpAny_bind (wpAny_Name (wpAny_loadName_local J1.ok.kind l.1 names l.2 (wpAny_bind (wpAny_standAt (wpAny_pure go)))) hdb)
    | inr l =>
      rw [only] at l
      rcases l.1 with y | y <;> cases y
  · have fin := Obj.data_mapFields (causedBy_data (c := .ref a) e) fun vs => vs.setIfInBounds 2 (.ref a)
    refine XE.new J (fun c o y => ?_) new (Heap.get?_update_self _ (caused_at q e) (Obj.isFreed_of_fields fin)) ⟨?_, ?_⟩ fin (set_other (by decide) (set_other (by decide) (set_other (by decide) e1))) off os ag w
    · exact (Heap.get?_update_other _ _ (other y)).trans (keep' c o y)
    · rw [Obj.cls_mapFields, causedBy_cls]
      exact z.1
    · rw [HandSPX.dict_mapFields, causedBy_dict]
      exact z.2.1
end
end TfX
set_option Elab.async false
set_option linter.all false
set_option maxRecDepth 100000
set_option maxHeartbeats 3900000
/-! Several clauses, with and without a name; errors without fields made; objects made within a try. -/
namespace TfX
open PySem PySem.Spec PyProof.Rows L2 HotX L2H
/-- a clause: its class, its name's slot (if it has one), its suite -/
abbrev Cl := Value × Option Nat × (Addr → Value → Option Addr → TS)
def clauseDo (D : Ends) (o : Option Nat) (t : TS) (a : Addr) (σ : L2.St) (H : Hp) : Prop := match o with
  | none => t D σ H
  | some i => t (unnamed i D) (σ.set i (some (.ref a))) H
/-- what the clauses wish of an error: the first whose class it is of does its suite; of none: Wout -/
def wManyA (K : PySem.W.Frag) (Wout : WX) (D : Ends) : List Cl → WX
  | [] => Wout
  | (c, o, ts) :: r => fun cls d σ H => ∃ b, PySem.W.exmOne K cls c = some b ∧ (b = true → ∀ a, H a = none → clauseDo D o (ts a cls d) a σ H) ∧ (b = false → wManyA K Wout D r cls d σ H)
/-- a suite that lets nothing out -/
def Quiet (X : Cx) (b0 : Stmt) (suite : List Stmt) (ts : Addr → Value → Option Addr → TS) : Prop :=
  ∀ (a : Addr) (oe : Obj) (cls : Value) (d : Option Addr) (pn : List (Addr × Obj)), Zc cls d oe → (∃ vs, oe.data = .fields vs) → PSs (X.suite a ((a, oe) :: pn)) (b0 :: suite) (ts a cls d)
inductive HdsA (X : Cx) : List ExceptHandler → List Cl → Prop
  | nil : HdsA X [] []
  | cons {x : Str} {c : Value} {ts : Addr → Value → Option Addr → TS} {b0 : Stmt} {suite : List Stmt} {np pos' : Pos} {hds : List ExceptHandler} {l : List Cl} (hc : Names X x c) (hsu : Quiet X b0 suite ts) (r : HdsA X hds l) :
      HdsA X (.ExceptHandler (some (.Name x np)) none (b0 :: suite) pos' :: hds) ((c, none, ts) :: l)
  | as {x n : Str} {i : Nat} {c : Value} {ts : Addr → Value → Option Addr → TS} {b0 : Stmt} {suite : List Stmt} {np pos' : Pos} {hds : List ExceptHandler} {l : List Cl} (hc : Names X x c) (hi : X.N[i]? = some n) (hln : X.env.kindOf n = some .local)
      (hsu : Quiet X b0 suite ts) (r : HdsA X hds l) : HdsA X (.ExceptHandler (some (.Name x np)) (some n) (b0 :: suite) pos' :: hds) ((c, some i, ts) :: l)
section
variable {X : Cx} {pins : List (Addr × Obj)} {D : Ends} {Wout : WX}
/-- an error that has landed goes through the clauses -/
theorem Landed.clauses (hs : X.stack = X.env :: X.outer) (hf : X.env.frame = some X.env.locals) (nd : X.N.Nodup) (tk : L2.Takes X Wout) {a : Addr} {σ : L2.St} {H : Hp} {cls : Value} {d : Option Addr} {s : Shared} (L : Landed X pins σ H (Zc cls d) a s)
    {hds : List ExceptHandler} {l : List Cl} (hh : HdsA X hds l) : wManyA X.K Wout D l cls d σ H → wpAny (model X.prog X.w) X.A (handleBy (.ref a) X.env hds) (SP X pins D) X.xe s := by
  have isc : ∀ o, Zc cls d o → o.cls = cls := fun _ z => z.1
  obtain ⟨B, r, J, nb, up, fl, os, ag⟩ := id L.ex
  induction hh with
  | nil => exact fun w => Landed.out hs hf tk L w
  | cons nm quiet _ ih =>
    rintro ⟨b, is, yes, no⟩
    cases b with
    | false => exact PySem.PX.clause_passZ (B := B) (outer := X.outer) L.inv.kIn isc fl is (L.test hf nm) (ih (no rfl))
    | true =>
      refine PySem.PX.clause_onlyZ (B := B) (outer := X.outer) L.inv.kIn isc fl is (L.test hf nm) fun h' fl' up' => ?_
      have L' : Landed X pins σ H (Zc cls d) a { s with heap := h' } := ⟨⟨B, r, J, nb, up.trans up', fl', os, ag⟩, L.off⟩
      obtain ⟨oe, vs, _, z, e, S⟩ := L'.suite hf
      exact thn ((quiet a oe cls d _ z ⟨vs, e⟩).run [] _ σ H D S (yes rfl a L.off)) fun f t got => sp_move (fun _ _ K => K.unsuite L.inv.ok) got
  | as nm at_ lc quiet _ ih =>
    rintro ⟨b, is, yes, no⟩
    cases b with
    | false => exact PySem.PX.clause_passZ (B := B) (outer := X.outer) L.inv.kIn isc fl is (L.test hf nm) (ih (no rfl))
    | true =>
      refine PySem.PX.clause_asZ (B := B) (outer := X.outer) L.inv.kIn isc fl is (L.test hf nm) fun h' fl' up' => ?_
      have L' : Landed X pins σ H (Zc cls d) a { s with heap := h' } := ⟨⟨B, r, J, nb, up.trans up', fl', os, ag⟩, L.off⟩
      obtain ⟨oe, vs, _, z, e, S⟩ := L'.suite hf
      refine store_ok (X := X.suite a _) (v := .ref a) S nd at_ (.inl lc) rfl (fun t T => ?_) (.inr lc)
      exact thn ((quiet a oe cls d _ z ⟨vs, e⟩).run [] t _ H _ T (yes rfl a L.off)) fun f t' got => sp_gone (fun _ _ K => K.unsuite L.inv.ok) nd at_ lc got
theorem ps_try_manyA {body : List Stmt} {h0 : ExceptHandler} {hds : List ExceptHandler} {l : List Cl} {pos : Pos} {tb : WX → TS} (hs : X.stack = X.env :: X.outer) (hf : X.env.frame = some X.env.locals) (hN : X.N.Nodup) (tk : Takes X Wout)
    (hb : ∀ (W : WX) (pn : List (Addr × Obj)) (xe : Value → Shared → Prop), Takes (X.tr pn xe) W → PassesOwn (model X.prog X.w) X.A X.env xe → PSs (X.tr pn xe) body (tb W)) (hh : HdsA X (h0 :: hds) l) :
    PS X (.Try body (h0 :: hds) [] [] pos) (fun D σ H => tb (wManyA X.K Wout D l) D σ H) := by
  constructor
  intro pins s σ H D I h
  refine try_runs I (hb (wManyA X.K Wout D l) _ _ (fun u t air => ?_) PassesOwn.looking) h
  obtain ⟨a, B, r, pn, τ, G, cls, d, rfl, J, nb, up, sky, off, os, ag, w⟩ := air
  exact lands I.ok hs hf (fun o v z => Zc.steady o _ z) J nb up sky off os ag fun t L => L.clauses hs hf hN tk hh w
end
/-! ### errors made -/
theorem pmk_of {X : Cx} {e : Expr} {t : L2.St → Hp → XK → Prop} (h : L2N.PMk X e t) : L2.PMk X e t := fun pins s σ H Q I q => thn (h pins s σ H Q I q) fun _ _ got => by
  obtain ⟨a, o, vs, r, H1, cls, d, ea, J, keep, new, at_, z, rest⟩ := got
  exact ⟨a, o, vs, r, H1, cls, d, ea, J, keep, new, at_, z.zc, rest⟩
/-- an error class straight over Exception that says nothing of its own -/
structure Ox0 (K : PySem.W.Frag) (C : Addr) : Prop where
  bare : PySem.W.excIn K C PySem.ESX.exTail "Exception.__new__" = true
  kep : PySem.W.keepIn K (Value.ref C) = true
  err : PySem.W.subIn K (.ref C) (Value.type "BaseException") = some true
  met : PySem.W.typeIn K (.ref C) = some (Value.type "type")
/-- X() -/
theorem pmk_own0 {X : Cx} {C : Addr} {x : Str} {p pos : Pos} (T : Ox0 X.K C) (gC : X.mg x = some (.ref C)) (hg : Gl X x) (hdb : (x == ("__debug__" : Str)) = false := by decide) : L2.PMk X (.Call (.Name x p) [] [] pos) (fun _ H Q => Q (.ref C) none H) := by
  intro pins s σ H Q I h
  refine wpAny_Call_Name_kw (ld_glob I hg gC (PySem.W.callWith_K0 I.kIn T.kep ?_) hdb)
  obtain ⟨_, _, _, _, _, _, _, _, _, _, _, _, _, _, _, _, _, atC, atN, noinit, tail⟩ := exc_obj I.kIn T.bare
  show wpAny _ _ (call (.ref C) []) _ _ _
  exact wpAny_call_exc_subT PySem.F.excBase_Exception tail atC atN noinit (fun h' e made => mk_of I made (raises_own T.err T.met) h (I.hok.gone made.new)) (Nat.zero_le sizeLine)
/-! ### an object made within a try: what its __init__ lets out is wished for at the slots as they stand -/
section
variable {X : Cx} {CX : CXT} {k : Nat} {f C : Addr} {fd : FuncData} {ps : List Str} {sp : Sp} {E : L2.St → XK}
def tMakeS (C : Addr) (sp : Sp) (E : L2.St → XK) (t : TA) : TE := fun σ H Q => t σ H fun vs H1 => ∀ x dx, H1 x = none → H1 dx = none → dx ≠ x →
  sp (.ref x :: vs) (upd (upd H1 dx (.own x)) x (.ins C dx [])) (fun v H2 => v = .non ∧ Q (.ref x) H2) (E σ)
theorem run_makeS (M : Mk X.K C f) (F : FnOk X.prog X.w X.K X.mg X.base CX k f fd ps sp) (hr : Room (k + 1) X.A) (hb : Binds X.K fd ps []) {pins : List (Addr × Obj)} {σ : L2.St} {H : Hp} {s : Shared} {us : List Value} {vs : List V} {Q : VK}
    (hx : PassesAt CX X σ (E σ)) (I : Inv X pins σ H s) (rel : Vals vs us) (ask : ∀ x dx, H x = none → H dx = none → dx ≠ x → sp (.ref x :: vs) (upd (upd H dx (.own x)) x (.ins C dx [])) (fun v H2 => v = .non ∧ Q (.ref x) H2) (E σ)) : wpAny (model X.prog X.w) X.A (call (.ref C) us) (EP X pins σ Q) X.xe s := by
  have made := I.made (C := C)
  have ask1 := ask _ _ (I.hok.fresh (Nat.le_succ _)) (I.hok.fresh (Nat.le_refl s.heap.objs.size)) (Nat.ne_of_lt (Nat.lt_succ_self _))
  have rel1 : Vals (V.ref (s.heap.objs.size + 1) :: vs) (.ref (s.heap.objs.size + 1) :: us) := .cons rfl rel
  have bound := hb _ (.ref (s.heap.objs.size + 1) :: us) made.kIn (by rw [List.append_nil]; exact rel1.length.symm.trans (F.len _ _ _ _ ask1))
  rw [List.append_nil] at bound
  refine wpAny_call (make_map (f := f) I.kIn M.makes M.init (beq_iff_eq.mp M.fn) (codeAny_mono (F.run _ X.stack _ _ _ _ _ _ (E σ) (hr.make C us []) (made.env0.make C us []) bound rel1 ask1) fun r t got => ?_))
  match r, got with
  | .error er, got => exact hx pins _ _ er t made got
  | .ok (.ret v), got =>
    obtain ⟨y, H2, J, ry, rfl, q⟩ := made.after got
    exact ⟨ry, .ref (s.heap.objs.size + 1), H2, J, rfl, q⟩
theorem pe_makeS {x : Str} {p pos : Pos} {e : Expr} {es : List Expr} {t : TA} (M : Mk X.K C f) (F : FnOk X.prog X.w X.K X.mg X.base CX k f fd ps sp) (hr : Room (k + 1) X.A) (hg : Gl X x) (hm : X.mg x = some (.ref C)) (hb : Binds X.K fd ps [])
    (hx : ∀ σ, PassesAt CX X σ (E σ)) (ha : PA X (e :: es) t) (hdb : (x == ("__debug__" : Str)) = false := by decide) (he : starEach (e :: es) X.env = (false, eval e X.env) :: starEach es X.env := by rfl)
    (hpl : (backTo pos (starEach es X.env)).any (·.1) = false := by rfl) : PE X (.Call (.Name x p) (e :: es) [] pos) (tMakeS C sp E t) := by
  constructor
  intro pins s σ H Q I h
  refine wpAny_Call_Name_kw (ld_glob I hg hm (PySem.W.callWith_K (h₀ := X.base) I.ok.mod.kin M.kp (thn (ha.run pos pins s σ H _ I h) fun us r got => ?_) he hpl) hdb)
  obtain ⟨vs, H1, I1, rel, ask⟩ := got
  exact ⟨I1.kIn, run_makeS M F hr hb (hx σ) I1 rel ask⟩
end
/-- a def without defaults, called while an error is handled -/
theorem FunD.okH {P : Program} {w : World} {K : PySem.W.Frag} {mg : Str → Option Value} {base : Heap} {x qual : Str} {params : Arguments} {body : List Stmt} {scope : Scope} {dvs : List V} {kws : List (Str × V)} {f : Addr} {fd : FuncData}
    {CX : CXT} {N ps : List Str} {k : Nat} {sp : Sp} (F : FunD K x qual params body scope dvs kws f fd) (S : FnScope N ps scope) (len : ∀ vs H Q E, sp vs H Q E → vs.length = ps.length)
    (hbody : ∀ (cdv : Value) (A : Around) (outer : List Env) (s : Shared) (H : Hp) (vs : List V) (Q : VK) (E : XK) (p : Addr × Obj), RoomH k (A.deeper (envOfC qual scope s.heap.objs.size f cdv)) → sp vs H Q E →
      ∃ t, PSs (cxH CX P w K mg base N qual scope f cdv A outer s H E p) body t ∧ t { nx := fun _ H' => Q .non H', rt := Q } (L2.start N vs) H) : FnH P w K mg base CX (k + 1) f fd ps sp := by
  obtain ⟨_, _, _, _, _, _, _, code, _, _, rfl, row, isCode, _⟩ := F.ex
  exact fn_ofH row isCode S len fun A outer s H vs Q E p _ room ask => hbody code A outer s H vs Q E p room ask
/-- a promise that nobody asks -/
theorem FnOk.vacuous {P : Program} {w : World} {K : PySem.W.Frag} {mg : Str → Option Value} {base : Heap} {CX : CXT} {k : Nat} {f : Addr} {fd : FuncData} {ps : List Str} : FnOk P w K mg base CX k f fd ps (fun _ _ _ _ => False) :=
  ⟨fun _ _ _ _ h => h.elim, fun _ _ _ _ _ _ _ _ _ _ _ _ _ h => h.elim⟩
end TfX
set_option Elab.async false
set_option linter.all false
set_option maxRecDepth 100000
set_option maxHeartbeats 3900000
/-! min of a list of tuples of ints. -/
namespace TfX
open PySem PySem.Spec PyProof.Rows L2
theorem lex_irr : ∀ x : List Int, HT.lexLt x x = false
  | [] => rfl
  | a :: r => by
    rw [HT.lexLt_cons, if_pos rfl]
    exact lex_irr r
theorem lex_tr : ∀ {x y z : List Int}, HT.lexLt x y = true → HT.lexLt y z = true → HT.lexLt x z = true
  | [], [], z, h, _ => by cases h
  | [], b :: y, [], _, h => by cases h
  | [], b :: y, c :: z, _, _ => rfl
  | a :: x, [], z, h, _ => by cases h
  | a :: x, b :: y, [], _, h => by cases h
  | a :: x, b :: y, c :: z, h1, h2 => by
    rw [HT.lexLt_cons] at h1 h2 ⊢
    by_cases e1 : a = b
    · subst e1
      rw [if_pos rfl] at h1
      by_cases e2 : a = c
      · subst e2
        rw [if_pos rfl] at h2 ⊢
        exact lex_tr h1 h2
      · rw [if_neg e2] at h2 ⊢
        exact h2
    · rw [if_neg e1] at h1
      have l1 : a < b := of_decide_eq_true h1
      by_cases e2 : b = c
      · subst e2
        rw [if_neg e1]
        exact h1
      · rw [if_neg e2] at h2
        have l2 : b < c := of_decide_eq_true h2
        rw [if_neg (by omega)]
        exact decide_eq_true (by omega)
theorem best_min (ks : Nat → List Int) : ∀ k, argBest (fun i j => HT.lexLt (ks i) (ks j)) k ≤ k ∧ ∀ j, j ≤ k → HT.lexLt (ks j) (ks (argBest (fun i j => HT.lexLt (ks i) (ks j)) k)) = false
  | 0 => ⟨Nat.le_refl _, fun j hj => by
    have e : j = 0 := by omega
    subst e
    exact lex_irr _⟩
  | k + 1 => by
    obtain ⟨h1, h2⟩ := best_min ks k
    unfold argBest
    cases hb : HT.lexLt (ks (k + 1)) (ks (argBest (fun i j => HT.lexLt (ks i) (ks j)) k)) with
    | true =>
      rw [if_pos rfl]
      refine ⟨Nat.le_refl _, fun j hj => ?_⟩
      rcases Nat.lt_or_ge k j with h3 | h3
      · have e : j = k + 1 := by omega
        subst e
        exact lex_irr _
      · cases hc : HT.lexLt (ks j) (ks (k + 1)) with
        | false => rfl
        | true =>
          have z := lex_tr hc hb
          rw [h2 j h3] at z
          cases z
    | false =>
      rw [if_neg Bool.false_ne_true]
      refine ⟨by omega, fun j hj => ?_⟩
      rcases Nat.lt_or_ge k j with h3 | h3
      · have e : j = k + 1 := by omega
        subst e
        exact hb
      · exact h2 j h3
def rMinT (K : PySem.W.Frag) : List V → Hp → VK → Prop := fun vs H Q => ∃ (a : Addr) (ys : List V) (ks : Nat → List Int), vs = [V.ref a] ∧ SqL K H a ys ∧ (∀ i v, ys[i]? = some v → ∃ t, v = .ref t ∧ SqT K H t ((ks i).map V.int)) ∧ 0 < ys.length ∧
  ∀ j v, ys[j]? = some v → (∀ i, i < ys.length → HT.lexLt (ks i) (ks j) = false) → Q v H
theorem cr_minT {X : Cx} {k : Nat} (hr : Room k X.A) : CallR X (.builtin "min") (rMinT X.K) := by
  intro pins s σ H vs us Q I r h
  obtain ⟨a, ys, ks, rfl, hs, ht, hne, q⟩ := h
  obtain ⟨its, rv, hl, _⟩ := I.list hs
  rw [Vals.ref1 r]
  have hlen : its.toArray.size = ys.length := by rw [List.size_toArray, ← rv.length]
  refine call_min_walkH (PySem.W.iter_listW (A := X.A.in1) hr.hd hl.isList fun s₂ e W st hfp hw hk => ?_)
  refine ⟨_, _, _, _, _, _, _, s.heap, fun i j => HT.lexLt (ks i) (ks j), rfl, W, st, hfp, by omega, hw, hk, ?_, fun v s' hP m => ?_⟩
  · intro i j vi vj s3 Q3 E3 kp hi hj hq
    have key : ∀ (i : Nat) (vi : Value), its.toArray[i]? = some vi → ∃ (t : Addr) (ws : List Value), vi = .ref t ∧ IsTup s.heap t ws.toArray ∧ IntsAre ws.toArray.toList (ks i) := fun i vi hi => by
      have hi' : its[i]? = some vi := by simpa using hi
      have hlt : i < ys.length := by
        obtain ⟨z, _⟩ := List.getElem?_eq_some_iff.mp hi'
        rw [rv.length]
        exact z
      obtain ⟨t, ey, st⟩ := ht i _ (List.getElem?_eq_getElem hlt)
      obtain ⟨u, hu, ru⟩ := rv.get (List.getElem?_eq_getElem hlt)
      rw [hi'] at hu
      cases hu
      rw [ey] at ru
      obtain ⟨ws, rw', p1, _⟩ := I.tuple st
      exact ⟨t, ws, ru, p1, intsAre_of rw'⟩
    obtain ⟨t1, w1, rfl, p1, i1⟩ := key i vi hi
    obtain ⟨t2, w2, rfl, p2, i2⟩ := key j vj hj
    have kt : ∀ {t : Addr} {w : Array Value}, IsTup s.heap t w → IsTup s3.heap t w := fun {t w} p => by
      obtain ⟨o, e1, r1⟩ := p
      exact ⟨o, kp _ _ e1, r1⟩
    exact HT.lt_tupInts (kt p1) (kt p2) i1 i2 (by have := hr.un; show X.A.units + 1 < _; omega) hq
  · obtain ⟨h', tk, rfl, hk'⟩ := PySem.W.moved_old e rfl m
    obtain ⟨b1, b2⟩ := best_min ks (its.toArray.size - 1)
    have hP' : its[argBest (fun i j => HT.lexLt (ks i) (ks j)) (its.toArray.size - 1)]? = some v := by simpa using hP
    have hlt : argBest (fun i j => HT.lexLt (ks i) (ks j)) (its.toArray.size - 1) < ys.length := by
      obtain ⟨z, _⟩ := List.getElem?_eq_some_iff.mp hP'
      rw [rv.length]
      exact z
    obtain ⟨u, hu, ru⟩ := rv.get (List.getElem?_eq_getElem hlt)
    rw [hP'] at hu
    cases hu
    exact ⟨_, H, I.kept hk', ru, q _ _ (List.getElem?_eq_getElem hlt) fun i hi => b2 i (by omega)⟩
end TfX
set_option Elab.async false
set_option linter.all false
set_option maxRecDepth 100000
set_option maxHeartbeats 2000000
/-! What the program's top has written, as one structure. -/
namespace TfX
open PySem PySem.Spec PyProof.Rows L2
theorem oxSl_ok {l : List (Option Value)} (h : oxSl l = true) : ∃ a b c d e, l = [a, b, c, d, some (.builtin "Exception.__new__"), e] := by
  unfold oxSl at h
  split at h
  · rename_i a b c d n e
    have en : n = "Exception.__new__" := eq_of_beq h
    subst en
    exact ⟨a, b, c, d, e, rfl⟩
  · cases h
theorem oxO_ok {C : Addr} {o : Obj} (h : oxO C o = true) : ∃ nm qn ns bs sn sb ab cl dd s0 s1 s2 s3 s5, o = excClassObj nm qn C ns bs PySem.ESX.exTail true sn sb ab cl dd s0 s1 s2 s3 s5 "Exception.__new__" := by
  unfold oxO at h
  split at h
  · rename_i t od cd sl
    obtain ⟨sl⟩ := sl
    rw [Bool.and_eq_true, Bool.and_eq_true] at h
    obtain ⟨h1, h2, h3⟩ := h
    unfold oxCd at h2
    rw [Bool.and_eq_true, Bool.and_eq_true, Bool.not_eq_true'] at h2
    obtain ⟨h4, h5, h6⟩ := h2
    obtain ⟨s0, s1, s2, s3, s5, h3⟩ := oxSl_ok h3
    have h3 : sl = _ := h3
    obtain ⟨nm, bs, mr, ns, qn, di, sn, sb, ab, cl, de⟩ := cd
    have e1 : t = "type" := eq_of_beq h1
    have e2 : mr = Value.ref C :: PySem.ESX.exTail := eq_of_beq h4
    have e3 : di = true := h5
    have e4 : de = false := h6
    rw [e1, e2, e3, e4, h3]
    exact ⟨nm, qn, ns, bs, sn, sb, ab, cl, od, s0, s1, s2, s3, s5, rfl⟩
  · cases h
theorem oxB_ok {K : PySem.W.Frag} {C : Addr} (h : oxB K C = true) : ∃ nm qn ns bs sn sb ab cl dd s0 s1 s2 s3 s5, K.lookup C = some (excClassObj nm qn C ns bs PySem.ESX.exTail true sn sb ab cl dd s0 s1 s2 s3 s5 "Exception.__new__") := by
  unfold oxB at h
  split at h
  · rename_i o at_
    obtain ⟨nm, qn, ns, bs, sn, sb, ab, cl, dd, s0, s1, s2, s3, s5, e⟩ := oxO_ok h
    exact ⟨nm, qn, ns, bs, sn, sb, ab, cl, dd, s0, s1, s2, s3, s5, at_.trans (congrArg some e)⟩
  · cases h
theorem oxeB_ok {K : PySem.W.Frag} {C : Addr} (h : oxeB K C = true) : OxE K C := by
  simp only [oxeB, Bool.and_eq_true, decide_eq_true_eq] at h
  exact ⟨oxB_ok h.1, h.2.1, h.2.2.1, h.2.2.2.1, h.2.2.2.2⟩
theorem ox0B_ok {K : PySem.W.Frag} {C : Addr} (h : ox0B K C = true) : Ox0 K C := by
  simp only [ox0B, Bool.and_eq_true, decide_eq_true_eq] at h
  exact ⟨h.1, h.2.1, h.2.2.1, h.2.2.2⟩
end TfX
namespace Tf
open PySem PySem.Spec PyProof.Rows L2 TfX
abbrev a_GrammarFault_init (K : PySem.W.Frag) : Addr := He.fAd K ("GrammarFault", some "__init__")
abbrev a_TextFault_init (K : PySem.W.Frag) : Addr := He.fAd K ("TextFault", some "__init__")
abbrev a_LineFault_init (K : PySem.W.Frag) : Addr := He.fAd K ("LineFault", some "__init__")
abbrev a_Position_init (K : PySem.W.Frag) : Addr := He.fAd K ("Position", some "__init__")
abbrev a_may_stand (K : PySem.W.Frag) : Addr := He.fAd K ("may_stand", none)
abbrev a_on_edge (K : PySem.W.Frag) : Addr := He.fAd K ("on_edge", none)
abbrev a_is_digit (K : PySem.W.Frag) : Addr := He.fAd K ("is_digit", none)
abbrev a_is_letter (K : PySem.W.Frag) : Addr := He.fAd K ("is_letter", none)
abbrev a_leads_to (K : PySem.W.Frag) : Addr := He.fAd K ("leads_to", none)
abbrev a_Reader_init (K : PySem.W.Frag) : Addr := He.fAd K ("Reader", some "__init__")
abbrev a_Reader_sign (K : PySem.W.Frag) : Addr := He.fAd K ("Reader", some "sign")
abbrev a_Reader_go_on (K : PySem.W.Frag) : Addr := He.fAd K ("Reader", some "go_on")
abbrev a_Reader_word (K : PySem.W.Frag) : Addr := He.fAd K ("Reader", some "word")
abbrev a_Reader_choice (K : PySem.W.Frag) : Addr := He.fAd K ("Reader", some "choice")
abbrev a_Reader_number (K : PySem.W.Frag) : Addr := He.fAd K ("Reader", some "number")
abbrev a_Reader_finish (K : PySem.W.Frag) : Addr := He.fAd K ("Reader", some "finish")
abbrev a_RulesText_init (K : PySem.W.Frag) : Addr := He.fAd K ("RulesText", some "__init__")
abbrev a_read_name (K : PySem.W.Frag) : Addr := He.fAd K ("read_name", none)
abbrev a_read_rows (K : PySem.W.Frag) : Addr := He.fAd K ("read_rows", none)
abbrev a_ground_list (K : PySem.W.Frag) : Addr := He.fAd K ("ground_list", none)
abbrev a_cells_with (K : PySem.W.Frag) : Addr := He.fAd K ("cells_with", none)
abbrev a_second_faults (K : PySem.W.Frag) : Addr := He.fAd K ("second_faults", none)
abbrev a_may_start (K : PySem.W.Frag) : Addr := He.fAd K ("may_start", none)
abbrev a_start_faults (K : PySem.W.Frag) : Addr := He.fAd K ("start_faults", none)
abbrev a_goal_faults (K : PySem.W.Frag) : Addr := He.fAd K ("goal_faults", none)
abbrev a_missing_faults (K : PySem.W.Frag) : Addr := He.fAd K ("missing_faults", none)
abbrev a_read_rules (K : PySem.W.Frag) : Addr := He.fAd K ("read_rules", none)
abbrev a_Hall_init (K : PySem.W.Frag) : Addr := He.fAd K ("Hall", some "__init__")
abbrev a_enmity_of (K : PySem.W.Frag) : Addr := He.fAd K ("enmity_of", none)
abbrev a_is_goal (K : PySem.W.Frag) : Addr := He.fAd K ("is_goal", none)
abbrev a_ray (K : PySem.W.Frag) : Addr := He.fAd K ("ray", none)
abbrev a_way (K : PySem.W.Frag) : Addr := He.fAd K ("way", none)
abbrev a_king_way (K : PySem.W.Frag) : Addr := He.fAd K ("king_way", none)
abbrev a_Line_init (K : PySem.W.Frag) : Addr := He.fAd K ("Line", some "__init__")
abbrev a_Line_read_row (K : PySem.W.Frag) : Addr := He.fAd K ("Line", some "read_row")
abbrev a_Line_piece_signs (K : PySem.W.Frag) : Addr := He.fAd K ("Line", some "piece_signs")
abbrev a_read_position (K : PySem.W.Frag) : Addr := He.fAd K ("read_position", none)
abbrev a_Made_init (K : PySem.W.Frag) : Addr := He.fAd K ("Made", some "__init__")
abbrev a_reach (K : PySem.W.Frag) : Addr := He.fAd K ("reach", none)
abbrev a_is_of (K : PySem.W.Frag) : Addr := He.fAd K ("is_of", none)
abbrev a_king_is_gone (K : PySem.W.Frag) : Addr := He.fAd K ("king_is_gone", none)
abbrev a_moves (K : PySem.W.Frag) : Addr := He.fAd K ("moves", none)
abbrev a_can_move (K : PySem.W.Frag) : Addr := He.fAd K ("can_move", none)
abbrev a_over (K : PySem.W.Frag) : Addr := He.fAd K ("over", none)
abbrev a_against (K : PySem.W.Frag) : Addr := He.fAd K ("against", none)
abbrev a_closes_on_hunter (K : PySem.W.Frag) : Addr := He.fAd K ("closes_on_hunter", none)
abbrev a_closes_on_man (K : PySem.W.Frag) : Addr := He.fAd K ("closes_on_man", none)
abbrev a_king_surrounded (K : PySem.W.Frag) : Addr := He.fAd K ("king_surrounded", none)
abbrev a_taken_by_hunter (K : PySem.W.Frag) : Addr := He.fAd K ("taken_by_hunter", none)
abbrev a_taken_by_kings_side (K : PySem.W.Frag) : Addr := He.fAd K ("taken_by_kings_side", none)
abbrev a_make (K : PySem.W.Frag) : Addr := He.fAd K ("make", none)
abbrev a_Found_init (K : PySem.W.Frag) : Addr := He.fAd K ("Found", some "__init__")
abbrev a_weighed (K : PySem.W.Frag) : Addr := He.fAd K ("weighed", none)
abbrev a_end_worth (K : PySem.W.Frag) : Addr := He.fAd K ("end_worth", none)
abbrev a_better (K : PySem.W.Frag) : Addr := He.fAd K ("better", none)
abbrev a_first_best (K : PySem.W.Frag) : Addr := He.fAd K ("first_best", none)
abbrev a_Search_init (K : PySem.W.Frag) : Addr := He.fAd K ("Search", some "__init__")
abbrev a_Search_look (K : PySem.W.Frag) : Addr := He.fAd K ("Search", some "look")
abbrev a_Search_look_by_each (K : PySem.W.Frag) : Addr := He.fAd K ("Search", some "look_by_each")
abbrev a_Looker_init (K : PySem.W.Frag) : Addr := He.fAd K ("Looker", some "__init__")
abbrev a_Looker_take_rules (K : PySem.W.Frag) : Addr := He.fAd K ("Looker", some "take_rules")
abbrev a_Looker_weigh (K : PySem.W.Frag) : Addr := He.fAd K ("Looker", some "weigh")
abbrev a_Looker_look_ahead (K : PySem.W.Frag) : Addr := He.fAd K ("Looker", some "look_ahead")
abbrev a_Looker_look_by_each_move (K : PySem.W.Frag) : Addr := He.fAd K ("Looker", some "look_by_each_move")
abbrev a_Looker_told_position (K : PySem.W.Frag) : Addr := He.fAd K ("Looker", some "told_position")
abbrev a_Looker_new_search (K : PySem.W.Frag) : Addr := He.fAd K ("Looker", some "new_search")
abbrev a_check_bounds (K : PySem.W.Frag) : Addr := He.fAd K ("check_bounds", none)
abbrev a_answer_call (K : PySem.W.Frag) : Addr := He.fAd K ("answer_call", none)
abbrev a_answer_or_refuse (K : PySem.W.Frag) : Addr := He.fAd K ("answer_or_refuse", none)
abbrev a_answers (K : PySem.W.Frag) : Addr := He.fAd K ("answers", none)
structure Txt (K : PySem.W.Frag) (mg : Str → Option Value) : Type where
  fd_GrammarFault_init : FuncData
  F_GrammarFault_init : FunD K "__init__" "GrammarFault.__init__" (defArgs s_GrammarFault_init) (defBody s_GrammarFault_init) (defScope s_GrammarFault_init) [] [] (a_GrammarFault_init K) fd_GrammarFault_init
  fd_TextFault_init : FuncData
  F_TextFault_init : FunD K "__init__" "TextFault.__init__" (defArgs s_TextFault_init) (defBody s_TextFault_init) (defScope s_TextFault_init) [] [] (a_TextFault_init K) fd_TextFault_init
  fd_LineFault_init : FuncData
  F_LineFault_init : FunD K "__init__" "LineFault.__init__" (defArgs s_LineFault_init) (defBody s_LineFault_init) (defScope s_LineFault_init) [] [] (a_LineFault_init K) fd_LineFault_init
  fd_Position_init : FuncData
  F_Position_init : FunD K "__init__" "Position.__init__" (defArgs s_Position_init) (defBody s_Position_init) (defScope s_Position_init) [] [] (a_Position_init K) fd_Position_init
  fd_may_stand : FuncData
  F_may_stand : FunD K "may_stand" "may_stand" (defArgs s_may_stand) (defBody s_may_stand) (defScope s_may_stand) [] [] (a_may_stand K) fd_may_stand
  g_may_stand : mg "may_stand" = some (.ref (a_may_stand K))
  fd_on_edge : FuncData
  F_on_edge : FunD K "on_edge" "on_edge" (defArgs s_on_edge) (defBody s_on_edge) (defScope s_on_edge) [] [] (a_on_edge K) fd_on_edge
  g_on_edge : mg "on_edge" = some (.ref (a_on_edge K))
  fd_is_digit : FuncData
  F_is_digit : FunD K "is_digit" "is_digit" (defArgs s_is_digit) (defBody s_is_digit) (defScope s_is_digit) [] [] (a_is_digit K) fd_is_digit
  g_is_digit : mg "is_digit" = some (.ref (a_is_digit K))
  fd_is_letter : FuncData
  F_is_letter : FunD K "is_letter" "is_letter" (defArgs s_is_letter) (defBody s_is_letter) (defScope s_is_letter) [] [] (a_is_letter K) fd_is_letter
  g_is_letter : mg "is_letter" = some (.ref (a_is_letter K))
  fd_leads_to : FuncData
  F_leads_to : FunD K "leads_to" "leads_to" (defArgs s_leads_to) (defBody s_leads_to) (defScope s_leads_to) [] [] (a_leads_to K) fd_leads_to
  g_leads_to : mg "leads_to" = some (.ref (a_leads_to K))
  fd_Reader_init : FuncData
  F_Reader_init : FunD K "__init__" "Reader.__init__" (defArgs s_Reader_init) (defBody s_Reader_init) (defScope s_Reader_init) [] [] (a_Reader_init K) fd_Reader_init
  fd_Reader_sign : FuncData
  F_Reader_sign : FunD K "sign" "Reader.sign" (defArgs s_Reader_sign) (defBody s_Reader_sign) (defScope s_Reader_sign) [] [] (a_Reader_sign K) fd_Reader_sign
  fd_Reader_go_on : FuncData
  F_Reader_go_on : FunD K "go_on" "Reader.go_on" (defArgs s_Reader_go_on) (defBody s_Reader_go_on) (defScope s_Reader_go_on) [] [] (a_Reader_go_on K) fd_Reader_go_on
  fd_Reader_word : FuncData
  F_Reader_word : FunD K "word" "Reader.word" (defArgs s_Reader_word) (defBody s_Reader_word) (defScope s_Reader_word) [] [] (a_Reader_word K) fd_Reader_word
  fd_Reader_choice : FuncData
  F_Reader_choice : FunD K "choice" "Reader.choice" (defArgs s_Reader_choice) (defBody s_Reader_choice) (defScope s_Reader_choice) [] [] (a_Reader_choice K) fd_Reader_choice
  fd_Reader_number : FuncData
  F_Reader_number : FunD K "number" "Reader.number" (defArgs s_Reader_number) (defBody s_Reader_number) (defScope s_Reader_number) [] [] (a_Reader_number K) fd_Reader_number
  fd_Reader_finish : FuncData
  F_Reader_finish : FunD K "finish" "Reader.finish" (defArgs s_Reader_finish) (defBody s_Reader_finish) (defScope s_Reader_finish) [] [] (a_Reader_finish K) fd_Reader_finish
  fd_RulesText_init : FuncData
  F_RulesText_init : FunD K "__init__" "RulesText.__init__" (defArgs s_RulesText_init) (defBody s_RulesText_init) (defScope s_RulesText_init) [] [] (a_RulesText_init K) fd_RulesText_init
  fd_read_name : FuncData
  F_read_name : FunD K "read_name" "read_name" (defArgs s_read_name) (defBody s_read_name) (defScope s_read_name) [] [] (a_read_name K) fd_read_name
  g_read_name : mg "read_name" = some (.ref (a_read_name K))
  fd_read_rows : FuncData
  F_read_rows : FunD K "read_rows" "read_rows" (defArgs s_read_rows) (defBody s_read_rows) (defScope s_read_rows) [] [] (a_read_rows K) fd_read_rows
  g_read_rows : mg "read_rows" = some (.ref (a_read_rows K))
  fd_ground_list : FuncData
  F_ground_list : FunD K "ground_list" "ground_list" (defArgs s_ground_list) (defBody s_ground_list) (defScope s_ground_list) [] [] (a_ground_list K) fd_ground_list
  g_ground_list : mg "ground_list" = some (.ref (a_ground_list K))
  fd_cells_with : FuncData
  F_cells_with : FunD K "cells_with" "cells_with" (defArgs s_cells_with) (defBody s_cells_with) (defScope s_cells_with) [] [] (a_cells_with K) fd_cells_with
  g_cells_with : mg "cells_with" = some (.ref (a_cells_with K))
  fd_second_faults : FuncData
  F_second_faults : FunD K "second_faults" "second_faults" (defArgs s_second_faults) (defBody s_second_faults) (defScope s_second_faults) [] [] (a_second_faults K) fd_second_faults
  g_second_faults : mg "second_faults" = some (.ref (a_second_faults K))
  fd_may_start : FuncData
  F_may_start : FunD K "may_start" "may_start" (defArgs s_may_start) (defBody s_may_start) (defScope s_may_start) [] [] (a_may_start K) fd_may_start
  g_may_start : mg "may_start" = some (.ref (a_may_start K))
  fd_start_faults : FuncData
  F_start_faults : FunD K "start_faults" "start_faults" (defArgs s_start_faults) (defBody s_start_faults) (defScope s_start_faults) [] [] (a_start_faults K) fd_start_faults
  g_start_faults : mg "start_faults" = some (.ref (a_start_faults K))
  fd_goal_faults : FuncData
  F_goal_faults : FunD K "goal_faults" "goal_faults" (defArgs s_goal_faults) (defBody s_goal_faults) (defScope s_goal_faults) [] [] (a_goal_faults K) fd_goal_faults
  g_goal_faults : mg "goal_faults" = some (.ref (a_goal_faults K))
  fd_missing_faults : FuncData
  F_missing_faults : FunD K "missing_faults" "missing_faults" (defArgs s_missing_faults) (defBody s_missing_faults) (defScope s_missing_faults) [] [] (a_missing_faults K) fd_missing_faults
  g_missing_faults : mg "missing_faults" = some (.ref (a_missing_faults K))
  fd_read_rules : FuncData
  F_read_rules : FunD K "read_rules" "read_rules" (defArgs s_read_rules) (defBody s_read_rules) (defScope s_read_rules) [] [] (a_read_rules K) fd_read_rules
  g_read_rules : mg "read_rules" = some (.ref (a_read_rules K))
  fd_Hall_init : FuncData
  F_Hall_init : FunD K "__init__" "Hall.__init__" (defArgs s_Hall_init) (defBody s_Hall_init) (defScope s_Hall_init) [] [] (a_Hall_init K) fd_Hall_init
  fd_enmity_of : FuncData
  F_enmity_of : FunD K "enmity_of" "enmity_of" (defArgs s_enmity_of) (defBody s_enmity_of) (defScope s_enmity_of) [] [] (a_enmity_of K) fd_enmity_of
  g_enmity_of : mg "enmity_of" = some (.ref (a_enmity_of K))
  fd_is_goal : FuncData
  F_is_goal : FunD K "is_goal" "is_goal" (defArgs s_is_goal) (defBody s_is_goal) (defScope s_is_goal) [] [] (a_is_goal K) fd_is_goal
  g_is_goal : mg "is_goal" = some (.ref (a_is_goal K))
  fd_ray : FuncData
  F_ray : FunD K "ray" "ray" (defArgs s_ray) (defBody s_ray) (defScope s_ray) [] [] (a_ray K) fd_ray
  g_ray : mg "ray" = some (.ref (a_ray K))
  fd_way : FuncData
  F_way : FunD K "way" "way" (defArgs s_way) (defBody s_way) (defScope s_way) [] [] (a_way K) fd_way
  g_way : mg "way" = some (.ref (a_way K))
  fd_king_way : FuncData
  F_king_way : FunD K "king_way" "king_way" (defArgs s_king_way) (defBody s_king_way) (defScope s_king_way) [] [] (a_king_way K) fd_king_way
  g_king_way : mg "king_way" = some (.ref (a_king_way K))
  fd_Line_init : FuncData
  F_Line_init : FunD K "__init__" "Line.__init__" (defArgs s_Line_init) (defBody s_Line_init) (defScope s_Line_init) [] [] (a_Line_init K) fd_Line_init
  fd_Line_read_row : FuncData
  F_Line_read_row : FunD K "read_row" "Line.read_row" (defArgs s_Line_read_row) (defBody s_Line_read_row) (defScope s_Line_read_row) [] [] (a_Line_read_row K) fd_Line_read_row
  fd_Line_piece_signs : FuncData
  F_Line_piece_signs : FunD K "piece_signs" "Line.piece_signs" (defArgs s_Line_piece_signs) (defBody s_Line_piece_signs) (defScope s_Line_piece_signs) [] [] (a_Line_piece_signs K) fd_Line_piece_signs
  fd_read_position : FuncData
  F_read_position : FunD K "read_position" "read_position" (defArgs s_read_position) (defBody s_read_position) (defScope s_read_position) [] [] (a_read_position K) fd_read_position
  g_read_position : mg "read_position" = some (.ref (a_read_position K))
  fd_Made_init : FuncData
  F_Made_init : FunD K "__init__" "Made.__init__" (defArgs s_Made_init) (defBody s_Made_init) (defScope s_Made_init) [] [] (a_Made_init K) fd_Made_init
  fd_reach : FuncData
  F_reach : FunD K "reach" "reach" (defArgs s_reach) (defBody s_reach) (defScope s_reach) [] [] (a_reach K) fd_reach
  g_reach : mg "reach" = some (.ref (a_reach K))
  fd_is_of : FuncData
  F_is_of : FunD K "is_of" "is_of" (defArgs s_is_of) (defBody s_is_of) (defScope s_is_of) [] [] (a_is_of K) fd_is_of
  g_is_of : mg "is_of" = some (.ref (a_is_of K))
  fd_king_is_gone : FuncData
  F_king_is_gone : FunD K "king_is_gone" "king_is_gone" (defArgs s_king_is_gone) (defBody s_king_is_gone) (defScope s_king_is_gone) [] [] (a_king_is_gone K) fd_king_is_gone
  g_king_is_gone : mg "king_is_gone" = some (.ref (a_king_is_gone K))
  fd_moves : FuncData
  F_moves : FunD K "moves" "moves" (defArgs s_moves) (defBody s_moves) (defScope s_moves) [] [] (a_moves K) fd_moves
  g_moves : mg "moves" = some (.ref (a_moves K))
  fd_can_move : FuncData
  F_can_move : FunD K "can_move" "can_move" (defArgs s_can_move) (defBody s_can_move) (defScope s_can_move) [] [] (a_can_move K) fd_can_move
  g_can_move : mg "can_move" = some (.ref (a_can_move K))
  fd_over : FuncData
  F_over : FunD K "over" "over" (defArgs s_over) (defBody s_over) (defScope s_over) [] [] (a_over K) fd_over
  g_over : mg "over" = some (.ref (a_over K))
  fd_against : FuncData
  F_against : FunD K "against" "against" (defArgs s_against) (defBody s_against) (defScope s_against) [] [] (a_against K) fd_against
  g_against : mg "against" = some (.ref (a_against K))
  fd_closes_on_hunter : FuncData
  F_closes_on_hunter : FunD K "closes_on_hunter" "closes_on_hunter" (defArgs s_closes_on_hunter) (defBody s_closes_on_hunter) (defScope s_closes_on_hunter) [] [] (a_closes_on_hunter K) fd_closes_on_hunter
  g_closes_on_hunter : mg "closes_on_hunter" = some (.ref (a_closes_on_hunter K))
  fd_closes_on_man : FuncData
  F_closes_on_man : FunD K "closes_on_man" "closes_on_man" (defArgs s_closes_on_man) (defBody s_closes_on_man) (defScope s_closes_on_man) [] [] (a_closes_on_man K) fd_closes_on_man
  g_closes_on_man : mg "closes_on_man" = some (.ref (a_closes_on_man K))
  fd_king_surrounded : FuncData
  F_king_surrounded : FunD K "king_surrounded" "king_surrounded" (defArgs s_king_surrounded) (defBody s_king_surrounded) (defScope s_king_surrounded) [] [] (a_king_surrounded K) fd_king_surrounded
  g_king_surrounded : mg "king_surrounded" = some (.ref (a_king_surrounded K))
  fd_taken_by_hunter : FuncData
  F_taken_by_hunter : FunD K "taken_by_hunter" "taken_by_hunter" (defArgs s_taken_by_hunter) (defBody s_taken_by_hunter) (defScope s_taken_by_hunter) [] [] (a_taken_by_hunter K) fd_taken_by_hunter
  g_taken_by_hunter : mg "taken_by_hunter" = some (.ref (a_taken_by_hunter K))
  fd_taken_by_kings_side : FuncData
  F_taken_by_kings_side : FunD K "taken_by_kings_side" "taken_by_kings_side" (defArgs s_taken_by_kings_side) (defBody s_taken_by_kings_side) (defScope s_taken_by_kings_side) [] [] (a_taken_by_kings_side K) fd_taken_by_kings_side
  g_taken_by_kings_side : mg "taken_by_kings_side" = some (.ref (a_taken_by_kings_side K))
  fd_make : FuncData
  F_make : FunD K "make" "make" (defArgs s_make) (defBody s_make) (defScope s_make) [] [] (a_make K) fd_make
  g_make : mg "make" = some (.ref (a_make K))
  fd_Found_init : FuncData
  F_Found_init : FunD K "__init__" "Found.__init__" (defArgs s_Found_init) (defBody s_Found_init) (defScope s_Found_init) [] [] (a_Found_init K) fd_Found_init
  fd_weighed : FuncData
  F_weighed : FunD K "weighed" "weighed" (defArgs s_weighed) (defBody s_weighed) (defScope s_weighed) [] [] (a_weighed K) fd_weighed
  g_weighed : mg "weighed" = some (.ref (a_weighed K))
  fd_end_worth : FuncData
  F_end_worth : FunD K "end_worth" "end_worth" (defArgs s_end_worth) (defBody s_end_worth) (defScope s_end_worth) [] [] (a_end_worth K) fd_end_worth
  g_end_worth : mg "end_worth" = some (.ref (a_end_worth K))
  fd_better : FuncData
  F_better : FunD K "better" "better" (defArgs s_better) (defBody s_better) (defScope s_better) [] [] (a_better K) fd_better
  g_better : mg "better" = some (.ref (a_better K))
  fd_first_best : FuncData
  F_first_best : FunD K "first_best" "first_best" (defArgs s_first_best) (defBody s_first_best) (defScope s_first_best) [] [] (a_first_best K) fd_first_best
  g_first_best : mg "first_best" = some (.ref (a_first_best K))
  fd_Search_init : FuncData
  F_Search_init : FunD K "__init__" "Search.__init__" (defArgs s_Search_init) (defBody s_Search_init) (defScope s_Search_init) [] [] (a_Search_init K) fd_Search_init
  fd_Search_look : FuncData
  F_Search_look : FunD K "look" "Search.look" (defArgs s_Search_look) (defBody s_Search_look) (defScope s_Search_look) [] [] (a_Search_look K) fd_Search_look
  fd_Search_look_by_each : FuncData
  F_Search_look_by_each : FunD K "look_by_each" "Search.look_by_each" (defArgs s_Search_look_by_each) (defBody s_Search_look_by_each) (defScope s_Search_look_by_each) [] [] (a_Search_look_by_each K) fd_Search_look_by_each
  fd_Looker_init : FuncData
  F_Looker_init : FunD K "__init__" "Looker.__init__" (defArgs s_Looker_init) (defBody s_Looker_init) (defScope s_Looker_init) [] [] (a_Looker_init K) fd_Looker_init
  fd_Looker_take_rules : FuncData
  F_Looker_take_rules : FunD K "take_rules" "Looker.take_rules" (defArgs s_Looker_take_rules) (defBody s_Looker_take_rules) (defScope s_Looker_take_rules) [] [] (a_Looker_take_rules K) fd_Looker_take_rules
  fd_Looker_weigh : FuncData
  F_Looker_weigh : FunD K "weigh" "Looker.weigh" (defArgs s_Looker_weigh) (defBody s_Looker_weigh) (defScope s_Looker_weigh) [] [] (a_Looker_weigh K) fd_Looker_weigh
  fd_Looker_look_ahead : FuncData
  F_Looker_look_ahead : FunD K "look_ahead" "Looker.look_ahead" (defArgs s_Looker_look_ahead) (defBody s_Looker_look_ahead) (defScope s_Looker_look_ahead) [] [] (a_Looker_look_ahead K) fd_Looker_look_ahead
  fd_Looker_look_by_each_move : FuncData
  F_Looker_look_by_each_move : FunD K "look_by_each_move" "Looker.look_by_each_move" (defArgs s_Looker_look_by_each_move) (defBody s_Looker_look_by_each_move) (defScope s_Looker_look_by_each_move) [] [] (a_Looker_look_by_each_move K) fd_Looker_look_by_each_move
  fd_Looker_told_position : FuncData
  F_Looker_told_position : FunD K "told_position" "Looker.told_position" (defArgs s_Looker_told_position) (defBody s_Looker_told_position) (defScope s_Looker_told_position) [] [] (a_Looker_told_position K) fd_Looker_told_position
  fd_Looker_new_search : FuncData
  F_Looker_new_search : FunD K "new_search" "Looker.new_search" (defArgs s_Looker_new_search) (defBody s_Looker_new_search) (defScope s_Looker_new_search) [] [] (a_Looker_new_search K) fd_Looker_new_search
  fd_check_bounds : FuncData
  F_check_bounds : FunD K "check_bounds" "check_bounds" (defArgs s_check_bounds) (defBody s_check_bounds) (defScope s_check_bounds) [] [] (a_check_bounds K) fd_check_bounds
  g_check_bounds : mg "check_bounds" = some (.ref (a_check_bounds K))
  fd_answer_call : FuncData
  F_answer_call : FunD K "answer_call" "answer_call" (defArgs s_answer_call) (defBody s_answer_call) (defScope s_answer_call) [] [] (a_answer_call K) fd_answer_call
  g_answer_call : mg "answer_call" = some (.ref (a_answer_call K))
  fd_answer_or_refuse : FuncData
  F_answer_or_refuse : FunD K "answer_or_refuse" "answer_or_refuse" (defArgs s_answer_or_refuse) (defBody s_answer_or_refuse) (defScope s_answer_or_refuse) [] [] (a_answer_or_refuse K) fd_answer_or_refuse
  g_answer_or_refuse : mg "answer_or_refuse" = some (.ref (a_answer_or_refuse K))
  fd_answers : FuncData
  F_answers : FunD K "answers" "answers" (defArgs s_answers) (defBody s_answers) (defScope s_answers) [] [] (a_answers K) fd_answers
  g_answers : mg "answers" = some (.ref (a_answers K))
  gc_GrammarFault : mg "GrammarFault" = some (.ref (c_GrammarFault K))
  gc_TextFault : mg "TextFault" = some (.ref (c_TextFault K))
  gc_LineFault : mg "LineFault" = some (.ref (c_LineFault K))
  gc_NoRules : mg "NoRules" = some (.ref (c_NoRules K))
  gc_WeightFault : mg "WeightFault" = some (.ref (c_WeightFault K))
  gc_BoundsFault : mg "BoundsFault" = some (.ref (c_BoundsFault K))
  gc_TooManyMoves : mg "TooManyMoves" = some (.ref (c_TooManyMoves K))
  gc_Position : mg "Position" = some (.ref (c_Position K))
  gc_Reader : mg "Reader" = some (.ref (c_Reader K))
  gc_RulesText : mg "RulesText" = some (.ref (c_RulesText K))
  gc_Hall : mg "Hall" = some (.ref (c_Hall K))
  gc_Line : mg "Line" = some (.ref (c_Line K))
  gc_Made : mg "Made" = some (.ref (c_Made K))
  gc_Found : mg "Found" = some (.ref (c_Found K))
  gc_Search : mg "Search" = some (.ref (c_Search K))
  gc_Looker : mg "Looker" = some (.ref (c_Looker K))
  cl_Position : Cls K (c_Position K)
  mk_Position : Mk K (c_Position K) (a_Position_init K)
  na_Position_board : NoAttr K (c_Position K) "board"
  na_Position_king : NoAttr K (c_Position K) "king"
  na_Position_turn : NoAttr K (c_Position K) "turn"
  cl_Reader : Cls K (c_Reader K)
  mk_Reader : Mk K (c_Reader K) (a_Reader_init K)
  na_Reader_text : NoAttr K (c_Reader K) "text"
  na_Reader_place : NoAttr K (c_Reader K) "place"
  mt_Reader_sign : Meth K (c_Reader K) "sign" (a_Reader_sign K)
  mt_Reader_go_on : Meth K (c_Reader K) "go_on" (a_Reader_go_on K)
  mt_Reader_word : Meth K (c_Reader K) "word" (a_Reader_word K)
  mt_Reader_choice : Meth K (c_Reader K) "choice" (a_Reader_choice K)
  mt_Reader_number : Meth K (c_Reader K) "number" (a_Reader_number K)
  mt_Reader_finish : Meth K (c_Reader K) "finish" (a_Reader_finish K)
  cl_RulesText : Cls K (c_RulesText K)
  mk_RulesText : Mk K (c_RulesText K) (a_RulesText_init K)
  na_RulesText_wide : NoAttr K (c_RulesText K) "wide"
  na_RulesText_high : NoAttr K (c_RulesText K) "high"
  na_RulesText_ground : NoAttr K (c_RulesText K) "ground"
  na_RulesText_start : NoAttr K (c_RulesText K) "start"
  na_RulesText_slides : NoAttr K (c_RulesText K) "slides"
  na_RulesText_armed : NoAttr K (c_RulesText K) "armed"
  na_RulesText_four : NoAttr K (c_RulesText K) "four"
  na_RulesText_passed : NoAttr K (c_RulesText K) "passed"
  na_RulesText_seat_enmity : NoAttr K (c_RulesText K) "seat_enmity"
  na_RulesText_exits_enmity : NoAttr K (c_RulesText K) "exits_enmity"
  na_RulesText_goal_place : NoAttr K (c_RulesText K) "goal_place"
  na_RulesText_goal : NoAttr K (c_RulesText K) "goal"
  na_RulesText_length : NoAttr K (c_RulesText K) "length"
  cl_Hall : Cls K (c_Hall K)
  mk_Hall : Mk K (c_Hall K) (a_Hall_init K)
  na_Hall_wide : NoAttr K (c_Hall K) "wide"
  na_Hall_high : NoAttr K (c_Hall K) "high"
  na_Hall_armed : NoAttr K (c_Hall K) "armed"
  na_Hall_four : NoAttr K (c_Hall K) "four"
  na_Hall_cells : NoAttr K (c_Hall K) "cells"
  na_Hall_ground : NoAttr K (c_Hall K) "ground"
  na_Hall_seat : NoAttr K (c_Hall K) "seat"
  na_Hall_enmity : NoAttr K (c_Hall K) "enmity"
  na_Hall_goals : NoAttr K (c_Hall K) "goals"
  na_Hall_beside : NoAttr K (c_Hall K) "beside"
  na_Hall_pairs : NoAttr K (c_Hall K) "pairs"
  na_Hall_ways : NoAttr K (c_Hall K) "ways"
  na_Hall_king_ways : NoAttr K (c_Hall K) "king_ways"
  cl_Line : Cls K (c_Line K)
  mk_Line : Mk K (c_Line K) (a_Line_init K)
  na_Line_pieces : NoAttr K (c_Line K) "pieces"
  na_Line_turn : NoAttr K (c_Line K) "turn"
  mt_Line_read_row : Meth K (c_Line K) "read_row" (a_Line_read_row K)
  mt_Line_piece_signs : Meth K (c_Line K) "piece_signs" (a_Line_piece_signs K)
  cl_Made : Cls K (c_Made K)
  mk_Made : Mk K (c_Made K) (a_Made_init K)
  na_Made_position : NoAttr K (c_Made K) "position"
  na_Made_taken : NoAttr K (c_Made K) "taken"
  cl_Found : Cls K (c_Found K)
  mk_Found : Mk K (c_Found K) (a_Found_init K)
  na_Found_over_by : NoAttr K (c_Found K) "over_by"
  na_Found_worth : NoAttr K (c_Found K) "worth"
  na_Found_row : NoAttr K (c_Found K) "row"
  cl_Search : Cls K (c_Search K)
  mk_Search : Mk K (c_Search K) (a_Search_init K)
  na_Search_hall : NoAttr K (c_Search K) "hall"
  na_Search_weights : NoAttr K (c_Search K) "weights"
  na_Search_left : NoAttr K (c_Search K) "left"
  mt_Search_look : Meth K (c_Search K) "look" (a_Search_look K)
  mt_Search_look_by_each : Meth K (c_Search K) "look_by_each" (a_Search_look_by_each K)
  cl_Looker : Cls K (c_Looker K)
  mk_Looker : Mk K (c_Looker K) (a_Looker_init K)
  na_Looker_hall : NoAttr K (c_Looker K) "hall"
  mt_Looker_take_rules : Meth K (c_Looker K) "take_rules" (a_Looker_take_rules K)
  mt_Looker_weigh : Meth K (c_Looker K) "weigh" (a_Looker_weigh K)
  mt_Looker_look_ahead : Meth K (c_Looker K) "look_ahead" (a_Looker_look_ahead K)
  mt_Looker_look_by_each_move : Meth K (c_Looker K) "look_by_each_move" (a_Looker_look_by_each_move K)
  mt_Looker_told_position : Meth K (c_Looker K) "told_position" (a_Looker_told_position K)
  mt_Looker_new_search : Meth K (c_Looker K) "new_search" (a_Looker_new_search K)
  x_GrammarFault : OxE K (c_GrammarFault K)
  i_GrammarFault : PySem.W.findIn K (.ref (c_GrammarFault K)) "__init__" = some (some (.ref (a_GrammarFault_init K)))
  ti_GrammarFault : PySem.W.typeIn K (.ref (a_GrammarFault_init K)) = some (.type "function")
  xf_GrammarFault : XfC K (c_GrammarFault K)
  nf_GrammarFault_place : PySem.W.findIn K (.ref (c_GrammarFault K)) "place" = some none
  x_TextFault : OxE K (c_TextFault K)
  i_TextFault : PySem.W.findIn K (.ref (c_TextFault K)) "__init__" = some (some (.ref (a_TextFault_init K)))
  ti_TextFault : PySem.W.typeIn K (.ref (a_TextFault_init K)) = some (.type "function")
  xf_TextFault : XfC K (c_TextFault K)
  nf_TextFault_kind : PySem.W.findIn K (.ref (c_TextFault K)) "kind" = some none
  nf_TextFault_place : PySem.W.findIn K (.ref (c_TextFault K)) "place" = some none
  x_LineFault : OxE K (c_LineFault K)
  i_LineFault : PySem.W.findIn K (.ref (c_LineFault K)) "__init__" = some (some (.ref (a_LineFault_init K)))
  ti_LineFault : PySem.W.typeIn K (.ref (a_LineFault_init K)) = some (.type "function")
  xf_LineFault : XfC K (c_LineFault K)
  nf_LineFault_kind : PySem.W.findIn K (.ref (c_LineFault K)) "kind" = some none
  nf_LineFault_place : PySem.W.findIn K (.ref (c_LineFault K)) "place" = some none
  y_NoRules : Ox0 K (c_NoRules K)
  y_WeightFault : Ox0 K (c_WeightFault K)
  y_BoundsFault : Ox0 K (c_BoundsFault K)
  y_TooManyMoves : Ox0 K (c_TooManyMoves K)
  e_GrammarFault_GrammarFault : PySem.W.exmOne K (.ref (c_GrammarFault K)) (.ref (c_GrammarFault K)) = some true
  e_TextFault_TextFault : PySem.W.exmOne K (.ref (c_TextFault K)) (.ref (c_TextFault K)) = some true
  e_LineFault_TextFault : PySem.W.exmOne K (.ref (c_LineFault K)) (.ref (c_TextFault K)) = some false
  e_LineFault_LineFault : PySem.W.exmOne K (.ref (c_LineFault K)) (.ref (c_LineFault K)) = some true
  e_NoRules_TextFault : PySem.W.exmOne K (.ref (c_NoRules K)) (.ref (c_TextFault K)) = some false
  e_NoRules_LineFault : PySem.W.exmOne K (.ref (c_NoRules K)) (.ref (c_LineFault K)) = some false
  e_NoRules_NoRules : PySem.W.exmOne K (.ref (c_NoRules K)) (.ref (c_NoRules K)) = some true
  e_WeightFault_TextFault : PySem.W.exmOne K (.ref (c_WeightFault K)) (.ref (c_TextFault K)) = some false
  e_WeightFault_LineFault : PySem.W.exmOne K (.ref (c_WeightFault K)) (.ref (c_LineFault K)) = some false
  e_WeightFault_NoRules : PySem.W.exmOne K (.ref (c_WeightFault K)) (.ref (c_NoRules K)) = some false
  e_WeightFault_WeightFault : PySem.W.exmOne K (.ref (c_WeightFault K)) (.ref (c_WeightFault K)) = some true
  e_BoundsFault_TextFault : PySem.W.exmOne K (.ref (c_BoundsFault K)) (.ref (c_TextFault K)) = some false
  e_BoundsFault_LineFault : PySem.W.exmOne K (.ref (c_BoundsFault K)) (.ref (c_LineFault K)) = some false
  e_BoundsFault_NoRules : PySem.W.exmOne K (.ref (c_BoundsFault K)) (.ref (c_NoRules K)) = some false
  e_BoundsFault_WeightFault : PySem.W.exmOne K (.ref (c_BoundsFault K)) (.ref (c_WeightFault K)) = some false
  e_BoundsFault_BoundsFault : PySem.W.exmOne K (.ref (c_BoundsFault K)) (.ref (c_BoundsFault K)) = some true
  e_TooManyMoves_TextFault : PySem.W.exmOne K (.ref (c_TooManyMoves K)) (.ref (c_TextFault K)) = some false
  e_TooManyMoves_LineFault : PySem.W.exmOne K (.ref (c_TooManyMoves K)) (.ref (c_LineFault K)) = some false
  e_TooManyMoves_NoRules : PySem.W.exmOne K (.ref (c_TooManyMoves K)) (.ref (c_NoRules K)) = some false
  e_TooManyMoves_WeightFault : PySem.W.exmOne K (.ref (c_TooManyMoves K)) (.ref (c_WeightFault K)) = some false
  e_TooManyMoves_BoundsFault : PySem.W.exmOne K (.ref (c_TooManyMoves K)) (.ref (c_BoundsFault K)) = some false
  e_TooManyMoves_TooManyMoves : PySem.W.exmOne K (.ref (c_TooManyMoves K)) (.ref (c_TooManyMoves K)) = some true
  tk_ACROSS : Tok
  c_ACROSS : mg "ACROSS" = some (.int 13 tk_ACROSS)
  tk_CELLS : Tok
  c_CELLS : mg "CELLS" = some (.int 169 tk_CELLS)
  tk_PLAIN : Tok
  c_PLAIN : mg "PLAIN" = some (.int 0 tk_PLAIN)
  tk_SEAT : Tok
  c_SEAT : mg "SEAT" = some (.int 1 tk_SEAT)
  tk_EXIT : Tok
  c_EXIT : mg "EXIT" = some (.int 2 tk_EXIT)
  tk_WALL : Tok
  c_WALL : mg "WALL" = some (.int 3 tk_WALL)
  tk_NOBODY : Tok
  c_NOBODY : mg "NOBODY" = some (.int 0 tk_NOBODY)
  tk_HUNTER : Tok
  c_HUNTER : mg "HUNTER" = some (.int 1 tk_HUNTER)
  tk_MAN : Tok
  c_MAN : mg "MAN" = some (.int 2 tk_MAN)
  tk_KING : Tok
  c_KING : mg "KING" = some (.int 3 tk_KING)
  tk_HUNTERS_TURN : Tok
  c_HUNTERS_TURN : mg "HUNTERS_TURN" = some (.int 0 tk_HUNTERS_TURN)
  tk_KINGS_TURN : Tok
  c_KINGS_TURN : mg "KINGS_TURN" = some (.int 1 tk_KINGS_TURN)
  tk_NOWHERE : Tok
  c_NOWHERE : mg "NOWHERE" = some (.int 169 tk_NOWHERE)
  tk_END : Tok
  c_END : mg "END" = some (.int 256 tk_END)
  tk_GOAL_EXITS : Tok
  c_GOAL_EXITS : mg "GOAL_EXITS" = some (.int 1 tk_GOAL_EXITS)
  tk_QUIET : Tok
  c_QUIET : mg "QUIET" = some (.int 0 tk_QUIET)
  tk_LONGEST_NAME : Tok
  c_LONGEST_NAME : mg "LONGEST_NAME" = some (.int 16 tk_LONGEST_NAME)
  tk_GOING_ON : Tok
  c_GOING_ON : mg "GOING_ON" = some (.int 0 tk_GOING_ON)
  tk_KING_TAKEN : Tok
  c_KING_TAKEN : mg "KING_TAKEN" = some (.int 1 tk_KING_TAKEN)
  tk_KING_AT_GOAL : Tok
  c_KING_AT_GOAL : mg "KING_AT_GOAL" = some (.int 2 tk_KING_AT_GOAL)
  tk_NO_MOVE : Tok
  c_NO_MOVE : mg "NO_MOVE" = some (.int 3 tk_NO_MOVE)
  tk_WON : Tok
  c_WON : mg "WON" = some (.int 1000000 tk_WON)
  tk_RULES : Tok
  c_RULES : mg "RULES" = some (.int 0 tk_RULES)
  tk_WEIGH : Tok
  c_WEIGH : mg "WEIGH" = some (.int 1 tk_WEIGH)
  tk_AHEAD : Tok
  c_AHEAD : mg "AHEAD" = some (.int 2 tk_AHEAD)
  g_NUMBERS : mg "NUMBERS" = some (.ref (He.ga K "NUMBERS"))
  t_NUMBERS : ∀ H : Hp, SqT K H (He.ga K "NUMBERS") [.int 0, .int 3, .int 5, .int 5]
  tk_GREATEST_WEIGHT : Tok
  c_GREATEST_WEIGHT : mg "GREATEST_WEIGHT" = some (.int 1000 tk_GREATEST_WEIGHT)
  tk_FURTHEST : Tok
  c_FURTHEST : mg "FURTHEST" = some (.int 4 tk_FURTHEST)
  tk_MOST_MOVES : Tok
  c_MOST_MOVES : mg "MOST_MOVES" = some (.int 600 tk_MOST_MOVES)
  m_ord : mg "ord" = none
  m_len : mg "len" = none
  m_range : mg "range" = none
  m_sorted : mg "sorted" = none
  m_enumerate : mg "enumerate" = none
  m_min : mg "min" = none
  m_all : mg "all" = none
  m_abs : mg "abs" = none
  m_list : mg "list" = none
section
variable {K : PySem.W.Frag} {mg : Str → Option Value}
theorem b_GrammarFault_init (T : Txt K mg) : Binds K T.fd_GrammarFault_init p_GrammarFault_init [] := T.F_GrammarFault_init.bindsN fun _ _ _ _ _ _ us hl => match us, hl with | [_, _], _ => rfl
theorem b_TextFault_init (T : Txt K mg) : Binds K T.fd_TextFault_init p_TextFault_init [] := T.F_TextFault_init.bindsN fun _ _ _ _ _ _ us hl => match us, hl with | [_, _, _], _ => rfl
theorem b_LineFault_init (T : Txt K mg) : Binds K T.fd_LineFault_init p_LineFault_init [] := T.F_LineFault_init.bindsN fun _ _ _ _ _ _ us hl => match us, hl with | [_, _, _], _ => rfl
theorem b_Position_init (T : Txt K mg) : Binds K T.fd_Position_init p_Position_init [] := T.F_Position_init.bindsN fun _ _ _ _ _ _ us hl => match us, hl with | [_, _, _, _], _ => rfl
theorem b_may_stand (T : Txt K mg) : Binds K T.fd_may_stand p_may_stand [] := T.F_may_stand.bindsN fun _ _ _ _ _ _ us hl => match us, hl with | [_, _], _ => rfl
theorem b_on_edge (T : Txt K mg) : Binds K T.fd_on_edge p_on_edge [] := T.F_on_edge.bindsN fun _ _ _ _ _ _ us hl => match us, hl with | [_, _, _], _ => rfl
theorem b_is_digit (T : Txt K mg) : Binds K T.fd_is_digit p_is_digit [] := T.F_is_digit.bindsN fun _ _ _ _ _ _ us hl => match us, hl with | [_], _ => rfl
theorem b_is_letter (T : Txt K mg) : Binds K T.fd_is_letter p_is_letter [] := T.F_is_letter.bindsN fun _ _ _ _ _ _ us hl => match us, hl with | [_], _ => rfl
theorem b_leads_to (T : Txt K mg) : Binds K T.fd_leads_to p_leads_to [] := T.F_leads_to.bindsN fun _ _ _ _ _ _ us hl => match us, hl with | [_, _, _], _ => rfl
theorem b_Reader_init (T : Txt K mg) : Binds K T.fd_Reader_init p_Reader_init [] := T.F_Reader_init.bindsN fun _ _ _ _ _ _ us hl => match us, hl with | [_, _], _ => rfl
theorem b_Reader_sign (T : Txt K mg) : Binds K T.fd_Reader_sign p_Reader_sign [] := T.F_Reader_sign.bindsN fun _ _ _ _ _ _ us hl => match us, hl with | [_], _ => rfl
theorem b_Reader_go_on (T : Txt K mg) : Binds K T.fd_Reader_go_on p_Reader_go_on [] := T.F_Reader_go_on.bindsN fun _ _ _ _ _ _ us hl => match us, hl with | [_], _ => rfl
theorem b_Reader_word (T : Txt K mg) : Binds K T.fd_Reader_word p_Reader_word [] := T.F_Reader_word.bindsN fun _ _ _ _ _ _ us hl => match us, hl with | [_, _], _ => rfl
theorem b_Reader_choice (T : Txt K mg) : Binds K T.fd_Reader_choice p_Reader_choice [] := T.F_Reader_choice.bindsN fun _ _ _ _ _ _ us hl => match us, hl with | [_, _], _ => rfl
theorem b_Reader_number (T : Txt K mg) : Binds K T.fd_Reader_number p_Reader_number [] := T.F_Reader_number.bindsN fun _ _ _ _ _ _ us hl => match us, hl with | [_, _, _], _ => rfl
theorem b_Reader_finish (T : Txt K mg) : Binds K T.fd_Reader_finish p_Reader_finish [] := T.F_Reader_finish.bindsN fun _ _ _ _ _ _ us hl => match us, hl with | [_], _ => rfl
theorem b_RulesText_init (T : Txt K mg) : Binds K T.fd_RulesText_init p_RulesText_init [] := T.F_RulesText_init.bindsN fun _ _ _ _ _ _ us hl => match us, hl with | [_, _], _ => rfl
theorem b_read_name (T : Txt K mg) : Binds K T.fd_read_name p_read_name [] := T.F_read_name.bindsN fun _ _ _ _ _ _ us hl => match us, hl with | [_], _ => rfl
theorem b_read_rows (T : Txt K mg) : Binds K T.fd_read_rows p_read_rows [] := T.F_read_rows.bindsN fun _ _ _ _ _ _ us hl => match us, hl with | [_, _, _, _], _ => rfl
theorem b_ground_list (T : Txt K mg) : Binds K T.fd_ground_list p_ground_list [] := T.F_ground_list.bindsN fun _ _ _ _ _ _ us hl => match us, hl with | [_], _ => rfl
theorem b_cells_with (T : Txt K mg) : Binds K T.fd_cells_with p_cells_with [] := T.F_cells_with.bindsN fun _ _ _ _ _ _ us hl => match us, hl with | [_, _], _ => rfl
theorem b_second_faults (T : Txt K mg) : Binds K T.fd_second_faults p_second_faults [] := T.F_second_faults.bindsN fun _ _ _ _ _ _ us hl => match us, hl with | [_, _, _], _ => rfl
theorem b_may_start (T : Txt K mg) : Binds K T.fd_may_start p_may_start [] := T.F_may_start.bindsN fun _ _ _ _ _ _ us hl => match us, hl with | [_, _], _ => rfl
theorem b_start_faults (T : Txt K mg) : Binds K T.fd_start_faults p_start_faults [] := T.F_start_faults.bindsN fun _ _ _ _ _ _ us hl => match us, hl with | [_], _ => rfl
theorem b_goal_faults (T : Txt K mg) : Binds K T.fd_goal_faults p_goal_faults [] := T.F_goal_faults.bindsN fun _ _ _ _ _ _ us hl => match us, hl with | [_], _ => rfl
theorem b_missing_faults (T : Txt K mg) : Binds K T.fd_missing_faults p_missing_faults [] := T.F_missing_faults.bindsN fun _ _ _ _ _ _ us hl => match us, hl with | [_], _ => rfl
theorem b_read_rules (T : Txt K mg) : Binds K T.fd_read_rules p_read_rules [] := T.F_read_rules.bindsN fun _ _ _ _ _ _ us hl => match us, hl with | [_], _ => rfl
theorem b_Hall_init (T : Txt K mg) : Binds K T.fd_Hall_init p_Hall_init [] := T.F_Hall_init.bindsN fun _ _ _ _ _ _ us hl => match us, hl with | [_, _], _ => rfl
theorem b_enmity_of (T : Txt K mg) : Binds K T.fd_enmity_of p_enmity_of [] := T.F_enmity_of.bindsN fun _ _ _ _ _ _ us hl => match us, hl with | [_, _], _ => rfl
theorem b_is_goal (T : Txt K mg) : Binds K T.fd_is_goal p_is_goal [] := T.F_is_goal.bindsN fun _ _ _ _ _ _ us hl => match us, hl with | [_, _, _], _ => rfl
theorem b_ray (T : Txt K mg) : Binds K T.fd_ray p_ray [] := T.F_ray.bindsN fun _ _ _ _ _ _ us hl => match us, hl with | [_, _, _, _], _ => rfl
theorem b_way (T : Txt K mg) : Binds K T.fd_way p_way [] := T.F_way.bindsN fun _ _ _ _ _ _ us hl => match us, hl with | [_, _, _], _ => rfl
theorem b_king_way (T : Txt K mg) : Binds K T.fd_king_way p_king_way [] := T.F_king_way.bindsN fun _ _ _ _ _ _ us hl => match us, hl with | [_, _, _], _ => rfl
theorem b_Line_init (T : Txt K mg) : Binds K T.fd_Line_init p_Line_init [] := T.F_Line_init.bindsN fun _ _ _ _ _ _ us hl => match us, hl with | [_, _, _, _], _ => rfl
theorem b_Line_read_row (T : Txt K mg) : Binds K T.fd_Line_read_row p_Line_read_row [] := T.F_Line_read_row.bindsN fun _ _ _ _ _ _ us hl => match us, hl with | [_, _, _, _], _ => rfl
theorem b_Line_piece_signs (T : Txt K mg) : Binds K T.fd_Line_piece_signs p_Line_piece_signs [] := T.F_Line_piece_signs.bindsN fun _ _ _ _ _ _ us hl => match us, hl with | [_], _ => rfl
theorem b_read_position (T : Txt K mg) : Binds K T.fd_read_position p_read_position [] := T.F_read_position.bindsN fun _ _ _ _ _ _ us hl => match us, hl with | [_, _], _ => rfl
theorem b_Made_init (T : Txt K mg) : Binds K T.fd_Made_init p_Made_init [] := T.F_Made_init.bindsN fun _ _ _ _ _ _ us hl => match us, hl with | [_, _, _], _ => rfl
theorem b_reach (T : Txt K mg) : Binds K T.fd_reach p_reach [] := T.F_reach.bindsN fun _ _ _ _ _ _ us hl => match us, hl with | [_, _, _], _ => rfl
theorem b_is_of (T : Txt K mg) : Binds K T.fd_is_of p_is_of [] := T.F_is_of.bindsN fun _ _ _ _ _ _ us hl => match us, hl with | [_, _], _ => rfl
theorem b_king_is_gone (T : Txt K mg) : Binds K T.fd_king_is_gone p_king_is_gone [] := T.F_king_is_gone.bindsN fun _ _ _ _ _ _ us hl => match us, hl with | [_, _], _ => rfl
theorem b_moves (T : Txt K mg) : Binds K T.fd_moves p_moves [] := T.F_moves.bindsN fun _ _ _ _ _ _ us hl => match us, hl with | [_, _], _ => rfl
theorem b_can_move (T : Txt K mg) : Binds K T.fd_can_move p_can_move [] := T.F_can_move.bindsN fun _ _ _ _ _ _ us hl => match us, hl with | [_, _], _ => rfl
theorem b_over (T : Txt K mg) : Binds K T.fd_over p_over [] := T.F_over.bindsN fun _ _ _ _ _ _ us hl => match us, hl with | [_, _], _ => rfl
theorem b_against (T : Txt K mg) : Binds K T.fd_against p_against [] := T.F_against.bindsN fun _ _ _ _ _ _ us hl => match us, hl with | [_, _, _, _], _ => rfl
theorem b_closes_on_hunter (T : Txt K mg) : Binds K T.fd_closes_on_hunter p_closes_on_hunter [] := T.F_closes_on_hunter.bindsN fun _ _ _ _ _ _ us hl => match us, hl with | [_, _, _], _ => rfl
theorem b_closes_on_man (T : Txt K mg) : Binds K T.fd_closes_on_man p_closes_on_man [] := T.F_closes_on_man.bindsN fun _ _ _ _ _ _ us hl => match us, hl with | [_, _, _], _ => rfl
theorem b_king_surrounded (T : Txt K mg) : Binds K T.fd_king_surrounded p_king_surrounded [] := T.F_king_surrounded.bindsN fun _ _ _ _ _ _ us hl => match us, hl with | [_, _, _], _ => rfl
theorem b_taken_by_hunter (T : Txt K mg) : Binds K T.fd_taken_by_hunter p_taken_by_hunter [] := T.F_taken_by_hunter.bindsN fun _ _ _ _ _ _ us hl => match us, hl with | [_, _, _], _ => rfl
theorem b_taken_by_kings_side (T : Txt K mg) : Binds K T.fd_taken_by_kings_side p_taken_by_kings_side [] := T.F_taken_by_kings_side.bindsN fun _ _ _ _ _ _ us hl => match us, hl with | [_, _, _], _ => rfl
theorem b_make (T : Txt K mg) : Binds K T.fd_make p_make [] := T.F_make.bindsN fun _ _ _ _ _ _ us hl => match us, hl with | [_, _, _, _], _ => rfl
theorem b_Found_init (T : Txt K mg) : Binds K T.fd_Found_init p_Found_init [] := T.F_Found_init.bindsN fun _ _ _ _ _ _ us hl => match us, hl with | [_, _, _, _], _ => rfl
theorem b_weighed (T : Txt K mg) : Binds K T.fd_weighed p_weighed [] := T.F_weighed.bindsN fun _ _ _ _ _ _ us hl => match us, hl with | [_, _, _], _ => rfl
theorem b_end_worth (T : Txt K mg) : Binds K T.fd_end_worth p_end_worth [] := T.F_end_worth.bindsN fun _ _ _ _ _ _ us hl => match us, hl with | [_, _, _], _ => rfl
theorem b_better (T : Txt K mg) : Binds K T.fd_better p_better [] := T.F_better.bindsN fun _ _ _ _ _ _ us hl => match us, hl with | [_, _, _], _ => rfl
theorem b_first_best (T : Txt K mg) : Binds K T.fd_first_best p_first_best [] := T.F_first_best.bindsN fun _ _ _ _ _ _ us hl => match us, hl with | [_, _], _ => rfl
theorem b_Search_init (T : Txt K mg) : Binds K T.fd_Search_init p_Search_init [] := T.F_Search_init.bindsN fun _ _ _ _ _ _ us hl => match us, hl with | [_, _, _, _], _ => rfl
theorem b_Search_look (T : Txt K mg) : Binds K T.fd_Search_look p_Search_look [] := T.F_Search_look.bindsN fun _ _ _ _ _ _ us hl => match us, hl with | [_, _, _, _], _ => rfl
theorem b_Search_look_by_each (T : Txt K mg) : Binds K T.fd_Search_look_by_each p_Search_look_by_each [] := T.F_Search_look_by_each.bindsN fun _ _ _ _ _ _ us hl => match us, hl with | [_, _, _, _], _ => rfl
theorem b_Looker_init (T : Txt K mg) : Binds K T.fd_Looker_init p_Looker_init [] := T.F_Looker_init.bindsN fun _ _ _ _ _ _ us hl => match us, hl with | [_], _ => rfl
theorem b_Looker_take_rules (T : Txt K mg) : Binds K T.fd_Looker_take_rules p_Looker_take_rules [] := T.F_Looker_take_rules.bindsN fun _ _ _ _ _ _ us hl => match us, hl with | [_, _], _ => rfl
theorem b_Looker_weigh (T : Txt K mg) : Binds K T.fd_Looker_weigh p_Looker_weigh [] := T.F_Looker_weigh.bindsN fun _ _ _ _ _ _ us hl => match us, hl with | [_, _, _], _ => rfl
theorem b_Looker_look_ahead (T : Txt K mg) : Binds K T.fd_Looker_look_ahead p_Looker_look_ahead [] := T.F_Looker_look_ahead.bindsN fun _ _ _ _ _ _ us hl => match us, hl with | [_, _, _], _ => rfl
theorem b_Looker_look_by_each_move (T : Txt K mg) : Binds K T.fd_Looker_look_by_each_move p_Looker_look_by_each_move [] := T.F_Looker_look_by_each_move.bindsN fun _ _ _ _ _ _ us hl => match us, hl with | [_, _, _], _ => rfl
theorem b_Looker_told_position (T : Txt K mg) : Binds K T.fd_Looker_told_position p_Looker_told_position [] := T.F_Looker_told_position.bindsN fun _ _ _ _ _ _ us hl => match us, hl with | [_, _, _], _ => rfl
theorem b_Looker_new_search (T : Txt K mg) : Binds K T.fd_Looker_new_search p_Looker_new_search [] := T.F_Looker_new_search.bindsN fun _ _ _ _ _ _ us hl => match us, hl with | [_, _], _ => rfl
theorem b_check_bounds (T : Txt K mg) : Binds K T.fd_check_bounds p_check_bounds [] := T.F_check_bounds.bindsN fun _ _ _ _ _ _ us hl => match us, hl with | [_, _], _ => rfl
theorem b_answer_call (T : Txt K mg) : Binds K T.fd_answer_call p_answer_call [] := T.F_answer_call.bindsN fun _ _ _ _ _ _ us hl => match us, hl with | [_, _, _, _], _ => rfl
theorem b_answer_or_refuse (T : Txt K mg) : Binds K T.fd_answer_or_refuse p_answer_or_refuse [] := T.F_answer_or_refuse.bindsN fun _ _ _ _ _ _ us hl => match us, hl with | [_, _, _, _], _ => rfl
theorem b_answers (T : Txt K mg) : Binds K T.fd_answers p_answers [] := T.F_answers.bindsN fun _ _ _ _ _ _ us hl => match us, hl with | [_], _ => rfl
end
section
variable {K : PySem.W.Frag} {mg : Str → Option Value} {h : Heap} {w : World}
theorem txt_of (X : K.In h) (G : h.Ns mainGlobals mg) (c : He.SaysX fal fnl [] [] exK w h K) : Nonempty (Txt K mg) := by
  have hx := c.more
  unfold exK at hx
  simp only [Bool.and_eq_true, decide_eq_true_eq] at hx
  obtain ⟨z0, z1, z2, z3, z4, z5, z6, z7, z8, z9, z10, z11, z12, z13, z14, z15, z16, z17, z18⟩ := hx
  obtain ⟨fd0, F0⟩ := c.t.d.def_ 0 (d := d_GrammarFault_init) rfl
  obtain ⟨fd1, F1⟩ := c.t.d.def_ 1 (d := d_TextFault_init) rfl
  obtain ⟨fd2, F2⟩ := c.t.d.def_ 2 (d := d_LineFault_init) rfl
  obtain ⟨fd3, F3⟩ := c.t.d.def_ 3 (d := d_Position_init) rfl
  obtain ⟨fd4, F4⟩ := c.t.d.def_ 4 (d := d_may_stand) rfl
  obtain ⟨fd5, F5⟩ := c.t.d.def_ 5 (d := d_on_edge) rfl
  obtain ⟨fd6, F6⟩ := c.t.d.def_ 6 (d := d_is_digit) rfl
  obtain ⟨fd7, F7⟩ := c.t.d.def_ 7 (d := d_is_letter) rfl
  obtain ⟨fd8, F8⟩ := c.t.d.def_ 8 (d := d_leads_to) rfl
  obtain ⟨fd9, F9⟩ := c.t.d.def_ 9 (d := d_Reader_init) rfl
  obtain ⟨fd10, F10⟩ := c.t.d.def_ 10 (d := d_Reader_sign) rfl
  obtain ⟨fd11, F11⟩ := c.t.d.def_ 11 (d := d_Reader_go_on) rfl
  obtain ⟨fd12, F12⟩ := c.t.d.def_ 12 (d := d_Reader_word) rfl
  obtain ⟨fd13, F13⟩ := c.t.d.def_ 13 (d := d_Reader_choice) rfl
  obtain ⟨fd14, F14⟩ := c.t.d.def_ 14 (d := d_Reader_number) rfl
  obtain ⟨fd15, F15⟩ := c.t.d.def_ 15 (d := d_Reader_finish) rfl
  obtain ⟨fd16, F16⟩ := c.t.d.def_ 16 (d := d_RulesText_init) rfl
  obtain ⟨fd17, F17⟩ := c.t.d.def_ 17 (d := d_read_name) rfl
  obtain ⟨fd18, F18⟩ := c.t.d.def_ 18 (d := d_read_rows) rfl
  obtain ⟨fd19, F19⟩ := c.t.d.def_ 19 (d := d_ground_list) rfl
  obtain ⟨fd20, F20⟩ := c.t.d.def_ 20 (d := d_cells_with) rfl
  obtain ⟨fd21, F21⟩ := c.t.d.def_ 21 (d := d_second_faults) rfl
  obtain ⟨fd22, F22⟩ := c.t.d.def_ 22 (d := d_may_start) rfl
  obtain ⟨fd23, F23⟩ := c.t.d.def_ 23 (d := d_start_faults) rfl
  obtain ⟨fd24, F24⟩ := c.t.d.def_ 24 (d := d_goal_faults) rfl
  obtain ⟨fd25, F25⟩ := c.t.d.def_ 25 (d := d_missing_faults) rfl
  obtain ⟨fd26, F26⟩ := c.t.d.def_ 26 (d := d_read_rules) rfl
  obtain ⟨fd27, F27⟩ := c.t.d.def_ 27 (d := d_Hall_init) rfl
  obtain ⟨fd28, F28⟩ := c.t.d.def_ 28 (d := d_enmity_of) rfl
  obtain ⟨fd29, F29⟩ := c.t.d.def_ 29 (d := d_is_goal) rfl
  obtain ⟨fd30, F30⟩ := c.t.d.def_ 30 (d := d_ray) rfl
  obtain ⟨fd31, F31⟩ := c.t.d.def_ 31 (d := d_way) rfl
  obtain ⟨fd32, F32⟩ := c.t.d.def_ 32 (d := d_king_way) rfl
  obtain ⟨fd33, F33⟩ := c.t.d.def_ 33 (d := d_Line_init) rfl
  obtain ⟨fd34, F34⟩ := c.t.d.def_ 34 (d := d_Line_read_row) rfl
  obtain ⟨fd35, F35⟩ := c.t.d.def_ 35 (d := d_Line_piece_signs) rfl
  obtain ⟨fd36, F36⟩ := c.t.d.def_ 36 (d := d_read_position) rfl
  obtain ⟨fd37, F37⟩ := c.t.d.def_ 37 (d := d_Made_init) rfl
  obtain ⟨fd38, F38⟩ := c.t.d.def_ 38 (d := d_reach) rfl
  obtain ⟨fd39, F39⟩ := c.t.d.def_ 39 (d := d_is_of) rfl
  obtain ⟨fd40, F40⟩ := c.t.d.def_ 40 (d := d_king_is_gone) rfl
  obtain ⟨fd41, F41⟩ := c.t.d.def_ 41 (d := d_moves) rfl
  obtain ⟨fd42, F42⟩ := c.t.d.def_ 42 (d := d_can_move) rfl
  obtain ⟨fd43, F43⟩ := c.t.d.def_ 43 (d := d_over) rfl
  obtain ⟨fd44, F44⟩ := c.t.d.def_ 44 (d := d_against) rfl
  obtain ⟨fd45, F45⟩ := c.t.d.def_ 45 (d := d_closes_on_hunter) rfl
  obtain ⟨fd46, F46⟩ := c.t.d.def_ 46 (d := d_closes_on_man) rfl
  obtain ⟨fd47, F47⟩ := c.t.d.def_ 47 (d := d_king_surrounded) rfl
  obtain ⟨fd48, F48⟩ := c.t.d.def_ 48 (d := d_taken_by_hunter) rfl
  obtain ⟨fd49, F49⟩ := c.t.d.def_ 49 (d := d_taken_by_kings_side) rfl
  obtain ⟨fd50, F50⟩ := c.t.d.def_ 50 (d := d_make) rfl
  obtain ⟨fd51, F51⟩ := c.t.d.def_ 51 (d := d_Found_init) rfl
  obtain ⟨fd52, F52⟩ := c.t.d.def_ 52 (d := d_weighed) rfl
  obtain ⟨fd53, F53⟩ := c.t.d.def_ 53 (d := d_end_worth) rfl
  obtain ⟨fd54, F54⟩ := c.t.d.def_ 54 (d := d_better) rfl
  obtain ⟨fd55, F55⟩ := c.t.d.def_ 55 (d := d_first_best) rfl
  obtain ⟨fd56, F56⟩ := c.t.d.def_ 56 (d := d_Search_init) rfl
  obtain ⟨fd57, F57⟩ := c.t.d.def_ 57 (d := d_Search_look) rfl
  obtain ⟨fd58, F58⟩ := c.t.d.def_ 58 (d := d_Search_look_by_each) rfl
  obtain ⟨fd59, F59⟩ := c.t.d.def_ 59 (d := d_Looker_init) rfl
  obtain ⟨fd60, F60⟩ := c.t.d.def_ 60 (d := d_Looker_take_rules) rfl
  obtain ⟨fd61, F61⟩ := c.t.d.def_ 61 (d := d_Looker_weigh) rfl
  obtain ⟨fd62, F62⟩ := c.t.d.def_ 62 (d := d_Looker_look_ahead) rfl
  obtain ⟨fd63, F63⟩ := c.t.d.def_ 63 (d := d_Looker_look_by_each_move) rfl
  obtain ⟨fd64, F64⟩ := c.t.d.def_ 64 (d := d_Looker_told_position) rfl
  obtain ⟨fd65, F65⟩ := c.t.d.def_ 65 (d := d_Looker_new_search) rfl
  obtain ⟨fd66, F66⟩ := c.t.d.def_ 66 (d := d_check_bounds) rfl
  obtain ⟨fd67, F67⟩ := c.t.d.def_ 67 (d := d_answer_call) rfl
  obtain ⟨fd68, F68⟩ := c.t.d.def_ 68 (d := d_answer_or_refuse) rfl
  obtain ⟨fd69, F69⟩ := c.t.d.def_ 69 (d := d_answers) rfl
  obtain ⟨tk_ACROSS, c_ACROSS⟩ := He.int_ok X G (c.t.d.fact 141 (f := .int "ACROSS" 13) rfl)
  obtain ⟨tk_CELLS, c_CELLS⟩ := He.int_ok X G (c.t.d.fact 142 (f := .int "CELLS" 169) rfl)
  obtain ⟨tk_PLAIN, c_PLAIN⟩ := He.int_ok X G (c.t.d.fact 143 (f := .int "PLAIN" 0) rfl)
  obtain ⟨tk_SEAT, c_SEAT⟩ := He.int_ok X G (c.t.d.fact 144 (f := .int "SEAT" 1) rfl)
  obtain ⟨tk_EXIT, c_EXIT⟩ := He.int_ok X G (c.t.d.fact 145 (f := .int "EXIT" 2) rfl)
  obtain ⟨tk_WALL, c_WALL⟩ := He.int_ok X G (c.t.d.fact 146 (f := .int "WALL" 3) rfl)
  obtain ⟨tk_NOBODY, c_NOBODY⟩ := He.int_ok X G (c.t.d.fact 147 (f := .int "NOBODY" 0) rfl)
  obtain ⟨tk_HUNTER, c_HUNTER⟩ := He.int_ok X G (c.t.d.fact 148 (f := .int "HUNTER" 1) rfl)
  obtain ⟨tk_MAN, c_MAN⟩ := He.int_ok X G (c.t.d.fact 149 (f := .int "MAN" 2) rfl)
  obtain ⟨tk_KING, c_KING⟩ := He.int_ok X G (c.t.d.fact 150 (f := .int "KING" 3) rfl)
  obtain ⟨tk_HUNTERS_TURN, c_HUNTERS_TURN⟩ := He.int_ok X G (c.t.d.fact 151 (f := .int "HUNTERS_TURN" 0) rfl)
  obtain ⟨tk_KINGS_TURN, c_KINGS_TURN⟩ := He.int_ok X G (c.t.d.fact 152 (f := .int "KINGS_TURN" 1) rfl)
  obtain ⟨tk_NOWHERE, c_NOWHERE⟩ := He.int_ok X G (c.t.d.fact 153 (f := .int "NOWHERE" 169) rfl)
  obtain ⟨tk_END, c_END⟩ := He.int_ok X G (c.t.d.fact 154 (f := .int "END" 256) rfl)
  obtain ⟨tk_GOAL_EXITS, c_GOAL_EXITS⟩ := He.int_ok X G (c.t.d.fact 155 (f := .int "GOAL_EXITS" 1) rfl)
  obtain ⟨tk_QUIET, c_QUIET⟩ := He.int_ok X G (c.t.d.fact 156 (f := .int "QUIET" 0) rfl)
  obtain ⟨tk_LONGEST_NAME, c_LONGEST_NAME⟩ := He.int_ok X G (c.t.d.fact 157 (f := .int "LONGEST_NAME" 16) rfl)
  obtain ⟨tk_GOING_ON, c_GOING_ON⟩ := He.int_ok X G (c.t.d.fact 158 (f := .int "GOING_ON" 0) rfl)
  obtain ⟨tk_KING_TAKEN, c_KING_TAKEN⟩ := He.int_ok X G (c.t.d.fact 159 (f := .int "KING_TAKEN" 1) rfl)
  obtain ⟨tk_KING_AT_GOAL, c_KING_AT_GOAL⟩ := He.int_ok X G (c.t.d.fact 160 (f := .int "KING_AT_GOAL" 2) rfl)
  obtain ⟨tk_NO_MOVE, c_NO_MOVE⟩ := He.int_ok X G (c.t.d.fact 161 (f := .int "NO_MOVE" 3) rfl)
  obtain ⟨tk_WON, c_WON⟩ := He.int_ok X G (c.t.d.fact 162 (f := .int "WON" 1000000) rfl)
  obtain ⟨tk_RULES, c_RULES⟩ := He.int_ok X G (c.t.d.fact 163 (f := .int "RULES" 0) rfl)
  obtain ⟨tk_WEIGH, c_WEIGH⟩ := He.int_ok X G (c.t.d.fact 164 (f := .int "WEIGH" 1) rfl)
  obtain ⟨tk_AHEAD, c_AHEAD⟩ := He.int_ok X G (c.t.d.fact 165 (f := .int "AHEAD" 2) rfl)
  obtain ⟨tk_GREATEST_WEIGHT, c_GREATEST_WEIGHT⟩ := He.int_ok X G (c.t.d.fact 167 (f := .int "GREATEST_WEIGHT" 1000) rfl)
  obtain ⟨tk_FURTHEST, c_FURTHEST⟩ := He.int_ok X G (c.t.d.fact 168 (f := .int "FURTHEST" 4) rfl)
  obtain ⟨tk_MOST_MOVES, c_MOST_MOVES⟩ := He.int_ok X G (c.t.d.fact 169 (f := .int "MOST_MOVES" 600) rfl)
  have yGrammarFault := z3
  unfold inB at yGrammarFault
  simp only [Bool.and_eq_true, decide_eq_true_eq] at yGrammarFault
  have yTextFault := z4
  unfold inB at yTextFault
  simp only [Bool.and_eq_true, decide_eq_true_eq] at yTextFault
  have yLineFault := z5
  unfold inB at yLineFault
  simp only [Bool.and_eq_true, decide_eq_true_eq] at yLineFault
  exact ⟨⟨fd0,
    F0,
    fd1,
    F1,
    fd2,
    F2,
    fd3,
    F3,
    fd4,
    F4,
    He.glo_ok X G (c.t.d.fact 0 (f := .glo "may_stand") rfl),
    fd5,
    F5,
    He.glo_ok X G (c.t.d.fact 1 (f := .glo "on_edge") rfl),
    fd6,
    F6,
    He.glo_ok X G (c.t.d.fact 2 (f := .glo "is_digit") rfl),
    fd7,
    F7,
    He.glo_ok X G (c.t.d.fact 3 (f := .glo "is_letter") rfl),
    fd8,
    F8,
    He.glo_ok X G (c.t.d.fact 4 (f := .glo "leads_to") rfl),
    fd9,
    F9,
    fd10,
    F10,
    fd11,
    F11,
    fd12,
    F12,
    fd13,
    F13,
    fd14,
    F14,
    fd15,
    F15,
    fd16,
    F16,
    fd17,
    F17,
    He.glo_ok X G (c.t.d.fact 5 (f := .glo "read_name") rfl),
    fd18,
    F18,
    He.glo_ok X G (c.t.d.fact 6 (f := .glo "read_rows") rfl),
    fd19,
    F19,
    He.glo_ok X G (c.t.d.fact 7 (f := .glo "ground_list") rfl),
    fd20,
    F20,
    He.glo_ok X G (c.t.d.fact 8 (f := .glo "cells_with") rfl),
    fd21,
    F21,
    He.glo_ok X G (c.t.d.fact 9 (f := .glo "second_faults") rfl),
    fd22,
    F22,
    He.glo_ok X G (c.t.d.fact 10 (f := .glo "may_start") rfl),
    fd23,
    F23,
    He.glo_ok X G (c.t.d.fact 11 (f := .glo "start_faults") rfl),
    fd24,
    F24,
    He.glo_ok X G (c.t.d.fact 12 (f := .glo "goal_faults") rfl),
    fd25,
    F25,
    He.glo_ok X G (c.t.d.fact 13 (f := .glo "missing_faults") rfl),
    fd26,
    F26,
    He.glo_ok X G (c.t.d.fact 14 (f := .glo "read_rules") rfl),
    fd27,
    F27,
    fd28,
    F28,
    He.glo_ok X G (c.t.d.fact 15 (f := .glo "enmity_of") rfl),
    fd29,
    F29,
    He.glo_ok X G (c.t.d.fact 16 (f := .glo "is_goal") rfl),
    fd30,
    F30,
    He.glo_ok X G (c.t.d.fact 17 (f := .glo "ray") rfl),
    fd31,
    F31,
    He.glo_ok X G (c.t.d.fact 18 (f := .glo "way") rfl),
    fd32,
    F32,
    He.glo_ok X G (c.t.d.fact 19 (f := .glo "king_way") rfl),
    fd33,
    F33,
    fd34,
    F34,
    fd35,
    F35,
    fd36,
    F36,
    He.glo_ok X G (c.t.d.fact 20 (f := .glo "read_position") rfl),
    fd37,
    F37,
    fd38,
    F38,
    He.glo_ok X G (c.t.d.fact 21 (f := .glo "reach") rfl),
    fd39,
    F39,
    He.glo_ok X G (c.t.d.fact 22 (f := .glo "is_of") rfl),
    fd40,
    F40,
    He.glo_ok X G (c.t.d.fact 23 (f := .glo "king_is_gone") rfl),
    fd41,
    F41,
    He.glo_ok X G (c.t.d.fact 24 (f := .glo "moves") rfl),
    fd42,
    F42,
    He.glo_ok X G (c.t.d.fact 25 (f := .glo "can_move") rfl),
    fd43,
    F43,
    He.glo_ok X G (c.t.d.fact 26 (f := .glo "over") rfl),
    fd44,
    F44,
    He.glo_ok X G (c.t.d.fact 27 (f := .glo "against") rfl),
    fd45,
    F45,
    He.glo_ok X G (c.t.d.fact 28 (f := .glo "closes_on_hunter") rfl),
    fd46,
    F46,
    He.glo_ok X G (c.t.d.fact 29 (f := .glo "closes_on_man") rfl),
    fd47,
    F47,
    He.glo_ok X G (c.t.d.fact 30 (f := .glo "king_surrounded") rfl),
    fd48,
    F48,
    He.glo_ok X G (c.t.d.fact 31 (f := .glo "taken_by_hunter") rfl),
    fd49,
    F49,
    He.glo_ok X G (c.t.d.fact 32 (f := .glo "taken_by_kings_side") rfl),
    fd50,
    F50,
    He.glo_ok X G (c.t.d.fact 33 (f := .glo "make") rfl),
    fd51,
    F51,
    fd52,
    F52,
    He.glo_ok X G (c.t.d.fact 34 (f := .glo "weighed") rfl),
    fd53,
    F53,
    He.glo_ok X G (c.t.d.fact 35 (f := .glo "end_worth") rfl),
    fd54,
    F54,
    He.glo_ok X G (c.t.d.fact 36 (f := .glo "better") rfl),
    fd55,
    F55,
    He.glo_ok X G (c.t.d.fact 37 (f := .glo "first_best") rfl),
    fd56,
    F56,
    fd57,
    F57,
    fd58,
    F58,
    fd59,
    F59,
    fd60,
    F60,
    fd61,
    F61,
    fd62,
    F62,
    fd63,
    F63,
    fd64,
    F64,
    fd65,
    F65,
    fd66,
    F66,
    He.glo_ok X G (c.t.d.fact 38 (f := .glo "check_bounds") rfl),
    fd67,
    F67,
    He.glo_ok X G (c.t.d.fact 39 (f := .glo "answer_call") rfl),
    fd68,
    F68,
    He.glo_ok X G (c.t.d.fact 40 (f := .glo "answer_or_refuse") rfl),
    fd69,
    F69,
    He.glo_ok X G (c.t.d.fact 41 (f := .glo "answers") rfl),
    He.glo_ok X G (c.t.d.fact 42 (f := .glo "GrammarFault") rfl),
    He.glo_ok X G (c.t.d.fact 44 (f := .glo "TextFault") rfl),
    He.glo_ok X G (c.t.d.fact 46 (f := .glo "LineFault") rfl),
    He.glo_ok X G (c.t.d.fact 48 (f := .glo "NoRules") rfl),
    He.glo_ok X G (c.t.d.fact 50 (f := .glo "WeightFault") rfl),
    He.glo_ok X G (c.t.d.fact 52 (f := .glo "BoundsFault") rfl),
    He.glo_ok X G (c.t.d.fact 54 (f := .glo "TooManyMoves") rfl),
    He.glo_ok X G (c.t.d.fact 56 (f := .glo "Position") rfl),
    He.glo_ok X G (c.t.d.fact 62 (f := .glo "Reader") rfl),
    He.glo_ok X G (c.t.d.fact 73 (f := .glo "RulesText") rfl),
    He.glo_ok X G (c.t.d.fact 89 (f := .glo "Hall") rfl),
    He.glo_ok X G (c.t.d.fact 105 (f := .glo "Line") rfl),
    He.glo_ok X G (c.t.d.fact 112 (f := .glo "Made") rfl),
    He.glo_ok X G (c.t.d.fact 117 (f := .glo "Found") rfl),
    He.glo_ok X G (c.t.d.fact 123 (f := .glo "Search") rfl),
    He.glo_ok X G (c.t.d.fact 131 (f := .glo "Looker") rfl),
    He.cls_ok (c.t.d.fact 57 (f := .cls "Position") rfl),
    He.mkr_ok (c.t.d.fact 58 (f := .mkr "Position") rfl),
    He.noat_ok (c.t.d.fact 59 (f := .noat "Position" "board") rfl),
    He.noat_ok (c.t.d.fact 60 (f := .noat "Position" "king") rfl),
    He.noat_ok (c.t.d.fact 61 (f := .noat "Position" "turn") rfl),
    He.cls_ok (c.t.d.fact 63 (f := .cls "Reader") rfl),
    He.mkr_ok (c.t.d.fact 64 (f := .mkr "Reader") rfl),
    He.noat_ok (c.t.d.fact 65 (f := .noat "Reader" "text") rfl),
    He.noat_ok (c.t.d.fact 66 (f := .noat "Reader" "place") rfl),
    He.meth_ok (c.t.d.fact 67 (f := .meth "Reader" "sign") rfl),
    He.meth_ok (c.t.d.fact 68 (f := .meth "Reader" "go_on") rfl),
    He.meth_ok (c.t.d.fact 69 (f := .meth "Reader" "word") rfl),
    He.meth_ok (c.t.d.fact 70 (f := .meth "Reader" "choice") rfl),
    He.meth_ok (c.t.d.fact 71 (f := .meth "Reader" "number") rfl),
    He.meth_ok (c.t.d.fact 72 (f := .meth "Reader" "finish") rfl),
    He.cls_ok (c.t.d.fact 74 (f := .cls "RulesText") rfl),
    He.mkr_ok (c.t.d.fact 75 (f := .mkr "RulesText") rfl),
    He.noat_ok (c.t.d.fact 76 (f := .noat "RulesText" "wide") rfl),
    He.noat_ok (c.t.d.fact 77 (f := .noat "RulesText" "high") rfl),
    He.noat_ok (c.t.d.fact 78 (f := .noat "RulesText" "ground") rfl),
    He.noat_ok (c.t.d.fact 79 (f := .noat "RulesText" "start") rfl),
    He.noat_ok (c.t.d.fact 80 (f := .noat "RulesText" "slides") rfl),
    He.noat_ok (c.t.d.fact 81 (f := .noat "RulesText" "armed") rfl),
    He.noat_ok (c.t.d.fact 82 (f := .noat "RulesText" "four") rfl),
    He.noat_ok (c.t.d.fact 83 (f := .noat "RulesText" "passed") rfl),
    He.noat_ok (c.t.d.fact 84 (f := .noat "RulesText" "seat_enmity") rfl),
    He.noat_ok (c.t.d.fact 85 (f := .noat "RulesText" "exits_enmity") rfl),
    He.noat_ok (c.t.d.fact 86 (f := .noat "RulesText" "goal_place") rfl),
    He.noat_ok (c.t.d.fact 87 (f := .noat "RulesText" "goal") rfl),
    He.noat_ok (c.t.d.fact 88 (f := .noat "RulesText" "length") rfl),
    He.cls_ok (c.t.d.fact 90 (f := .cls "Hall") rfl),
    He.mkr_ok (c.t.d.fact 91 (f := .mkr "Hall") rfl),
    He.noat_ok (c.t.d.fact 92 (f := .noat "Hall" "wide") rfl),
    He.noat_ok (c.t.d.fact 93 (f := .noat "Hall" "high") rfl),
    He.noat_ok (c.t.d.fact 94 (f := .noat "Hall" "armed") rfl),
    He.noat_ok (c.t.d.fact 95 (f := .noat "Hall" "four") rfl),
    He.noat_ok (c.t.d.fact 96 (f := .noat "Hall" "cells") rfl),
    He.noat_ok (c.t.d.fact 97 (f := .noat "Hall" "ground") rfl),
    He.noat_ok (c.t.d.fact 98 (f := .noat "Hall" "seat") rfl),
    He.noat_ok (c.t.d.fact 99 (f := .noat "Hall" "enmity") rfl),
    He.noat_ok (c.t.d.fact 100 (f := .noat "Hall" "goals") rfl),
    He.noat_ok (c.t.d.fact 101 (f := .noat "Hall" "beside") rfl),
    He.noat_ok (c.t.d.fact 102 (f := .noat "Hall" "pairs") rfl),
    He.noat_ok (c.t.d.fact 103 (f := .noat "Hall" "ways") rfl),
    He.noat_ok (c.t.d.fact 104 (f := .noat "Hall" "king_ways") rfl),
    He.cls_ok (c.t.d.fact 106 (f := .cls "Line") rfl),
    He.mkr_ok (c.t.d.fact 107 (f := .mkr "Line") rfl),
    He.noat_ok (c.t.d.fact 108 (f := .noat "Line" "pieces") rfl),
    He.noat_ok (c.t.d.fact 109 (f := .noat "Line" "turn") rfl),
    He.meth_ok (c.t.d.fact 110 (f := .meth "Line" "read_row") rfl),
    He.meth_ok (c.t.d.fact 111 (f := .meth "Line" "piece_signs") rfl),
    He.cls_ok (c.t.d.fact 113 (f := .cls "Made") rfl),
    He.mkr_ok (c.t.d.fact 114 (f := .mkr "Made") rfl),
    He.noat_ok (c.t.d.fact 115 (f := .noat "Made" "position") rfl),
    He.noat_ok (c.t.d.fact 116 (f := .noat "Made" "taken") rfl),
    He.cls_ok (c.t.d.fact 118 (f := .cls "Found") rfl),
    He.mkr_ok (c.t.d.fact 119 (f := .mkr "Found") rfl),
    He.noat_ok (c.t.d.fact 120 (f := .noat "Found" "over_by") rfl),
    He.noat_ok (c.t.d.fact 121 (f := .noat "Found" "worth") rfl),
    He.noat_ok (c.t.d.fact 122 (f := .noat "Found" "row") rfl),
    He.cls_ok (c.t.d.fact 124 (f := .cls "Search") rfl),
    He.mkr_ok (c.t.d.fact 125 (f := .mkr "Search") rfl),
    He.noat_ok (c.t.d.fact 126 (f := .noat "Search" "hall") rfl),
    He.noat_ok (c.t.d.fact 127 (f := .noat "Search" "weights") rfl),
    He.noat_ok (c.t.d.fact 128 (f := .noat "Search" "left") rfl),
    He.meth_ok (c.t.d.fact 129 (f := .meth "Search" "look") rfl),
    He.meth_ok (c.t.d.fact 130 (f := .meth "Search" "look_by_each") rfl),
    He.cls_ok (c.t.d.fact 132 (f := .cls "Looker") rfl),
    He.mkr_ok (c.t.d.fact 133 (f := .mkr "Looker") rfl),
    He.noat_ok (c.t.d.fact 134 (f := .noat "Looker" "hall") rfl),
    He.meth_ok (c.t.d.fact 135 (f := .meth "Looker" "take_rules") rfl),
    He.meth_ok (c.t.d.fact 136 (f := .meth "Looker" "weigh") rfl),
    He.meth_ok (c.t.d.fact 137 (f := .meth "Looker" "look_ahead") rfl),
    He.meth_ok (c.t.d.fact 138 (f := .meth "Looker" "look_by_each_move") rfl),
    He.meth_ok (c.t.d.fact 139 (f := .meth "Looker" "told_position") rfl),
    He.meth_ok (c.t.d.fact 140 (f := .meth "Looker" "new_search") rfl),
    oxeB_ok z0,
    yGrammarFault.1,
    yGrammarFault.2,
    xfB_ok z6,
    z9,
    oxeB_ok z1,
    yTextFault.1,
    yTextFault.2,
    xfB_ok z7,
    z10,
    z11,
    oxeB_ok z2,
    yLineFault.1,
    yLineFault.2,
    xfB_ok z8,
    z12,
    z13,
    ox0B_ok z14,
    ox0B_ok z15,
    ox0B_ok z16,
    ox0B_ok z17,
    He.exm_ok (c.t.d.fact 179 (f := .exm "GrammarFault" "GrammarFault" true) rfl),
    He.exm_ok (c.t.d.fact 180 (f := .exm "TextFault" "TextFault" true) rfl),
    He.exm_ok (c.t.d.fact 181 (f := .exm "LineFault" "TextFault" false) rfl),
    He.exm_ok (c.t.d.fact 182 (f := .exm "LineFault" "LineFault" true) rfl),
    He.exm_ok (c.t.d.fact 183 (f := .exm "NoRules" "TextFault" false) rfl),
    He.exm_ok (c.t.d.fact 184 (f := .exm "NoRules" "LineFault" false) rfl),
    He.exm_ok (c.t.d.fact 185 (f := .exm "NoRules" "NoRules" true) rfl),
    He.exm_ok (c.t.d.fact 186 (f := .exm "WeightFault" "TextFault" false) rfl),
    He.exm_ok (c.t.d.fact 187 (f := .exm "WeightFault" "LineFault" false) rfl),
    He.exm_ok (c.t.d.fact 188 (f := .exm "WeightFault" "NoRules" false) rfl),
    He.exm_ok (c.t.d.fact 189 (f := .exm "WeightFault" "WeightFault" true) rfl),
    He.exm_ok (c.t.d.fact 190 (f := .exm "BoundsFault" "TextFault" false) rfl),
    He.exm_ok (c.t.d.fact 191 (f := .exm "BoundsFault" "LineFault" false) rfl),
    He.exm_ok (c.t.d.fact 192 (f := .exm "BoundsFault" "NoRules" false) rfl),
    He.exm_ok (c.t.d.fact 193 (f := .exm "BoundsFault" "WeightFault" false) rfl),
    He.exm_ok (c.t.d.fact 194 (f := .exm "BoundsFault" "BoundsFault" true) rfl),
    He.exm_ok (c.t.d.fact 195 (f := .exm "TooManyMoves" "TextFault" false) rfl),
    He.exm_ok (c.t.d.fact 196 (f := .exm "TooManyMoves" "LineFault" false) rfl),
    He.exm_ok (c.t.d.fact 197 (f := .exm "TooManyMoves" "NoRules" false) rfl),
    He.exm_ok (c.t.d.fact 198 (f := .exm "TooManyMoves" "WeightFault" false) rfl),
    He.exm_ok (c.t.d.fact 199 (f := .exm "TooManyMoves" "BoundsFault" false) rfl),
    He.exm_ok (c.t.d.fact 200 (f := .exm "TooManyMoves" "TooManyMoves" true) rfl),
    tk_ACROSS,
    c_ACROSS,
    tk_CELLS,
    c_CELLS,
    tk_PLAIN,
    c_PLAIN,
    tk_SEAT,
    c_SEAT,
    tk_EXIT,
    c_EXIT,
    tk_WALL,
    c_WALL,
    tk_NOBODY,
    c_NOBODY,
    tk_HUNTER,
    c_HUNTER,
    tk_MAN,
    c_MAN,
    tk_KING,
    c_KING,
    tk_HUNTERS_TURN,
    c_HUNTERS_TURN,
    tk_KINGS_TURN,
    c_KINGS_TURN,
    tk_NOWHERE,
    c_NOWHERE,
    tk_END,
    c_END,
    tk_GOAL_EXITS,
    c_GOAL_EXITS,
    tk_QUIET,
    c_QUIET,
    tk_LONGEST_NAME,
    c_LONGEST_NAME,
    tk_GOING_ON,
    c_GOING_ON,
    tk_KING_TAKEN,
    c_KING_TAKEN,
    tk_KING_AT_GOAL,
    c_KING_AT_GOAL,
    tk_NO_MOVE,
    c_NO_MOVE,
    tk_WON,
    c_WON,
    tk_RULES,
    c_RULES,
    tk_WEIGH,
    c_WEIGH,
    tk_AHEAD,
    c_AHEAD,
    He.glo_ok X G (c.t.d.fact 166 (f := .glo "NUMBERS") rfl),
    fun H => He.tupB_ok z18 H,
    tk_GREATEST_WEIGHT,
    c_GREATEST_WEIGHT,
    tk_FURTHEST,
    c_FURTHEST,
    tk_MOST_MOVES,
    c_MOST_MOVES,
    He.free_ok X G (c.t.d.fact 170 (f := .free "ord") rfl),
    He.free_ok X G (c.t.d.fact 171 (f := .free "len") rfl),
    He.free_ok X G (c.t.d.fact 172 (f := .free "range") rfl),
    He.free_ok X G (c.t.d.fact 173 (f := .free "sorted") rfl),
    He.free_ok X G (c.t.d.fact 174 (f := .free "enumerate") rfl),
    He.free_ok X G (c.t.d.fact 175 (f := .free "min") rfl),
    He.free_ok X G (c.t.d.fact 176 (f := .free "all") rfl),
    He.free_ok X G (c.t.d.fact 177 (f := .free "abs") rfl),
    He.free_ok X G (c.t.d.fact 178 (f := .free "list") rfl)⟩⟩
end
end Tf
set_option Elab.async false
set_option linter.all false
set_option maxRecDepth 100000
set_option maxHeartbeats 2000000
/-! The small defs: errors' and positions' __init__, signs, numbers. -/
namespace Tf
open PySem PySem.Spec PyProof.Rows L2 TfX TfM
section
variable {P : Program} {w : World} {K : PySem.W.Frag} {mg : Str → Option Value} {base : Heap}
/-- an if whose test is known -/
theorem ifT {c : Bool} {A B : Prop} (hc : c = true) (h : A) : if c = true then A else B := by
  rw [if_pos hc]
  exact h
theorem ifF {c : Bool} {A B : Prop} (hc : c = false) (h : B) : if c = true then A else B := by
  rw [hc, if_neg Bool.false_ne_true]
  exact h
theorem ifB {c : Bool} {A B : Prop} (h1 : c = true → A) (h2 : c = false → B) : if c = true then A else B := by
  cases c with
  | true => exact ifT rfl (h1 rfl)
  | false => exact ifF rfl (h2 rfl)
/-! ### rules within a comprehension: the written part is named -/
theorem ix_listK {X : Cx} {K : PySem.W.Frag} (h : X.K = K) : IxR X (rIxL K) := by
  subst h
  exact ix_list
theorem pe_fldK {X : Cx} {K : PySem.W.Frag} {e : Expr} {ta : TE} {f : Str} {pos : Pos} (h : X.K = K) (he : PE X e ta) (hb : attributeBase e f X.env (eval e X.env) = eval e X.env) : PE X (.Attribute e f pos) (tFld K ta f) := by
  subst h
  exact pe_fld he hb
theorem call_len_seqK {X : Cx} {K : PySem.W.Frag} (h : X.K = K) : CallR X (.builtin "len") (fun xs H Q => ∃ p ys, xs = [.ref p] ∧ (SqL K H p ys ∨ SqT K H p ys) ∧ Q (.int ys.length) H) := by
  subst h
  exact call_len_seq
/-! ### errors -/
/-- an error's __init__ stores its fields -/
def spErr1 (K : PySem.W.Frag) (C : Addr) (f : Str) : Sp := fun vs H Q _ => ∃ (a : Addr) (v : V), vs = [.ref a, v] ∧ H a = some (exo a C none) ∧ ∀ dx, H dx = none → dx ≠ a → Q .non (upd (upd H dx (exd dx [(f, v)])) a (exo a C (some dx)))
def spErr2 (K : PySem.W.Frag) (C : Addr) (f g : Str) : Sp := fun vs H Q _ => ∃ (a : Addr) (v u : V), vs = [.ref a, v, u] ∧ H a = some (exo a C none) ∧
  ∀ dx, H dx = none → dx ≠ a → Q .non (upd (upd (upd H dx (exd dx [(f, v)])) a (exo a C (some dx))) dx (exd dx [(g, u), (f, v)]))
theorem exo_ne_exd {a C dx b : Addr} {fs : List (Str × V)} {d : Option Addr} : a ≠ b ∨ a = b := by
  by_cases h : a = b
  · exact .inr h
  · exact .inl h
theorem read_err1 {C : Addr} {f : Str} (T : OxE K C) (nf : PySem.W.findIn K (.ref C) f = some none) {N : List Str} (hn : N.length = 2) (vs : List V) (H : Hp) (Q : VK) (E : XK) (h : spErr1 K C f vs H Q E) :
    (tOse K f (tVar 0) (tVar 1)) { nx := fun _ H' => Q .non H', rt := Q } (start N vs) H := by
  obtain ⟨a, v, rfl, ha, k⟩ := h
  unfold L2.start
  rw [hn]
  exact ⟨_, rfl, _, rfl, a, C, rfl, T, nf, .inl ⟨ha, k⟩⟩
theorem read_err2 {C : Addr} {f g : Str} (T : OxE K C) (nf : PySem.W.findIn K (.ref C) f = some none) (ng : PySem.W.findIn K (.ref C) g = some none) {N : List Str} (hn : N.length = 3) (vs : List V) (H : Hp) (Q : VK) (E : XK) (h : spErr2 K C f g vs H Q E) :
    (tSeq (tOse K f (tVar 0) (tVar 1)) (tOse K g (tVar 0) (tVar 2))) { nx := fun _ H' => Q .non H', rt := Q } (start N vs) H := by
  obtain ⟨a, v, u, rfl, ha, k⟩ := h
  unfold L2.start
  rw [hn]
  refine ⟨_, rfl, _, rfl, a, C, rfl, T, nf, .inl ⟨ha, fun dx hd ne => ?_⟩⟩
  exact ⟨_, rfl, _, rfl, a, C, rfl, T, ng, .inr ⟨dx, [(f, v)], upd_same, by rw [upd_ne ne, upd_same], by show 1 ≤ 900; decide, k dx hd ne⟩⟩
theorem ok_GrammarFault_init (T : Txt K mg) : FnOk P w K mg base CX0 1 (a_GrammarFault_init K) T.fd_GrammarFault_init p_GrammarFault_init (spErr1 K (c_GrammarFault K) "place") := by
  refine T.F_GrammarFault_init.ok sc_GrammarFault_init (fun vs H Q E h => ?_) (fun cdv A outer s H vs Q E hr h => ⟨_, PSs.nox (pss_one (ps_ose (pv 0) (pv 1))), read_err1 T.x_GrammarFault T.nf_GrammarFault_place rfl vs H Q E h⟩)
  obtain ⟨a, v, rfl, _⟩ := h
  rfl
theorem ok_TextFault_init (T : Txt K mg) : FnOk P w K mg base CX0 1 (a_TextFault_init K) T.fd_TextFault_init p_TextFault_init (spErr2 K (c_TextFault K) "kind" "place") := by
  refine T.F_TextFault_init.ok sc_TextFault_init (fun vs H Q E h => ?_) (fun cdv A outer s H vs Q E hr h => ⟨_, PSs.nox (pss_cons (ps_ose (pv 0) (pv 1)) (pss_one (ps_ose (pv 0) (pv 2)))), read_err2 T.x_TextFault T.nf_TextFault_kind T.nf_TextFault_place rfl vs H Q E h⟩)
  obtain ⟨a, v, u, rfl, _⟩ := h
  rfl
theorem ok_LineFault_init (T : Txt K mg) : FnOk P w K mg base CX0 1 (a_LineFault_init K) T.fd_LineFault_init p_LineFault_init (spErr2 K (c_LineFault K) "kind" "place") := by
  refine T.F_LineFault_init.ok sc_LineFault_init (fun vs H Q E h => ?_) (fun cdv A outer s H vs Q E hr h => ⟨_, PSs.nox (pss_cons (ps_ose (pv 0) (pv 1)) (pss_one (ps_ose (pv 0) (pv 2)))), read_err2 T.x_LineFault T.nf_LineFault_kind T.nf_LineFault_place rfl vs H Q E h⟩)
  obtain ⟨a, v, u, rfl, _⟩ := h
  rfl
theorem okH_TextFault_init (T : Txt K mg) : L2H.FnH P w K mg base CX0 1 (a_TextFault_init K) T.fd_TextFault_init p_TextFault_init (spErr2 K (c_TextFault K) "kind" "place") := by
  refine TfX.FunD.okH T.F_TextFault_init sc_TextFault_init (fun vs H Q E h => ?_) (fun cdv A outer s H vs Q E p hr h => ⟨_, PSs.nox (pss_cons (ps_ose (pv 0) (pv 1)) (pss_one (ps_ose (pv 0) (pv 2)))), read_err2 T.x_TextFault T.nf_TextFault_kind T.nf_TextFault_place rfl vs H Q E h⟩)
  obtain ⟨a, v, u, rfl, _⟩ := h
  rfl
theorem okH_LineFault_init (T : Txt K mg) : L2H.FnH P w K mg base CX0 1 (a_LineFault_init K) T.fd_LineFault_init p_LineFault_init (spErr2 K (c_LineFault K) "kind" "place") := by
  refine TfX.FunD.okH T.F_LineFault_init sc_LineFault_init (fun vs H Q E h => ?_) (fun cdv A outer s H vs Q E p hr h => ⟨_, PSs.nox (pss_cons (ps_ose (pv 0) (pv 1)) (pss_one (ps_ose (pv 0) (pv 2)))), read_err2 T.x_LineFault T.nf_LineFault_kind T.nf_LineFault_place rfl vs H Q E h⟩)
  obtain ⟨a, v, u, rfl, _⟩ := h
  rfl
/-! ### records: an __init__ that stores its arguments -/
/-- what is tracked but a stands as it was -/
def But (a : Addr) (H H' : Hp) : Prop := ∀ b o, H b = some o → b ≠ a → H' b = some o
theorem But.refl {a : Addr} {H : Hp} : But a H H := fun _ _ h _ => h
theorem But.trans {a : Addr} {H H1 H2 : Hp} (x : But a H H1) (y : But a H1 H2) : But a H H2 := fun b o h n => y b o (x b o h n) n
theorem But.same {a : Addr} {H H1 H2 : Hp} (x : But a H H1) (y : Same H1 H2) : But a H H2 := fun b o h n => y b o (x b o h n)
theorem Same.but {a : Addr} {H H1 H2 : Hp} (x : Same H H1) (y : But a H1 H2) : But a H H2 := fun b o h n => y b o (x b o h) n
theorem Same.toBut {a : Addr} {H H1 : Hp} (x : Same H H1) : But a H H1 := fun b o h _ => x b o h
theorem But.upd {a : Addr} {H : Hp} {o : HO} : But a H (upd H a o) := fun b u h n => by rw [upd_ne n]; exact h
theorem Same.upd {a : Addr} {H : Hp} {o : HO} (n : H a = none) : Same H (upd H a o) := fun b u h => by rw [upd_ne (ne_of_none h n)]; exact h
theorem But.toSame {a : Addr} {H H' : Hp} (x : But a H H') (n : H a = none) : Same H H' := fun b o h => x b o h (ne_of_none h n)
/-- a new instance -/
theorem made_same {H H1 : Hp} {x dx C : Addr} (nx : H x = none) (nd : H dx = none) (k : But x (L2.upd (L2.upd H dx (.own x)) x (.ins C dx [])) H1) : Same H H1 := Same.made nx nd k
def posF (b k t : V) : List (Str × V) := [("board", b), ("king", k), ("turn", t)]
def spPosInit (K : PySem.W.Frag) : Sp := fun vs H Q _ => ∃ (p dx : Addr) (b k t : V), vs = [.ref p, b, k, t] ∧ H p = some (.ins (c_Position K) dx []) ∧ ∀ H', H' p = some (.ins (c_Position K) dx (posF b k t)) → But p H H' → Q .non H'
theorem ok_Position_init (T : Txt K mg) : FnOk P w K mg base CX0 1 (a_Position_init K) T.fd_Position_init p_Position_init (spPosInit K) := by
  refine T.F_Position_init.ok sc_Position_init (fun vs H Q E h => ?_) (fun cdv A outer s H vs Q E hr h => ⟨_, PSs.nox (pss_cons (ps_fld (pv 0) (pv 1) rfl)
      (pss_cons (ps_fld (pv 0) (pv 2) rfl)
      (pss_one (ps_fld (pv 0) (pv 3) rfl)))), ?_⟩)
  · obtain ⟨p, dx, b, k, t, rfl, _⟩ := h
    rfl
  · obtain ⟨p, dx, b, k, t, rfl, hp, q⟩ := h
    refine ⟨_, rfl, _, rfl, p, _, dx, [], rfl, hp, T.cl_Position, T.na_Position_board, (by show 0 < 1000; decide), ?_⟩
    refine ⟨_, rfl, _, rfl, p, _, dx, _, rfl, upd_same, T.cl_Position, T.na_Position_king, (by show 1 < 1000; decide), ?_⟩
    refine ⟨_, rfl, _, rfl, p, _, dx, _, rfl, upd_same, T.cl_Position, T.na_Position_turn, (by show 2 < 1000; decide), ?_⟩
    exact q _ upd_same ((But.upd.trans But.upd).trans But.upd)
def madF (p t : V) : List (Str × V) := [("position", p), ("taken", t)]
def spMadInit (K : PySem.W.Frag) : Sp := fun vs H Q _ => ∃ (p dx : Addr) (b k : V), vs = [.ref p, b, k] ∧ H p = some (.ins (c_Made K) dx []) ∧ ∀ H', H' p = some (.ins (c_Made K) dx (madF b k)) → But p H H' → Q .non H'
theorem ok_Made_init (T : Txt K mg) : FnOk P w K mg base CX0 1 (a_Made_init K) T.fd_Made_init p_Made_init (spMadInit K) := by
  refine T.F_Made_init.ok sc_Made_init (fun vs H Q E h => ?_) (fun cdv A outer s H vs Q E hr h => ⟨_, PSs.nox (pss_cons (ps_fld (pv 0) (pv 1) rfl)
      (pss_one (ps_fld (pv 0) (pv 2) rfl))), ?_⟩)
  · obtain ⟨p, dx, b, k, rfl, _⟩ := h
    rfl
  · obtain ⟨p, dx, b, k, rfl, hp, q⟩ := h
    refine ⟨_, rfl, _, rfl, p, _, dx, [], rfl, hp, T.cl_Made, T.na_Made_position, (by show 0 < 1000; decide), ?_⟩
    refine ⟨_, rfl, _, rfl, p, _, dx, _, rfl, upd_same, T.cl_Made, T.na_Made_taken, (by show 1 < 1000; decide), ?_⟩
    exact q _ upd_same (But.upd.trans But.upd)
def fouF (o w r : V) : List (Str × V) := [("over_by", o), ("worth", w), ("row", r)]
def spFouInit (K : PySem.W.Frag) : Sp := fun vs H Q _ => ∃ (p dx : Addr) (b k t : V), vs = [.ref p, b, k, t] ∧ H p = some (.ins (c_Found K) dx []) ∧ ∀ H', H' p = some (.ins (c_Found K) dx (fouF b k t)) → But p H H' → Q .non H'
theorem ok_Found_init (T : Txt K mg) : FnOk P w K mg base CX0 1 (a_Found_init K) T.fd_Found_init p_Found_init (spFouInit K) := by
  refine T.F_Found_init.ok sc_Found_init (fun vs H Q E h => ?_) (fun cdv A outer s H vs Q E hr h => ⟨_, PSs.nox (pss_cons (ps_fld (pv 0) (pv 1) rfl)
      (pss_cons (ps_fld (pv 0) (pv 2) rfl)
      (pss_one (ps_fld (pv 0) (pv 3) rfl)))), ?_⟩)
  · obtain ⟨p, dx, b, k, t, rfl, _⟩ := h
    rfl
  · obtain ⟨p, dx, b, k, t, rfl, hp, q⟩ := h
    refine ⟨_, rfl, _, rfl, p, _, dx, [], rfl, hp, T.cl_Found, T.na_Found_over_by, (by show 0 < 1000; decide), ?_⟩
    refine ⟨_, rfl, _, rfl, p, _, dx, _, rfl, upd_same, T.cl_Found, T.na_Found_worth, (by show 1 < 1000; decide), ?_⟩
    refine ⟨_, rfl, _, rfl, p, _, dx, _, rfl, upd_same, T.cl_Found, T.na_Found_row, (by show 2 < 1000; decide), ?_⟩
    exact q _ upd_same ((But.upd.trans But.upd).trans But.upd)
def seaF (h w l : V) : List (Str × V) := [("hall", h), ("weights", w), ("left", l)]
def spSeaInit (K : PySem.W.Frag) : Sp := fun vs H Q _ => ∃ (p dx : Addr) (b k t : V), vs = [.ref p, b, k, t] ∧ H p = some (.ins (c_Search K) dx []) ∧ ∀ H', H' p = some (.ins (c_Search K) dx (seaF b k t)) → But p H H' → Q .non H'
theorem ok_Search_init (T : Txt K mg) : FnOk P w K mg base CX0 1 (a_Search_init K) T.fd_Search_init p_Search_init (spSeaInit K) := by
  refine T.F_Search_init.ok sc_Search_init (fun vs H Q E h => ?_) (fun cdv A outer s H vs Q E hr h => ⟨_, PSs.nox (pss_cons (ps_fld (pv 0) (pv 1) rfl)
      (pss_cons (ps_fld (pv 0) (pv 2) rfl)
      (pss_one (ps_fld (pv 0) (pv 3) rfl)))), ?_⟩)
  · obtain ⟨p, dx, b, k, t, rfl, _⟩ := h
    rfl
  · obtain ⟨p, dx, b, k, t, rfl, hp, q⟩ := h
    refine ⟨_, rfl, _, rfl, p, _, dx, [], rfl, hp, T.cl_Search, T.na_Search_hall, (by show 0 < 1000; decide), ?_⟩
    refine ⟨_, rfl, _, rfl, p, _, dx, _, rfl, upd_same, T.cl_Search, T.na_Search_weights, (by show 1 < 1000; decide), ?_⟩
    refine ⟨_, rfl, _, rfl, p, _, dx, _, rfl, upd_same, T.cl_Search, T.na_Search_left, (by show 2 < 1000; decide), ?_⟩
    exact q _ upd_same ((But.upd.trans But.upd).trans But.upd)
def spLooInit (K : PySem.W.Frag) : Sp := fun vs H Q _ => ∃ (p dx : Addr), vs = [.ref p] ∧ H p = some (.ins (c_Looker K) dx []) ∧ ∀ H', H' p = some (.ins (c_Looker K) dx [("hall", .non)]) → But p H H' → Q .non H'
theorem ok_Looker_init (T : Txt K mg) : FnOk P w K mg base CX0 1 (a_Looker_init K) T.fd_Looker_init p_Looker_init (spLooInit K) := by
  refine T.F_Looker_init.ok sc_Looker_init (fun vs H Q E h => ?_) (fun cdv A outer s H vs Q E hr h => ⟨_, PSs.nox (pss_one (ps_fld (pv 0) pe_non rfl)), ?_⟩)
  · obtain ⟨p, dx, rfl, _⟩ := h
    rfl
  · obtain ⟨p, dx, rfl, hp, q⟩ := h
    refine ⟨_, rfl, p, _, dx, [], rfl, hp, T.cl_Looker, T.na_Looker_hall, (by show 0 < 1000; decide), ?_⟩
    exact q _ upd_same But.upd
/-! ### a reader -/
def bv (b : Tafl.Bytes) : List V := b.map fun c => V.int c.toNat
def rdF (t k : V) : List (Str × V) := [("text", t), ("place", k)]
structure RdAt (K : PySem.W.Frag) (H : Hp) (r : Addr) (b : Tafl.Bytes) (k : Nat) (t dx : Addr) : Prop where
  ins : H r = some (.ins (c_Reader K) dx (rdF (.ref t) (.int k)))
  txt : H t = some (.lst (bv b))
theorem RdAt.same {H H' : Hp} {r : Addr} {b : Tafl.Bytes} {k : Nat} {t dx : Addr} (R : RdAt K H r b k t dx) (s : Same H H') : RdAt K H' r b k t dx := ⟨s _ _ R.ins, s _ _ R.txt⟩
theorem RdAt.ne {H : Hp} {r : Addr} {b : Tafl.Bytes} {k : Nat} {t dx : Addr} (R : RdAt K H r b k t dx) : t ≠ r := ne_of R.txt R.ins (by intro z; cases z)
theorem RdAt.set {H : Hp} {r : Addr} {b : Tafl.Bytes} {k j : Nat} {t dx : Addr} (R : RdAt K H r b k t dx) : RdAt K (L2.upd H r (.ins (c_Reader K) dx (rdF (.ref t) (.int j)))) r b j t dx := ⟨upd_same, by rw [upd_ne R.ne]; exact R.txt⟩
def spRdInit (K : PySem.W.Frag) : Sp := fun vs H Q _ => ∃ (p dx : Addr) (t : V), vs = [.ref p, t] ∧ H p = some (.ins (c_Reader K) dx []) ∧ ∀ H', H' p = some (.ins (c_Reader K) dx (rdF t (.int 0))) → But p H H' → Q .non H'
theorem ok_Reader_init (T : Txt K mg) : FnOk P w K mg base CX0 1 (a_Reader_init K) T.fd_Reader_init p_Reader_init (spRdInit K) := by
  refine T.F_Reader_init.ok sc_Reader_init (fun vs H Q E h => ?_) (fun cdv A outer s H vs Q E hr h => ⟨_, PSs.nox (pss_cons (ps_fld (pv 0) (pv 1) rfl)
      (pss_one (ps_fld (pv 0) pe_int rfl))), ?_⟩)
  · obtain ⟨p, dx, t, rfl, _⟩ := h
    rfl
  · obtain ⟨p, dx, t, rfl, hp, q⟩ := h
    refine ⟨_, rfl, _, rfl, p, _, dx, [], rfl, hp, T.cl_Reader, T.na_Reader_text, (by show 0 < 1000; decide), ?_⟩
    refine ⟨_, rfl, p, _, dx, _, rfl, upd_same, T.cl_Reader, T.na_Reader_place, (by show 1 < 1000; decide), ?_⟩
    exact q _ upd_same (But.upd.trans But.upd)
/-- the byte that comes, or 256 -/
def signI (b : Tafl.Bytes) (k : Nat) : Int := match b[k]? with
  | some c => (c.toNat : Int)
  | none => 256
theorem signI_some {b : Tafl.Bytes} {k : Nat} {c : UInt8} (h : b[k]? = some c) : signI b k = (c.toNat : Int) := by
  unfold signI
  rw [h]
theorem signI_none {b : Tafl.Bytes} {k : Nat} (h : b[k]? = none) : signI b k = 256 := by
  unfold signI
  rw [h]
def spSign (K : PySem.W.Frag) : Sp := fun vs H Q _ => ∃ (r : Addr) (b : Tafl.Bytes) (k : Nat) (t dx : Addr), vs = [.ref r] ∧ RdAt K H r b k t dx ∧ Q (.int (signI b k)) H
theorem ok_Reader_sign (T : Txt K mg) : FnOk P w K mg base CX0 1 (a_Reader_sign K) T.fd_Reader_sign p_Reader_sign (spSign K) := by
  refine T.F_Reader_sign.ok sc_Reader_sign (fun vs H Q E h => ?_) (fun cdv A outer s H vs Q E hr h => ⟨_, PSs.nox (pss_cons (ps_if (pt_cmpR op_lt (pe_fld (pv 0) rfl) (pe_callB call_len_seq (by rfl) T.m_len (by decide +kernel) (pa_cons (pe_fld (pv 0) rfl) pa_nil)) (nomark _)) (pss_one (ps_ret (pe_ix ix_list (pe_fld (pv 0) rfl) (pe_fld (pv 0) rfl) (fun _ _ => rfl)))) pss_nil)
      (pss_one (ps_ret (pe_glob (v := .int 256) rfl T.c_END ⟨_, rfl⟩)))), ?_⟩)
  · obtain ⟨r, b, k, t, dx, rfl, _⟩ := h
    rfl
  · obtain ⟨r, b, k, t, dx, rfl, R, q⟩ := h
    have hlen : (bv b).length = b.length := List.length_map ..
    refine ⟨_, rfl, r, _, dx, _, _, rfl, R.ins, T.cl_Reader, T.na_Reader_place, rfl, _, rfl, r, _, dx, _, _, rfl, R.ins, T.cl_Reader, T.na_Reader_text, rfl, t, bv b, rfl, .inl (SqL.of R.txt), _, _, rfl, rfl, _, rfl, ?_⟩
    rw [hlen]
    by_cases c : (k : Int) < (b.length : Int)
    · refine ifT (decide_eq_true c) ?_
      have c' : k < b.length := by omega
      have e1 : (bv b)[k]? = some (.int (b[k]).toNat) := by
        unfold bv
        rw [List.getElem?_map, List.getElem?_eq_getElem c']
        rfl
      refine ⟨_, rfl, r, _, dx, _, _, rfl, R.ins, T.cl_Reader, T.na_Reader_text, rfl, _, rfl, r, _, dx, _, _, rfl, R.ins, T.cl_Reader, T.na_Reader_place, rfl, t, bv b, _, _, rfl, rfl, SqL.of R.txt, atI_nat e1, ?_⟩
      have e2 := signI_some (List.getElem?_eq_getElem c')
      rw [e2] at q
      exact q
    · refine ifF (decide_eq_false c) ?_
      have e2 : signI b k = 256 := signI_none (List.getElem?_eq_none (by omega))
      rw [e2] at q
      exact q
def spGoOn (K : PySem.W.Frag) : Sp := fun vs H Q _ => ∃ (r : Addr) (b : Tafl.Bytes) (k : Nat) (t dx : Addr), vs = [.ref r] ∧ RdAt K H r b k t dx ∧ Q .non (L2.upd H r (.ins (c_Reader K) dx (rdF (.ref t) (.int ((k + 1 : Nat) : Int)))))
theorem ok_Reader_go_on (T : Txt K mg) : FnOk P w K mg base CX0 1 (a_Reader_go_on K) T.fd_Reader_go_on p_Reader_go_on (spGoOn K) := by
  refine T.F_Reader_go_on.ok sc_Reader_go_on (fun vs H Q E h => ?_) (fun cdv A outer s H vs Q E hr h => ⟨_, PSs.nox (pss_one (ps_fldaug (pv 0) pe_int in_add)), ?_⟩)
  · obtain ⟨r, b, k, t, dx, rfl, _⟩ := h
    rfl
  · obtain ⟨r, b, k, t, dx, rfl, R, q⟩ := h
    exact ⟨_, rfl, r, _, dx, _, _, rfl, R.ins, T.cl_Reader, T.na_Reader_place, rfl, _, _, rfl, rfl, dx, _, R.ins, (by show 2 < 1000; decide), q⟩
end
end Tf
set_option Elab.async false
set_option linter.all false
set_option maxRecDepth 100000
set_option maxHeartbeats 2000000
/-! Signs, numbers, words, names. -/
namespace Tf
open PySem PySem.Spec PyProof.Rows L2 TfX TfM
section
variable {P : Program} {w : World} {K : PySem.W.Frag} {mg : Str → Option Value} {base : Heap}
theorem seq_by {t u : TS} {D : Ends} {σ : L2.St} {H : Hp} (Fin : L2.St → Hp → Prop) (hF : ∀ σ' H', Fin σ' H' → u D σ' H') (h : (∀ σ' H', Fin σ' H' → u D σ' H') → t { D with nx := u D } σ H) : tSeq t u D σ H := h hF
theorem dec_int {a b : Int} : decide (V.int a = V.int b) = decide (a = b) := by
  by_cases h : a = b
  · rw [decide_eq_true h, decide_eq_true (by rw [h])]
  · rw [decide_eq_false h, decide_eq_false (by intro z; injection z with z; exact h z)]
def kIx : Tafl.Kind → Nat
  | .plain => 0
  | .seat => 1
  | .exit => 2
  | .wall => 3
def pIx : Tafl.Piece → Nat
  | .none => 0
  | .hunter => 1
  | .man => 2
  | .king => 3
/-- nobody may be anywhere -/
def msB (p : Tafl.Piece) (k : Tafl.Kind) : Bool := match p with
  | .none => true
  | p => Tafl.mayStand p k
def spMayStand : Sp := fun vs H Q _ => ∃ (k : Tafl.Kind) (p : Tafl.Piece), vs = [.int (kIx k), .int (pIx p)] ∧ Q (.bl (msB p k)) H
theorem ok_may_stand (T : Txt K mg) : FnOk P w K mg base CX0 1 (a_may_stand K) T.fd_may_stand p_may_stand spMayStand := by
  refine T.F_may_stand.ok sc_may_stand (fun vs H Q E h => ?_) (fun cdv A outer s H vs Q E hr h => ⟨_, PSs.nox (pss_cons (ps_if (PW.pt (pw_or (pt_cmpR op_eq (pv 1) (pe_glob (v := .int 0) rfl T.c_NOBODY ⟨_, rfl⟩) (nomark _)) (pw_or1 (pt_cmpR op_eq (pv 0) (pe_glob (v := .int 0) rfl T.c_PLAIN ⟨_, rfl⟩) (nomark _))))) (pss_one (ps_ret pe_bl)) pss_nil)
      (pss_one (ps_ret (pe_and (pe_cmpR op_eq (pv 1) (pe_glob (v := .int 3) rfl T.c_KING ⟨_, rfl⟩) (nomark _)) (pe_one (pe_cmpR op_ne (pv 0) (pe_glob (v := .int 3) rfl T.c_WALL ⟨_, rfl⟩) (nomark _))))))), ?_⟩)
  · obtain ⟨k, p, rfl, _⟩ := h
    rfl
  · obtain ⟨k, p, rfl, q⟩ := h
    refine ⟨_, rfl, rfl, _, rfl, ?_⟩
    cases p with
    | none => exact ifT rfl (ifT rfl q)
    | hunter =>
      refine ifF rfl ⟨_, rfl, rfl, _, rfl, ?_⟩
      cases k with
      | plain => exact ifT rfl q
      | seat => exact ifF rfl ⟨_, rfl, rfl, _, rfl, ifF rfl q⟩
      | exit => exact ifF rfl ⟨_, rfl, rfl, _, rfl, ifF rfl q⟩
      | wall => exact ifF rfl ⟨_, rfl, rfl, _, rfl, ifF rfl q⟩
    | man =>
      refine ifF rfl ⟨_, rfl, rfl, _, rfl, ?_⟩
      cases k with
      | plain => exact ifT rfl q
      | seat => exact ifF rfl ⟨_, rfl, rfl, _, rfl, ifF rfl q⟩
      | exit => exact ifF rfl ⟨_, rfl, rfl, _, rfl, ifF rfl q⟩
      | wall => exact ifF rfl ⟨_, rfl, rfl, _, rfl, ifF rfl q⟩
    | king =>
      refine ifF rfl ⟨_, rfl, rfl, _, rfl, ?_⟩
      cases k with
      | plain => exact ifT rfl q
      | seat => exact ifF rfl ⟨_, rfl, rfl, _, rfl, ifT rfl ⟨_, rfl, rfl, q⟩⟩
      | exit => exact ifF rfl ⟨_, rfl, rfl, _, rfl, ifT rfl ⟨_, rfl, rfl, q⟩⟩
      | wall => exact ifF rfl ⟨_, rfl, rfl, _, rfl, ifT rfl ⟨_, rfl, rfl, q⟩⟩
/-- on the edge -/
def edgeB (w h c : Nat) : Bool := c % 13 == 0 || (c / 13 == 0 || (c % 13 + 1 == w || c / 13 + 1 == h))
def spOnEdge : Sp := fun vs H Q _ => ∃ (w h c : Nat), vs = [.int w, .int h, .int c] ∧ Q (.bl (edgeB w h c)) H
theorem ok_on_edge (T : Txt K mg) : FnOk P w K mg base CX0 1 (a_on_edge K) T.fd_on_edge p_on_edge spOnEdge := by
  refine T.F_on_edge.ok sc_on_edge (fun vs H Q E h => ?_) (fun cdv A outer s H vs Q E hr h => ⟨_, PSs.nox (pss_cons (ps_set (i := 3) sc_on_edge.nd rfl (Or.inl rfl) (pe_op op_mod (pv 2) (pe_glob (v := .int 13) rfl T.c_ACROSS ⟨_, rfl⟩)))
      (pss_cons (ps_set (i := 4) sc_on_edge.nd rfl (Or.inl rfl) (pe_op op_fdiv (pv 2) (pe_glob (v := .int 13) rfl T.c_ACROSS ⟨_, rfl⟩)))
      (pss_one (ps_ret (pe_or (pe_cmpR op_eq (pv 3) pe_int (nomark _)) (pe_or (pe_cmpR op_eq (pv 4) pe_int (nomark _)) (pe_or (pe_cmpR op_eq (pv 3) (pe_op op_sub (pv 0) pe_int) (nomark _)) (pe_one (pe_cmpR op_eq (pv 4) (pe_op op_sub (pv 1) pe_int) (nomark _)))))))))), ?_⟩)
  · obtain ⟨a, b, c, rfl, _⟩ := h
    rfl
  · obtain ⟨a, b, c, rfl, q⟩ := h
    refine ⟨_, rfl, _, _, rfl, rfl, (by show (0 : Int) < 13; decide), ?_⟩
    refine ⟨_, rfl, _, _, rfl, rfl, ⟨by decide, by decide⟩, ?_⟩
    refine ⟨_, rfl, rfl, _, rfl, ?_⟩
    have e1 : decide (V.int ((c : Int) % 13) = V.int 0) = (c % 13 == 0) := by
      rw [dec_int, Bool.eq_iff_iff]
      simp only [decide_eq_true_eq, beq_iff_eq]
      omega
    have e2 : decide (V.int ((c : Int) / 13) = V.int 0) = (c / 13 == 0) := by
      rw [dec_int, Bool.eq_iff_iff]
      simp only [decide_eq_true_eq, beq_iff_eq]
      omega
    have e3 : decide (V.int ((c : Int) % 13) = V.int ((a : Int) - 1)) = (c % 13 + 1 == a) := by
      rw [dec_int, Bool.eq_iff_iff]
      simp only [decide_eq_true_eq, beq_iff_eq]
      omega
    have e4 : decide (V.int ((c : Int) / 13) = V.int ((b : Int) - 1)) = (c / 13 + 1 == b) := by
      rw [dec_int, Bool.eq_iff_iff]
      simp only [decide_eq_true_eq, beq_iff_eq]
      omega
    rw [e1]
    unfold edgeB at q
    refine ifB (fun h1 => ?_) fun h1 => ?_
    · rw [h1] at q
      exact q
    rw [h1, Bool.false_or] at q
    refine ⟨_, rfl, rfl, _, rfl, ?_⟩
    rw [e2]
    refine ifB (fun h2 => ?_) fun h2 => ?_
    · rw [h2] at q
      exact q
    rw [h2, Bool.false_or] at q
    refine ⟨_, rfl, _, rfl, _, _, rfl, rfl, rfl, _, rfl, ?_⟩
    rw [e3]
    refine ifB (fun h3 => ?_) fun h3 => ?_
    · rw [h3] at q
      exact q
    rw [h3, Bool.false_or] at q
    refine ⟨_, rfl, _, rfl, _, _, rfl, rfl, rfl, ?_⟩
    rw [e4]
    exact q
def digI (n : Int) : Bool := decide (48 ≤ n) && decide (n ≤ 57)
def lettI (n : Int) : Bool := (decide (65 ≤ n) && decide (n ≤ 90)) || (decide (97 ≤ n) && decide (n ≤ 122))
def spIsDigit : Sp := fun vs H Q _ => ∃ n : Int, vs = [.int n] ∧ Q (.bl (digI n)) H
theorem ok_is_digit (T : Txt K mg) : FnOk P w K mg base CX0 1 (a_is_digit K) T.fd_is_digit p_is_digit spIsDigit := by
  refine T.F_is_digit.ok sc_is_digit (fun vs H Q E h => ?_) (fun cdv A outer s H vs Q E hr h => ⟨_, PSs.nox (pss_one (ps_ret (pe_chain op_le op_le (pe_callB call_ord (by rfl) T.m_ord (by decide +kernel) (pa_cons pe_str pa_nil)) (pv 0) (pe_callB call_ord (by rfl) T.m_ord (by decide +kernel) (pa_cons pe_str pa_nil))))), ?_⟩)
  · obtain ⟨n, rfl, _⟩ := h
    rfl
  · obtain ⟨n, rfl, q⟩ := h
    refine ⟨_, rfl, rfl, _, rfl, _, _, rfl, rfl, _, rfl, ?_⟩
    unfold digI at q
    refine ifB (fun h1 => ?_) fun h1 => ?_
    · refine ⟨_, rfl, rfl, _, _, rfl, rfl, ?_⟩
      have h1' : decide (48 ≤ n) = true := h1
      rw [h1', Bool.true_and] at q
      exact q
    · have h1' : decide (48 ≤ n) = false := h1
      rw [h1', Bool.false_and] at q
      exact q
def spIsLetter : Sp := fun vs H Q _ => ∃ n : Int, vs = [.int n] ∧ Q (.bl (lettI n)) H
theorem ok_is_letter (T : Txt K mg) : FnOk P w K mg base CX0 1 (a_is_letter K) T.fd_is_letter p_is_letter spIsLetter := by
  refine T.F_is_letter.ok sc_is_letter (fun vs H Q E h => ?_) (fun cdv A outer s H vs Q E hr h => ⟨_, PSs.nox (pss_one (ps_ret (pe_or (pe_chain op_le op_le (pe_callB call_ord (by rfl) T.m_ord (by decide +kernel) (pa_cons pe_str pa_nil)) (pv 0) (pe_callB call_ord (by rfl) T.m_ord (by decide +kernel) (pa_cons pe_str pa_nil))) (pe_one (pe_chain op_le op_le (pe_callB call_ord (by rfl) T.m_ord (by decide +kernel) (pa_cons pe_str pa_nil)) (pv 0) (pe_callB call_ord (by rfl) T.m_ord (by decide +kernel) (pa_cons pe_str pa_nil))))))), ?_⟩)
  · obtain ⟨n, rfl, _⟩ := h
    rfl
  · obtain ⟨n, rfl, q⟩ := h
    have tail : ∀ c : Bool, c = (decide (65 ≤ n) && decide (n ≤ 90)) → Q (.bl (c || (decide (97 ≤ n) && decide (n ≤ 122)))) H := fun c hc => by
      rw [hc]
      exact q
    refine ⟨_, rfl, rfl, _, rfl, _, _, rfl, rfl, _, rfl, ?_⟩
    refine ifB (fun h1 => ?_) fun h1 => ?_
    · have h1' : decide (65 ≤ n) = true := h1
      refine ⟨_, rfl, rfl, _, _, rfl, rfl, _, rfl, ?_⟩
      refine ifB (fun h2 => ?_) fun h2 => ?_
      · have h2' : decide (n ≤ 90) = true := h2
        have q1 := tail true (by rw [h1', h2'] <;> rfl)
        rw [Bool.true_or] at q1
        exact q1
      · have h2' : decide (n ≤ 90) = false := h2
        have q2 := tail false (by rw [h1', h2'] <;> rfl)
        rw [Bool.false_or] at q2
        refine ⟨_, rfl, rfl, _, rfl, _, _, rfl, rfl, _, rfl, ?_⟩
        refine ifB (fun h3 => ?_) fun h3 => ?_
        · refine ⟨_, rfl, rfl, _, _, rfl, rfl, ?_⟩
          have h3' : decide (97 ≤ n) = true := h3
          rw [h3', Bool.true_and] at q2
          exact q2
        · have h3' : decide (97 ≤ n) = false := h3
          rw [h3', Bool.false_and] at q2
          exact q2
    · have h1' : decide (65 ≤ n) = false := h1
      have q2 := tail false (by rw [h1', Bool.false_and])
      rw [Bool.false_or] at q2
      refine ⟨_, rfl, ifF rfl ⟨_, rfl, rfl, _, rfl, _, _, rfl, rfl, _, rfl, ?_⟩⟩
      refine ifB (fun h3 => ?_) fun h3 => ?_
      · refine ⟨_, rfl, rfl, _, _, rfl, rfl, ?_⟩
        have h3' : decide (97 ≤ n) = true := h3
        rw [h3', Bool.true_and] at q2
        exact q2
      · have h3' : decide (97 ≤ n) = false := h3
        rw [h3', Bool.false_and] at q2
        exact q2
def spLeads : Sp := fun vs H Q _ => ∃ v lo hi : Nat, vs = [.int v, .int lo, .int hi] ∧ hi < 1000000 ∧ Q (.bl (decide (0 < v) && Tafl.begins lo hi v)) H
theorem ok_leads_to (T : Txt K mg) : FnOk P w K mg base CX0 1 (a_leads_to K) T.fd_leads_to p_leads_to spLeads := by
  refine T.F_leads_to.ok sc_leads_to (fun vs H Q E h => ?_) (fun cdv A outer s H vs Q E hr h => ⟨_, PSs.nox (pss_cons (ps_if (pt_cmpR op_eq (pv 0) pe_int (nomark _)) (pss_one (ps_ret pe_bl)) pss_nil)
      (pss_cons (ps_set (i := 3) sc_leads_to.nd rfl (Or.inl rfl) (pv 0))
      (pss_cons (ps_set (i := 4) sc_leads_to.nd rfl (Or.inl rfl) (pv 0))
      (pss_cons (ps_while PassesOwn.never (pt_cmpR op_le (pv 3) (pv 2) (nomark _)) (pss_cons (ps_if (pt_cmpR op_ge (pv 4) (pv 1) (nomark _)) (pss_one (ps_ret pe_bl)) pss_nil)
      (pss_cons (ps_set (i := 3) sc_leads_to.nd rfl (Or.inl rfl) (pe_op op_mul pe_int (pv 3)))
      (pss_one (ps_set (i := 4) sc_leads_to.nd rfl (Or.inl rfl) (pe_op op_add (pe_op op_mul pe_int (pv 4)) pe_int))))))
      (pss_one (ps_ret pe_bl)))))), ?_⟩)
  · obtain ⟨a, b, c, rfl, _⟩ := h
    rfl
  · obtain ⟨v, lo, hi, rfl, hh, q⟩ := h
    refine ⟨_, rfl, rfl, _, rfl, ?_⟩
    rw [dec_int]
    refine ifB (fun h0 => ?_) fun h0 => ?_
    · have e : (v : Int) = 0 := of_decide_eq_true h0
      have e1 : decide (0 < v) = false := decide_eq_false (by omega)
      rw [e1, Bool.false_and] at q
      exact q
    have hv : 0 < v := by
      have e : ¬ (v : Int) = 0 := of_decide_eq_false h0
      omega
    have e1 : decide (0 < v) = true := decide_eq_true hv
    rw [e1, Bool.true_and] at q
    refine ⟨_, rfl, ?_⟩
    refine ⟨_, rfl, ?_⟩
    refine ⟨fun m σ H' => H' = H ∧ ∃ k low high : Nat, σ = [some (.int v), some (.int lo), some (.int hi), some (.int low), some (.int high)] ∧ Leads lo hi v k low high ∧ 0 < low ∧ m = hi + 1 - low, ⟨_, rfl, 0, v, v, rfl, Leads.start lo hi v, hv, rfl⟩, ?_⟩
    rintro m σ H' ⟨rfl, k, low, high, rfl, L, hl, rfl⟩
    refine ⟨_, rfl, _, rfl, _, _, rfl, rfl, _, rfl, ?_⟩
    refine ifB (fun h1 => ?_) fun h1 => ?_
    · have l1 : low ≤ hi := by
        have z : (low : Int) ≤ (hi : Int) := of_decide_eq_true h1
        omega
      refine ⟨fun σ' H2 => ∃ m', m' < hi + 1 - low ∧ (H2 = H' ∧ ∃ k low high : Nat, σ' = [some (.int v), some (.int lo), some (.int hi), some (.int low), some (.int high)] ∧ Leads lo hi v k low high ∧ 0 < low ∧ m' = hi + 1 - low), fun _ _ z => z, ?_⟩
      refine ⟨_, rfl, _, rfl, _, _, rfl, rfl, _, rfl, ?_⟩
      refine ifB (fun h2 => ?_) fun h2 => ?_
      · have l2 : lo ≤ high := by
          have z : (lo : Int) ≤ (high : Int) := of_decide_eq_true h2
          omega
        rw [L.found hv hh l1 l2] at q
        exact q
      · have l2 : ¬ lo ≤ high := by
          have z : ¬ (lo : Int) ≤ (high : Int) := of_decide_eq_false h2
          omega
        refine ⟨_, rfl, _, _, rfl, rfl, .inl ⟨by decide, by decide⟩, ?_⟩
        refine ⟨_, rfl, _, _, rfl, rfl, .inl ⟨by decide, by decide⟩, _, _, rfl, rfl, ?_⟩
        refine ⟨hi + 1 - 10 * low, by omega, rfl, k + 1, 10 * low, 10 * high + 9, ?_, L.next l2, by omega, rfl⟩
        rw [Int.natCast_add, Int.natCast_mul, Int.natCast_mul]
        rfl
    · have l1 : ¬ low ≤ hi := by
        have z : ¬ (low : Int) ≤ (hi : Int) := of_decide_eq_false h1
        omega
      rw [L.over l1] at q
      exact q
end
end Tf
set_option Elab.async false
set_option linter.all false
set_option maxRecDepth 100000
set_option maxHeartbeats 2000000
/-! Reading: words, numbers, names, the end. -/
namespace Tf
open PySem PySem.Spec PyProof.Rows L2 TfX TfM
section
variable {P : Program} {w : World} {K : PySem.W.Frag} {mg : Str → Option Value} {base : Heap}
/-- an error with one field is made -/
theorem mk_err1 {C : Addr} {f : Str} {v : V} {H1 : Hp} {Q : XK} (k : ∀ d H', H1 d = none → Same H1 H' → H' d = some (.xd [(f, v)]) → Q (.ref C) (some d) H') : [v].length ≤ 1000 ∧ ∀ a, H1 a = none → spErr1 K C f (.ref a :: ([v] ++ [])) (L2.upd H1 a (exo a C none))
    (fun z H2 => z = .non ∧ ∃ (d : Addr) (fs : List (Str × V)), H2 a = some (exo a C (some d)) ∧ H2 d = some (exd d fs) ∧ H1 d = none ∧ Q (.ref C) (some d) (L2.upd (del H2 a) d (.xd fs))) (fun _ _ _ => False) := by
  refine ⟨by show 1 ≤ 1000; decide, fun a ha => ⟨a, v, rfl, upd_same, fun dx hd ne => ⟨rfl, dx, [(f, v)], upd_same, by rw [upd_ne ne, upd_same], ?_, ?_⟩⟩⟩
  · rw [upd_ne ne] at hd
    exact hd
  · rw [upd_ne ne] at hd
    refine k dx _ hd (fun b o e => ?_) upd_same
    rw [upd_ne (ne_of_none e hd), del_ne (ne_of_none e ha), upd_ne (ne_of_none e ha), upd_ne (ne_of_none e hd), upd_ne (ne_of_none e ha)]
    exact e
/-- .. with two -/
theorem mk_err2 {C : Addr} {f g : Str} {v u : V} {H1 : Hp} {Q : XK} (k : ∀ d H', H1 d = none → Same H1 H' → H' d = some (.xd [(g, u), (f, v)]) → Q (.ref C) (some d) H') : [v, u].length ≤ 1000 ∧ ∀ a, H1 a = none → spErr2 K C f g (.ref a :: ([v, u] ++ [])) (L2.upd H1 a (exo a C none))
    (fun z H2 => z = .non ∧ ∃ (d : Addr) (fs : List (Str × V)), H2 a = some (exo a C (some d)) ∧ H2 d = some (exd d fs) ∧ H1 d = none ∧ Q (.ref C) (some d) (L2.upd (del H2 a) d (.xd fs))) (fun _ _ _ => False) := by
  refine ⟨by show 2 ≤ 1000; decide, fun a ha => ⟨a, v, u, rfl, upd_same, fun dx hd ne => ⟨rfl, dx, [(g, u), (f, v)], by rw [upd_ne (Ne.symm ne), upd_same], upd_same, ?_, ?_⟩⟩⟩
  · rw [upd_ne ne] at hd
    exact hd
  · rw [upd_ne ne] at hd
    refine k dx _ hd (fun b o e => ?_) upd_same
    rw [upd_ne (ne_of_none e hd), del_ne (ne_of_none e ha), upd_ne (ne_of_none e hd), upd_ne (ne_of_none e ha), upd_ne (ne_of_none e hd), upd_ne (ne_of_none e ha)]
    exact e
/-- a grammar's fault at p is let out -/
def GF (K : PySem.W.Frag) (E : XK) (H : Hp) (r : Addr) (p : Nat) : Prop := ∀ d H', H d = none → But r H H' → H' d = some (.xd [("place", .int p)]) → E (.ref (c_GrammarFault K)) (some d) H'
/-- what a reading step ends by -/
structure Rd (K : PySem.W.Frag) (Q : VK) (E : XK) (H : Hp) (r : Addr) (b : Tafl.Bytes) (t dx : Addr) (res : Except Nat (V × Nat)) : Prop where
  bad : ∀ p, res = .error p → GF K E H r p
  ok : ∀ v j, res = .ok (v, j) → ∀ H', RdAt K H' r b j t dx → But r H H' → Q v H'
theorem GF.later {E : XK} {H H1 : Hp} {r : Addr} {p : Nat} {d : Addr} {H' : Hp} (g : GF K E H r p) (s : But r H H1) (hr : H1 r ≠ none) (n : H1 d = none) (s2 : Same H1 H') (e : H' d = some (.xd [("place", .int p)])) : E (.ref (c_GrammarFault K)) (some d) H' := by
  refine g d H' ?_ (s.same s2) e
  cases q : H d with
  | none => rfl
  | some o =>
    by_cases h : d = r
    · subst h
      exact absurd n hr
    · rw [s d o q h] at n
      cases n
theorem RdAt.some {H : Hp} {r : Addr} {b : Tafl.Bytes} {k : Nat} {t dx : Addr} (R : RdAt K H r b k t dx) : H r ≠ none := by
  rw [R.ins]
  exact Option.some_ne_none _
theorem sign_eq {b : Tafl.Bytes} {k : Nat} {x : UInt8} : signI b k = (x.toNat : Int) ↔ b[k]? = some x := by
  unfold signI
  cases h : b[k]? with
  | none =>
    simp only [reduceCtorEq, iff_false]
    have := x.toNat_lt
    omega
  | some c =>
    simp only [Option.some.injEq]
    constructor
    · intro e
      exact UInt8.toNat_inj.mp (by omega)
    · intro e
      rw [e]
theorem sign_end {b : Tafl.Bytes} {k : Nat} : signI b k = 256 ↔ b[k]? = none := by
  unfold signI
  cases h : b[k]? with
  | none => simp
  | some c =>
    simp only [reduceCtorEq, iff_false]
    have := c.toNat_lt
    omega
def finK (b : Tafl.Bytes) (k : Nat) : Except Nat (V × Nat) := if b[k]? = none then .ok (.non, k) else .error k
def spFinish (K : PySem.W.Frag) : Sp := fun vs H Q E => ∃ (r : Addr) (b : Tafl.Bytes) (k : Nat) (t dx : Addr), vs = [.ref r] ∧ RdAt K H r b k t dx ∧ Rd K Q E H r b t dx (finK b k)
theorem ok_Reader_finish (T : Txt K mg) : FnOk P w K mg base (L2N.CX P w) 3 (a_Reader_finish K) T.fd_Reader_finish p_Reader_finish (spFinish K) := by
  refine T.F_Reader_finish.ok sc_Reader_finish (fun vs H Q E h => ?_) (fun cdv A outer s H vs Q E hr h => ⟨_, (pss_one (ps_if (pt_cmpR op_ne (pe_meth0 (pv 0) T.cl_Reader T.mt_Reader_sign (ok_Reader_sign T) (hr.mono (by decide)) (b_Reader_sign T) .nil pass0) (pe_glob (v := .int 256) rfl T.c_END ⟨_, rfl⟩) (nomark _)) (pss_one (L2N.ps_raise rfl (L2N.takes_of rfl rfl rfl rfl) (L2H.PMk5.pmk (pmk_oxe T.x_GrammarFault T.i_GrammarFault T.ti_GrammarFault (ok_GrammarFault_init T) (hr.mono (by decide)) (b_GrammarFault_init T) pass0 (by rfl) T.gc_GrammarFault (pa_cons (pe_fld (pv 0) rfl) pa_nil))))) pss_nil)), ?_⟩)
  · obtain ⟨r, b, k, t, dx, rfl, _⟩ := h
    rfl
  · obtain ⟨r, b, k, t, dx, rfl, R, q⟩ := h
    refine ⟨_, rfl, r, dx, _, rfl, R.ins, rfl, r, b, k, t, dx, rfl, R, rfl, _, rfl, ?_⟩
    rw [dec_int]
    refine ifB (fun h1 => ?_) fun h1 => ?_
    · have z : ¬ signI b k = 256 := of_decide_eq_false (by simpa using h1)
      have e : finK b k = .error k := if_neg (fun y => z (sign_end.mpr y))
      refine ⟨_, rfl, r, _, dx, _, _, rfl, R.ins, T.cl_Reader, T.na_Reader_place, rfl, mk_err1 fun d H' n s2 hd => ?_⟩
      exact (q.bad k e).later But.refl R.some n s2 hd
    · have z : signI b k = 256 := of_decide_eq_true (by simpa using h1)
      have e : finK b k = .ok (.non, k) := if_pos (sign_end.mp z)
      exact q.ok _ _ e H R But.refl
theorem litK_cons {b r : Tafl.Bytes} {x : UInt8} {k : Nat} : litK b (x :: r) k = if b[k]? = some x then litK b r (k + 1) else .error k := rfl
def litV (b w : Tafl.Bytes) (k : Nat) : Except Nat (V × Nat) := (litK b w k).map fun j => (.non, j)
def spWord (K : PySem.W.Frag) : Sp := fun vs H Q E => ∃ (r : Addr) (b : Tafl.Bytes) (k : Nat) (t dx : Addr) (z : Str) (w : Tafl.Bytes), vs = [.ref r, .str z] ∧ RdAt K H r b k t dx ∧ z.cps = (w.map UInt8.toNat).toArray ∧ Rd K Q E H r b t dx (litV b w k)
theorem ok_Reader_word (T : Txt K mg) : FnOk P w K mg base (L2N.CX P w) 3 (a_Reader_word K) T.fd_Reader_word p_Reader_word (spWord K) := by
  refine T.F_Reader_word.ok sc_Reader_word (fun vs H Q E h => ?_) (fun cdv A outer s H vs Q E hr h => ⟨_, (pss_one (ps_for (passes_of rfl) rfl (pi_str (pv 1)) (pg_name (i := 2) sc_Reader_word.nd rfl (Or.inl rfl)) (pss_cons (ps_if (pt_cmpR op_ne (pe_meth0 (pv 0) T.cl_Reader T.mt_Reader_sign (ok_Reader_sign T) (hr.mono (by decide)) (b_Reader_sign T) .nil pass0) (pe_callB call_ord (by rfl) T.m_ord (by decide +kernel) (pa_cons (pv 2) pa_nil)) (nomark _)) (pss_one (L2N.ps_raise rfl (L2N.takes_of rfl rfl rfl rfl) (L2H.PMk5.pmk (pmk_oxe T.x_GrammarFault T.i_GrammarFault T.ti_GrammarFault (ok_GrammarFault_init T) (hr.mono (by decide)) (b_GrammarFault_init T) pass0 (by rfl) T.gc_GrammarFault (pa_cons (pe_fld (pv 0) rfl) pa_nil))))) pss_nil)
      (pss_one (ps_expr (pe_meth0 (pv 0) T.cl_Reader T.mt_Reader_go_on (ok_Reader_go_on T) (hr.mono (by decide)) (b_Reader_go_on T) .nil pass0)))))), ?_⟩)
  · obtain ⟨r, b, k, t, dx, z, w, rfl, _⟩ := h
    rfl
  · obtain ⟨r, b, k, t, dx, z, w, rfl, R, hz, q⟩ := h
    have hsz : z.cps.size = w.length := by rw [hz, List.size_toArray, List.length_map]
    refine ⟨_, rfl, z, rfl, for_it walk_str (fun i σ H' => ∃ v : Option V, σ = [some (.ref r), some (.str z), v] ∧ RdAt K H' r b (k + i) t dx ∧ But r H H' ∧ litK b w k = litK b (w.drop i) (k + i))
      ⟨none, rfl, R, But.refl, rfl⟩ (fun _ _ _ _ _ => trivial) ?_ ?_⟩
    · rintro i x σ H1 H2 hi ⟨v, rfl, R1, s1, e1⟩ ⟨rfl, c, hc, rfl⟩
      rw [hsz] at hi
      have hx : z.cps[i]? = some (w[i].toNat) := by
        rw [hz]
        simp [hi]
      rw [hx] at hc
      cases hc
      refine ⟨_, rfl, r, dx, _, rfl, R1.ins, rfl, r, b, k + i, t, dx, rfl, R1, _, rfl, _, rfl, rfl, rfl, _, rfl, ?_⟩
      have hd : w.drop i = w[i] :: w.drop (i + 1) := List.drop_eq_getElem_cons hi
      rw [hd, litK_cons] at e1
      rw [dec_int]
      refine ifB (fun h1 => ?_) fun h1 => ?_
      · have z1 : ¬ signI b (k + i) = (w[i].toNat : Int) := of_decide_eq_false (by simpa using h1)
        rw [if_neg (fun y => z1 (sign_eq.mpr y))] at e1
        have e : litV b w k = .error (k + i) := by
          unfold litV
          rw [e1]
          rfl
        refine ⟨_, rfl, r, _, dx, _, _, rfl, R1.ins, T.cl_Reader, T.na_Reader_place, rfl, mk_err1 fun d H' n s2 hd => ?_⟩
        exact (q.bad (k + i) e).later s1 R1.some n s2 hd
      · have z1 : signI b (k + i) = (w[i].toNat : Int) := of_decide_eq_true (by simpa using h1)
        rw [if_pos (sign_eq.mp z1)] at e1
        refine ⟨_, rfl, r, dx, _, rfl, R1.ins, rfl, r, b, k + i, t, dx, rfl, R1, ?_⟩
        exact ⟨_, rfl, R1.set, s1.trans But.upd, e1⟩
    · rintro σ H1 ⟨v, rfl, R1, s1, e1⟩
      rw [hsz] at R1 e1
      rw [List.drop_length] at e1
      have e : litV b w k = .ok (.non, k + w.length) := by
        unfold litV
        rw [e1]
        rfl
      exact q.ok _ _ e H1 R1 s1
/-- digits -/
theorem dig_sign {b : Tafl.Bytes} {k : Nat} : digI (signI b k) = true ↔ ∃ c, b[k]? = some c ∧ Tafl.isDigit c = true := by
  unfold digI signI Tafl.isDigit
  cases h : b[k]? with
  | none => simp
  | some c =>
    simp only [Bool.and_eq_true, decide_eq_true_eq, Option.some.injEq, exists_eq_left']
    omega
def numV (b : Tafl.Bytes) (lo hi k : Nat) : Except Nat (V × Nat) := (numK b lo hi 6 0 k).map fun q => (.int q.1, q.2)
def spNumber (K : PySem.W.Frag) : Sp := fun vs H Q E => ∃ (r : Addr) (b : Tafl.Bytes) (k : Nat) (t dx : Addr) (lo hi : Nat), vs = [.ref r, .int lo, .int hi] ∧ RdAt K H r b k t dx ∧ hi < 100000 ∧ Rd K Q E H r b t dx (numV b lo hi k)
theorem ok_Reader_number (T : Txt K mg) : FnOk P w K mg base (L2N.CX P w) 3 (a_Reader_number K) T.fd_Reader_number p_Reader_number (spNumber K) := by
  refine T.F_Reader_number.ok sc_Reader_number (fun vs H Q E h => ?_) (fun cdv A outer s H vs Q E hr h => ⟨_, (pss_cons (ps_set (i := 3) sc_Reader_number.nd rfl (Or.inl rfl) pe_int)
      (pss_cons (ps_while (passes_of rfl) (pt_val (pe_call (ok_is_digit T) (hr.mono (by decide)) rfl T.g_is_digit T.F_is_digit.kp (b_is_digit T) .nil pass0 (pa_cons (pe_meth0 (pv 0) T.cl_Reader T.mt_Reader_sign (ok_Reader_sign T) (hr.mono (by decide)) (b_Reader_sign T) .nil pass0) pa_nil))) (pss_cons (ps_set (i := 4) sc_Reader_number.nd rfl (Or.inl rfl) (pe_op op_sub (pe_op op_add (pe_op op_mul pe_int (pv 3)) (pe_meth0 (pv 0) T.cl_Reader T.mt_Reader_sign (ok_Reader_sign T) (hr.mono (by decide)) (b_Reader_sign T) .nil pass0)) (pe_callB call_ord (by rfl) T.m_ord (by decide +kernel) (pa_cons pe_str pa_nil))))
      (pss_cons (ps_if (pt_not (pt_val (pe_call (ok_leads_to T) (hr.mono (by decide)) rfl T.g_leads_to T.F_leads_to.kp (b_leads_to T) .nil pass0 (pa_cons (pv 4) (pa_cons (pv 1) (pa_cons (pv 2) pa_nil)))))) (pss_one ps_break) pss_nil)
      (pss_cons (ps_set (i := 3) sc_Reader_number.nd rfl (Or.inl rfl) (pv 4))
      (pss_one (ps_expr (pe_meth0 (pv 0) T.cl_Reader T.mt_Reader_go_on (ok_Reader_go_on T) (hr.mono (by decide)) (b_Reader_go_on T) .nil pass0)))))))
      (pss_cons (ps_if (pt_cmpR op_lt (pv 3) (pv 1) (nomark _)) (pss_one (L2N.ps_raise rfl (L2N.takes_of rfl rfl rfl rfl) (L2H.PMk5.pmk (pmk_oxe T.x_GrammarFault T.i_GrammarFault T.ti_GrammarFault (ok_GrammarFault_init T) (hr.mono (by decide)) (b_GrammarFault_init T) pass0 (by rfl) T.gc_GrammarFault (pa_cons (pe_fld (pv 0) rfl) pa_nil))))) pss_nil)
      (pss_one (ps_ret (pv 3)))))), ?_⟩)
  · obtain ⟨r, b, k, t, dx, lo, hi, rfl, _⟩ := h
    rfl
  · obtain ⟨r, b, k, t, dx, lo, hi, rfl, R, hh, q⟩ := h
    show tSeq (tWhile _ _) _ _ _ _
    -- behind the loop: nothing more is read
    refine seq_by (fun σ H' => ∃ (d j : Nat) (lv : Option V), σ = [some (.ref r), some (.int lo), some (.int hi), some (.int d), lv] ∧ RdAt K H' r b j t dx ∧ But r H H' ∧ d ≤ hi ∧ numK b lo hi 6 0 k = (if lo ≤ d ∧ d ≤ hi then .ok (d, j) else .error j)) ?_ fun after => ?_
    · rintro σ H1 ⟨d, j, lv, rfl, R1, s1, hd, e1⟩
      refine ⟨_, rfl, _, rfl, _, _, rfl, rfl, _, rfl, ?_⟩
      refine ifB (fun h1 => ?_) fun h1 => ?_
      · have z : (d : Int) < (lo : Int) := of_decide_eq_true h1
        rw [if_neg (by omega)] at e1
        have e : numV b lo hi k = .error j := by
          unfold numV
          rw [e1]
          rfl
        refine ⟨_, rfl, r, _, dx, _, _, rfl, R1.ins, T.cl_Reader, T.na_Reader_place, rfl, mk_err1 fun d H' n s2 hd => ?_⟩
        exact (q.bad j e).later s1 R1.some n s2 hd
      · have z : ¬ (d : Int) < (lo : Int) := of_decide_eq_false h1
        rw [if_pos (by omega)] at e1
        have e : numV b lo hi k = .ok (.int d, j) := by
          unfold numV
          rw [e1]
          rfl
        exact ⟨_, rfl, q.ok _ _ e H1 R1 s1⟩
    · refine ⟨fun m σ H' => ∃ (d j : Nat) (lv : Option V), σ = [some (.ref r), some (.int lo), some (.int hi), some (.int d), lv] ∧ RdAt K H' r b j t dx ∧ But r H H' ∧ NumAt hi m d ∧ numK b lo hi 6 0 k = numK b lo hi m d j, ⟨6, 0, k, none, rfl, R, But.refl, NumAt.start hi, rfl⟩, ?_⟩
      rintro m σ H1 ⟨d, j, lv, rfl, R1, s1, N, e1⟩
      obtain ⟨f, rfl⟩ : ∃ f, m = f + 1 := ⟨m - 1, by have := N.pos hh; omega⟩
      refine ⟨_, rfl, r, dx, _, rfl, R1.ins, rfl, r, b, j, t, dx, rfl, R1, signI b j, rfl, _, rfl, ?_⟩
      refine ifB (fun h1 => ?_) fun h1 => ?_
      · obtain ⟨c, hc, hdig⟩ := dig_sign.mp h1
        refine ⟨fun σ' H' => ∃ m', m' < f + 1 ∧ ∃ (d j : Nat) (lv : Option V), σ' = [some (.ref r), some (.int lo), some (.int hi), some (.int d), lv] ∧ RdAt K H' r b j t dx ∧ But r H H' ∧ NumAt hi m' d ∧ numK b lo hi 6 0 k = numK b lo hi m' d j, fun _ _ z => z, ?_⟩
        have hs := signI_some hc
        have hge : 48 ≤ c.toNat := by
          unfold Tafl.isDigit at hdig
          simp only [Bool.and_eq_true, decide_eq_true_eq] at hdig
          exact hdig.1
        have el : 10 * (d : Int) + signI b j - 48 = ((10 * d + (c.toNat - 48) : Nat) : Int) := by
          rw [hs]
          omega
        refine ⟨_, rfl, _, _, rfl, rfl, .inl ⟨by decide, by decide⟩, _, rfl, r, dx, _, rfl, R1.ins, rfl, r, b, j, t, dx, rfl, R1, _, _, rfl, rfl, _, rfl, rfl, _, _, rfl, rfl, ?_⟩
        have e2 : numK b lo hi (f + 1) d j = if Tafl.isDigit c = true ∧ 0 < 10 * d + (c.toNat - 48) ∧ Tafl.begins lo hi (10 * d + (c.toNat - 48)) = true then numK b lo hi f (10 * d + (c.toNat - 48)) (j + 1) else if lo ≤ d ∧ d ≤ hi then .ok (d, j) else .error j := by
          show (match b[j]? with
            | some x => if Tafl.isDigit x = true ∧ 0 < 10 * d + (x.toNat - 48) ∧ Tafl.begins lo hi (10 * d + (x.toNat - 48)) = true then numK b lo hi f (10 * d + (x.toNat - 48)) (j + 1) else if lo ≤ d ∧ d ≤ hi then .ok (d, j) else .error j
            | none => if lo ≤ d ∧ d ≤ hi then .ok (d, j) else .error j) = _
          rw [hc]
        refine ⟨_, rfl, _, rfl, _, rfl, 10 * d + (c.toNat - 48), lo, hi, congrArg (fun z : Int => [V.int z, V.int lo, V.int hi]) el, by omega, _, rfl, ?_⟩
        refine ifB (fun h2 => ?_) fun h2 => ?_
        · refine after _ _ ⟨d, j, _, rfl, R1, s1, N.le, ?_⟩
          rw [e1, e2, if_neg]
          rintro ⟨_, y1, y2⟩
          rw [decide_eq_true y1, y2] at h2
          cases h2
        · have h3 : (decide (0 < 10 * d + (c.toNat - 48)) && Tafl.begins lo hi (10 * d + (c.toNat - 48))) = true := by simpa using h2
          obtain ⟨y1, y2⟩ := Bool.and_eq_true_iff.mp h3
          have y1' := of_decide_eq_true y1
          rw [if_pos ⟨hdig, y1', y2⟩] at e2
          refine ⟨_, rfl, ?_⟩
          refine ⟨_, rfl, r, dx, _, rfl, R1.ins, rfl, r, b, j, t, dx, rfl, R1, ?_⟩
          exact ⟨f, Nat.lt_succ_self _, 10 * d + (c.toNat - 48), j + 1, _, congrArg (fun z : Int => [some (V.ref r), some (V.int lo), some (V.int hi), some (V.int z), _]) el, R1.set, s1.trans But.upd, N.next y1' (by omega) (begins_le y2), e1.trans e2⟩
      · refine after _ _ ⟨d, j, lv, rfl, R1, s1, N.le, ?_⟩
        rw [e1]
        show (match b[j]? with
            | some x => if Tafl.isDigit x = true ∧ 0 < 10 * d + (x.toNat - 48) ∧ Tafl.begins lo hi (10 * d + (x.toNat - 48)) = true then numK b lo hi f (10 * d + (x.toNat - 48)) (j + 1) else if lo ≤ d ∧ d ≤ hi then .ok (d, j) else .error j
            | none => if lo ≤ d ∧ d ≤ hi then .ok (d, j) else .error j) = _
        cases hc : b[j]? with
        | none => rfl
        | some c =>
          show (if Tafl.isDigit c = true ∧ _ then _ else _) = _
          rw [if_neg]
          rintro ⟨y, _⟩
          rw [dig_sign.mpr ⟨c, hc, y⟩] at h1
          cases h1
/-- names -/
theorem let_sign {b : Tafl.Bytes} {k : Nat} : lettI (signI b k) = true ↔ ∃ c, b[k]? = some c ∧ Tafl.isLetter c = true := by
  unfold lettI signI Tafl.isLetter
  cases h : b[k]? with
  | none => simp
  | some c =>
    simp only [Bool.and_eq_true, Bool.or_eq_true, decide_eq_true_eq, Option.some.injEq, exists_eq_left']
    omega
def nameV (b : Tafl.Bytes) (k : Nat) : Except Nat (V × Nat) := (nameK b k).map fun j => (.non, j)
def spName (K : PySem.W.Frag) : Sp := fun vs H Q E => ∃ (r : Addr) (b : Tafl.Bytes) (k : Nat) (t dx : Addr), vs = [.ref r] ∧ RdAt K H r b k t dx ∧ Rd K Q E H r b t dx (nameV b k)
theorem someK_go {b : Tafl.Bytes} {n k : Nat} {c : UInt8} (hc : b[k]? = some c) (h : nameP c = true) : someK b nameP (n + 1) k = someK b nameP n (k + 1) := by
  show (match b[k]? with
    | some x => if nameP x = true then someK b nameP n (k + 1) else k
    | none => k) = _
  rw [hc]
  show (if nameP c = true then someK b nameP n (k + 1) else k) = _
  rw [if_pos h]
theorem someK_stop {b : Tafl.Bytes} {n k : Nat} (h : ∀ c, b[k]? = some c → ¬ nameP c = true) : someK b nameP (n + 1) k = k := by
  show (match b[k]? with
    | some x => if nameP x = true then someK b nameP n (k + 1) else k
    | none => k) = _
  cases hc : b[k]? with
  | none => rfl
  | some c =>
    show (if nameP c = true then someK b nameP n (k + 1) else k) = _
    rw [if_neg (h c hc)]
theorem ok_read_name (T : Txt K mg) : FnOk P w K mg base (L2N.CX P w) 3 (a_read_name K) T.fd_read_name p_read_name (spName K) := by
  refine T.F_read_name.ok sc_read_name (fun vs H Q E h => ?_) (fun cdv A outer s H vs Q E hr h => ⟨_, (pss_cons (ps_if (pt_not (pt_val (pe_call (ok_is_letter T) (hr.mono (by decide)) rfl T.g_is_letter T.F_is_letter.kp (b_is_letter T) .nil pass0 (pa_cons (pe_meth0 (pv 0) T.cl_Reader T.mt_Reader_sign (ok_Reader_sign T) (hr.mono (by decide)) (b_Reader_sign T) .nil pass0) pa_nil)))) (pss_one (L2N.ps_raise rfl (L2N.takes_of rfl rfl rfl rfl) (L2H.PMk5.pmk (pmk_oxe T.x_GrammarFault T.i_GrammarFault T.ti_GrammarFault (ok_GrammarFault_init T) (hr.mono (by decide)) (b_GrammarFault_init T) pass0 (by rfl) T.gc_GrammarFault (pa_cons (pe_fld (pv 0) rfl) pa_nil))))) pss_nil)
      (pss_cons (ps_set (i := 1) sc_read_name.nd rfl (Or.inl rfl) pe_int)
      (pss_one (ps_while (passes_of rfl) (PW.pt (pw_and (pt_cmpR op_lt (pv 1) (pe_glob (v := .int 16) rfl T.c_LONGEST_NAME ⟨_, rfl⟩) (nomark _)) (pw_and1 (PW.pt (pw_or (pt_val (pe_call (ok_is_letter T) (hr.mono (by decide)) rfl T.g_is_letter T.F_is_letter.kp (b_is_letter T) .nil pass0 (pa_cons (pe_meth0 (pv 0) T.cl_Reader T.mt_Reader_sign (ok_Reader_sign T) (hr.mono (by decide)) (b_Reader_sign T) .nil pass0) pa_nil))) (pw_or1 (pt_val (pe_call (ok_is_digit T) (hr.mono (by decide)) rfl T.g_is_digit T.F_is_digit.kp (b_is_digit T) .nil pass0 (pa_cons (pe_meth0 (pv 0) T.cl_Reader T.mt_Reader_sign (ok_Reader_sign T) (hr.mono (by decide)) (b_Reader_sign T) .nil pass0) pa_nil))))))))) (pss_cons (ps_expr (pe_meth0 (pv 0) T.cl_Reader T.mt_Reader_go_on (ok_Reader_go_on T) (hr.mono (by decide)) (b_Reader_go_on T) .nil pass0))
      (pss_one (ps_aug (i := 1) sc_read_name.nd rfl (Or.inl rfl) pe_int ip_add))))))), ?_⟩)
  · obtain ⟨r, b, k, t, dx, rfl, _⟩ := h
    rfl
  · obtain ⟨r, b, k, t, dx, rfl, R, q⟩ := h
    refine ⟨_, rfl, r, dx, _, rfl, R.ins, rfl, r, b, k, t, dx, rfl, R, _, rfl, _, rfl, ?_⟩
    refine ifB (fun h1 => ?_) fun h1 => ?_
    · have h1' : ¬ lettI (signI b k) = true := by simpa using h1
      have e : nameV b k = .error k := by
        unfold nameV nameK
        cases hc : b[k]? with
        | none => rfl
        | some c =>
          show Except.map _ (if Tafl.isLetter c = true then _ else _) = _
          rw [if_neg (fun y => h1' (let_sign.mpr ⟨c, hc, y⟩))]
          rfl
      refine ⟨_, rfl, r, _, dx, _, _, rfl, R.ins, T.cl_Reader, T.na_Reader_place, rfl, mk_err1 fun d H' n s2 hd => ?_⟩
      exact (q.bad k e).later But.refl R.some n s2 hd
    · have h1' : lettI (signI b k) = true := by simpa using h1
      obtain ⟨c0, hc0, hl0⟩ := let_sign.mp h1'
      have e : nameV b k = .ok (.non, someK b nameP 16 k) := by
        unfold nameV nameK
        rw [hc0]
        show Except.map _ (if Tafl.isLetter c0 = true then _ else _) = _
        rw [if_pos hl0]
        rfl
      show tWhile _ _ _ _ _
      refine ⟨fun m σ H' => ∃ i : Nat, i ≤ 16 ∧ m = 16 - i ∧ σ = [some (.ref r), some (.int i)] ∧ RdAt K H' r b (k + i) t dx ∧ But r H H' ∧ someK b nameP 16 k = someK b nameP (16 - i) (k + i), ⟨16, 0, by omega, rfl, rfl, R, But.refl, rfl⟩, ?_⟩
      rintro m σ H1 ⟨i, hi, rfl, rfl, R1, s1, e1⟩
      refine ⟨_, rfl, _, _, rfl, rfl, _, rfl, ?_⟩
      refine ifB (fun h2 => ?_) fun h2 => ?_
      · have z : (i : Int) < 16 := of_decide_eq_true h2
        obtain ⟨n, hn⟩ : ∃ n, 16 - i = n + 1 := ⟨15 - i, by omega⟩
        have go : ∀ c, b[k + i]? = some c → nameP c = true → tSeq (tDrop (tMeth (c_Reader K) "go_on" (spGoOn K) [] E0 (tVar 0) tNil)) (tAug 1 (tC (.int 1)) (ipI fun i j => i + j))
            { nx := fun σ' H' => ∃ m', m' < 16 - i ∧ ∃ i : Nat, i ≤ 16 ∧ m' = 16 - i ∧ σ' = [some (.ref r), some (.int i)] ∧ RdAt K H' r b (k + i) t dx ∧ But r H H' ∧ someK b nameP 16 k = someK b nameP (16 - i) (k + i),
              rt := Q,
              bk := fun _ H' => Q .non H', ct := fun σ' H' => ∃ m', m' < 16 - i ∧ ∃ i : Nat, i ≤ 16 ∧ m' = 16 - i ∧ σ' = [some (.ref r), some (.int i)] ∧ RdAt K H' r b (k + i) t dx ∧ But r H H' ∧ someK b nameP 16 k = someK b nameP (16 - i) (k + i) }
            [some (.ref r), some (.int i)] H1 := fun c hc hp => by
          refine ⟨_, rfl, r, dx, _, rfl, R1.ins, rfl, r, b, k + i, t, dx, rfl, R1, ?_⟩
          refine ⟨_, rfl, _, _, rfl, rfl, ?_⟩
          refine ⟨16 - (i + 1), by omega, i + 1, by omega, rfl, rfl, R1.set, s1.trans But.upd, ?_⟩
          rw [e1, hn, someK_go hc hp]
          have hn' : 16 - (i + 1) = n := by omega
          rw [hn']
          rfl
        refine ⟨_, rfl, r, dx, _, rfl, R1.ins, rfl, r, b, k + i, t, dx, rfl, R1, _, rfl, _, rfl, ?_⟩
        refine ifB (fun h3 => ?_) fun h3 => ?_
        · obtain ⟨c, hc, hl⟩ := let_sign.mp h3
          exact ifT rfl ⟨_, fun _ _ z => z, go c hc (by unfold nameP; rw [hl, Bool.true_or])⟩
        · refine ⟨_, rfl, r, dx, _, rfl, R1.ins, rfl, r, b, k + i, t, dx, rfl, R1, _, rfl, _, rfl, ?_⟩
          refine ifB (fun h4 => ?_) fun h4 => ?_
          · obtain ⟨c, hc, hl⟩ := dig_sign.mp h4
            exact ⟨_, fun _ _ z => z, go c hc (by unfold nameP; rw [hl, Bool.or_true])⟩
          · have st : someK b nameP (16 - i) (k + i) = k + i := by
              rw [hn]
              refine someK_stop fun c hc hp => ?_
              unfold nameP at hp
              rcases Bool.or_eq_true_iff.mp hp with y | y
              · rw [let_sign.mpr ⟨c, hc, y⟩] at h3
                cases h3
              · rw [dig_sign.mpr ⟨c, hc, y⟩] at h4
                cases h4
            rw [e1, st] at e
            exact q.ok _ _ e H1 R1 s1
      · have z : ¬ (i : Int) < 16 := of_decide_eq_false h2
        have ei : i = 16 := by omega
        subst ei
        have e2 : someK b nameP 16 k = k + 16 := e1
        rw [e2] at e
        exact ifF rfl (q.ok _ _ e H1 R1 s1)
end
end Tf
set_option Elab.async false
set_option linter.all false
set_option maxRecDepth 100000
set_option maxHeartbeats 2000000
/-! Reading: one of some words. -/
namespace Tf
open PySem PySem.Spec PyProof.Rows L2 TfX TfM
section
variable {P : Program} {w : World} {K : PySem.W.Frag} {mg : Str → Option Value} {base : Heap}
theorem getD_lt {α : Type} {l : List α} {i : Nat} {d : α} (h : i < l.length) : l.getD i d = l[i] := by simp [List.getD, h]
def strOf (w : Tafl.Bytes) : Str := ⟨(w.map UInt8.toNat).toArray⟩
theorem strOf_len (w : Tafl.Bytes) : (strOf w).length = w.length := by
  show (w.map UInt8.toNat).toArray.size = _
  rw [List.size_toArray, List.length_map]
theorem strOf_inj {a b : Tafl.Bytes} (h : strOf a = strOf b) : a = b := by
  have h1 : (a.map UInt8.toNat).toArray = (b.map UInt8.toNat).toArray := congrArg Str.cps h
  have h2 : a.map UInt8.toNat = b.map UInt8.toNat := by simpa using h1
  exact List.map_inj_right (fun x y e => UInt8.toNat_inj.mp e) |>.mp h2
def wv (ws : List Tafl.Bytes) (l : List Nat) : List V := l.map fun i => V.str (strOf (ws.getD i []))
theorem wv_all (ws : List Tafl.Bytes) : (ws.map strOf).map V.str = wv ws (List.range ws.length) := by
  unfold wv
  refine List.ext_getElem? fun i => ?_
  rw [List.getElem?_map, List.getElem?_map, List.getElem?_map]
  by_cases h : i < ws.length
  · rw [List.getElem?_range h, List.getElem?_eq_getElem h]
    simp [List.getD, h]
  · rw [List.getElem?_eq_none (by omega), List.getElem?_eq_none (by rw [List.length_range]; omega)]
    rfl
/-- the words of a choice -/
structure Words (z : Str) (ws : List Tafl.Bytes) : Prop where
  split : PySem.Txt.split z " " = ws.map strOf
  free : PFree ws
  ne : ws ≠ []
  short : ∀ i, (ws.getD i []).length < 16
  few : ws.length ≤ 1000
  len : z.length ≤ 1000
/-- a word's next sign is the one that comes -/
def nxt (b : Tafl.Bytes) (ws : List Tafl.Bytes) (s j i : Nat) : Bool := decide ((((ws.getD i []).getD s 0).toNat : Int) = signI b j)
theorem nxt_some {b : Tafl.Bytes} {ws : List Tafl.Bytes} {s j : Nat} {x : UInt8} {l : List Nat} (hx : b[j]? = some x) (h : ∀ i ∈ l, s < (ws.getD i []).length) : l.filter (nxt b ws s j) = keep ws l s x := by
  unfold keep
  refine List.filter_congr fun i hi => ?_
  have hs := h i hi
  have e : (ws.getD i []).getD s 0 = (ws.getD i [])[s] := getD_lt hs
  unfold nxt
  rw [e, List.getElem?_eq_getElem hs, signI_some hx, Bool.eq_iff_iff]
  simp only [decide_eq_true_eq, beq_iff_eq, Option.some.injEq]
  constructor
  · intro y
    exact UInt8.toNat_inj.mp (by omega)
  · intro y
    rw [y]
theorem nxt_none {b : Tafl.Bytes} {ws : List Tafl.Bytes} {s j : Nat} {l : List Nat} (hx : b[j]? = none) : l.filter (nxt b ws s j) = [] := by
  rw [List.filter_eq_nil_iff]
  intro i _ hi
  unfold nxt at hi
  rw [signI_none hx] at hi
  have h1 := of_decide_eq_true hi
  have h2 := ((ws.getD i []).getD s 0).toNat_lt
  omega
def wordV (b : Tafl.Bytes) (ws : List Tafl.Bytes) (k : Nat) : Except Nat (V × Nat) := (wordK b ws k).map fun q => (.int q.1, q.2)
def spChoice (K : PySem.W.Frag) : Sp := fun vs H Q E => ∃ (r : Addr) (b : Tafl.Bytes) (k : Nat) (t dx : Addr) (z : Str) (ws : List Tafl.Bytes), vs = [.ref r, .str z] ∧ RdAt K H r b k t dx ∧ Words z ws ∧ Rd K Q E H r b t dx (wordV b ws k)
theorem take_filter {α : Type} {p : α → Bool} {l : List α} {i : Nat} {x : α} (h : l[i]? = some x) : (l.take (i + 1)).filter p = (l.take i).filter p ++ (if p x = true then [x] else []) := by
  rw [List.take_add_one, h, List.filter_append]
  congr 1
  show List.filter p [x] = _
  rw [List.filter_cons]
  rfl
theorem ok_Reader_choice (T : Txt K mg) : FnOk P w K mg base (L2N.CX P w) 3 (a_Reader_choice K) T.fd_Reader_choice p_Reader_choice (spChoice K) := by
  refine T.F_Reader_choice.ok sc_Reader_choice (fun vs H Q E h => ?_) (fun cdv A outer s H vs Q E hr h => ⟨_, (pss_cons (ps_set (i := 2) sc_Reader_choice.nd rfl (Or.inl rfl) (pe_split (pv 1) pe_str))
      (pss_cons (ps_set (i := 3) sc_Reader_choice.nd rfl (Or.inl rfl) (pv 2))
      (pss_cons (ps_set (i := 4) sc_Reader_choice.nd rfl (Or.inr rfl) pe_int)
      (pss_cons (ps_while (passes_of rfl) (pt_cmpR op_lt (pv 4) (pe_callB call_len_str (by rfl) T.m_len (by decide +kernel) (pa_cons (pe_ix ix_list (pv 3) pe_int (fun _ _ => rfl)) pa_nil)) (nomark _)) (pss_cons (ps_setLc (i := 3) (own := [("word", 5)]) (g := (gName 5)) rfl sc_Reader_choice.nd rfl rfl (sw_true rfl rfl rfl (by decide +kernel)) (pi_list (pv 3)) (blkOk_by (own := [("word", 5)]) (N := n_Reader_choice) (sc := defScope s_Reader_choice) (by decide +kernel)) (fun _ _ _ _ _ => (pg_name (i := 5) sc_Reader_choice.nd rfl (Or.inl rfl))) (fun _ _ _ _ _ => (pts_one (pt_cmpR op_eq (pe_callB call_ord (by rfl) T.m_ord (by decide +kernel) (pa_cons (pe_ix ix_str (pv 5) (pv 4) (fun _ _ => rfl)) pa_nil)) (pe_meth0 (pv 0) T.cl_Reader T.mt_Reader_sign (ok_Reader_sign T) (hr.mono (by decide)) (b_Reader_sign T) .nil pass0) (nomark _)))) (fun _ _ _ _ _ => (pv 5)))
      (pss_cons (ps_if (pt_cmpR op_eq (pe_callB call_len_seq (by rfl) T.m_len (by decide +kernel) (pa_cons (pv 3) pa_nil)) pe_int (nomark _)) (pss_one (L2N.ps_raise rfl (L2N.takes_of rfl rfl rfl rfl) (L2H.PMk5.pmk (pmk_oxe T.x_GrammarFault T.i_GrammarFault T.ti_GrammarFault (ok_GrammarFault_init T) (hr.mono (by decide)) (b_GrammarFault_init T) pass0 (by rfl) T.gc_GrammarFault (pa_cons (pe_fld (pv 0) rfl) pa_nil))))) pss_nil)
      (pss_cons (ps_expr (pe_meth0 (pv 0) T.cl_Reader T.mt_Reader_go_on (ok_Reader_go_on T) (hr.mono (by decide)) (b_Reader_go_on T) .nil pass0))
      (pss_one (ps_aug (i := 4) sc_Reader_choice.nd rfl (Or.inr rfl) pe_int ip_add))))))
      (pss_one (ps_ret (pe_bm PySem.F.plainAttrs_list PySem.F.slot_list_index PySem.F.type_list_index mt_index (pv 2) (pa_cons (pe_ix ix_list (pv 3) pe_int (fun _ _ => rfl)) pa_nil)))))))), ?_⟩)
  · obtain ⟨r, b, k, t, dx, z, ws, rfl, _⟩ := h
    rfl
  · obtain ⟨r, b, k, t, dx, z, ws, rfl, R, W, q⟩ := h
    refine ⟨_, rfl, ⟨z, rfl⟩, z, " ", rfl, rfl, rfl, Nat.le_trans (Nat.add_le_add_right W.len 2) (by decide), fun p0 np0 => ?_⟩
    rw [W.split, wv_all]
    have s0 : Same H (L2.upd H p0 (.lst (wv ws (List.range ws.length)))) := Same.upd np0
    have R0 := R.same s0
    obtain ⟨n0, hn0⟩ : ∃ n, ws.length = n + 1 := ⟨ws.length - 1, by
      have := List.length_pos_iff.mpr W.ne
      omega⟩
    refine ⟨_, rfl, ?_⟩
    show tSeq (tWhile _ _) _ _ _ _
    refine ⟨fun m σ H' => ∃ (l : List Nat) (s j : Nat) (pl : Addr) (lv : Option V), σ = [some (.ref r), some (.str z), some (.ref p0), some (.ref pl), some (.int s), lv] ∧ H' pl = some (.lst (wv ws l)) ∧ H' p0 = some (.lst (wv ws (List.range ws.length))) ∧
      RdAt K H' r b j t dx ∧ But r H H' ∧ Left ws l s ∧ l ≠ [] ∧ l.length ≤ 1000 ∧ s < 16 ∧ wordK b ws k = oneK b (16 - s) (rests ws l s) j ∧ m = 16 - s, ⟨16, List.range ws.length, 0, k, p0, none, rfl, upd_same, upd_same, R0, Same.toBut s0, Left.start ws, ?_, ?_, by decide, rfl, rfl⟩, ?_⟩
    · rw [hn0]
      intro y
      have y' := congrArg List.length y
      rw [List.length_range] at y'
      cases y'
    · rw [List.length_range]
      exact W.few
    rintro m σ H1 ⟨l, s, j, pl, lv, rfl, hpl, hp0, R1, s1, L, lne, llen, s16, e1, rfl⟩
    obtain ⟨i0, l', rfl⟩ : ∃ i0 l', l = i0 :: l' := by
      cases l with
      | nil => exact absurd rfl lne
      | cons a r => exact ⟨a, r, rfl⟩
    have h0 : (wv ws (i0 :: l'))[0]? = some (.str (strOf (ws.getD i0 []))) := rfl
    have sl : (strOf (ws.getD i0 [])).length ≤ sizeLine := by
      rw [strOf_len]
      exact Nat.le_trans (Nat.le_of_lt (W.short i0)) (by decide)
    refine ⟨_, rfl, _, rfl, pl, _, 0, _, rfl, rfl, SqL.of hpl, atI_nat (j := 0) h0, _, rfl, sl, _, _, rfl, rfl, _, rfl, ?_⟩
    rw [strOf_len]
    refine ifB (fun h1 => ?_) fun h1 => ?_
    · -- one more sign
      have hs : s < (ws.getD i0 []).length := by
        have y : (s : Int) < (((ws.getD i0 []).length : Nat) : Int) := of_decide_eq_true h1
        omega
      have more := L.more W.free List.mem_cons_self hs
      obtain ⟨f, hf⟩ : ∃ f, 16 - s = f + 1 := ⟨15 - s, by omega⟩
      rw [hf, one_more b more] at e1
      refine ⟨fun σ' H' => ∃ m', m' < 16 - s ∧ ∃ (l : List Nat) (s j : Nat) (pl : Addr) (lv : Option V), σ' = [some (.ref r), some (.str z), some (.ref p0), some (.ref pl), some (.int s), lv] ∧ H' pl = some (.lst (wv ws l)) ∧ H' p0 = some (.lst (wv ws (List.range ws.length))) ∧
        RdAt K H' r b j t dx ∧ But r H H' ∧ Left ws l s ∧ l ≠ [] ∧ l.length ≤ 1000 ∧ s < 16 ∧ wordK b ws k = oneK b (16 - s) (rests ws l s) j ∧ m' = 16 - s, fun _ _ y => y, ?_⟩
      refine ⟨_, rfl, pl, rfl, ⟨_, SqL.of hpl⟩, fun D nD => ?_⟩
      have sD : ∀ o, Same H1 (L2.upd H1 D o) := fun o => Same.upd nD
      refine lc_list (K := K) (a := pl) (xs := wv ws (i0 :: l')) (fun i H2 => H2 = L2.upd H1 D (.lst (wv ws (((i0 :: l').take i).filter (nxt b ws s j))))) rfl (fun i H2 _ e => by rw [e]; exact SqL.of (sD _ _ _ hpl)) ?_ ?_
      · rintro i x H2 hx rfl
        obtain ⟨n, hn, rfl⟩ : ∃ n, (i0 :: l')[i]? = some n ∧ V.str (strOf (ws.getD n [])) = x := by
          unfold wv at hx
          rw [List.getElem?_map] at hx
          cases hq : (i0 :: l')[i]? with
          | none =>
            rw [hq] at hx
            cases hx
          | some n =>
            rw [hq] at hx
            exact ⟨n, rfl, Option.some.inj hx⟩
        have hsn := more n (List.mem_of_getElem? hn)
        have R2 := R1.same (sD (.lst (wv ws (((i0 :: l').take i).filter (nxt b ws s j)))))
        have ln : (strOf (ws.getD n [])).length ≤ sizeLine := by
          rw [strOf_len]
          exact Nat.le_trans (Nat.le_of_lt (W.short n)) (by decide)
        have hcp : (strOf (ws.getD n [])).cps.toList[s]? = some (((ws.getD n []).getD s 0).toNat) := by
          show ((ws.getD n []).map UInt8.toNat).toArray.toList[s]? = _
          rw [List.getElem?_map, List.getElem?_eq_getElem hsn, getD_lt hsn]
          rfl
        refine ⟨rfl, _, rfl, _, rfl, _, _, _, rfl, rfl, ln, atI_nat hcp, _, rfl, rfl, _, rfl, r, dx, _, rfl, R2.ins, rfl, r, b, j, t, dx, rfl, R2, rfl, _, rfl, ?_⟩
        rw [dec_int]
        have tf := take_filter (p := nxt b ws s j) hn
        refine ifB (fun h2 => ?_) fun h2 => ?_
        · have h2' : nxt b ws s j n = true := h2
          rw [if_pos h2'] at tf
          refine ⟨_, rfl, _, upd_same, ?_, ?_⟩
          · unfold wv
            rw [List.length_map]
            have y1 := List.length_filter_le (nxt b ws s j) ((i0 :: l').take i)
            have y2 : ((i0 :: l').take i).length ≤ (i0 :: l').length := by rw [List.length_take]; omega
            have y3 : (1001 : Nat) < sizeLine := by decide
            omega
          · rw [upd_upd, tf]
            congr 2
            unfold wv
            rw [List.map_append]
            rfl
        · have h2' : nxt b ws s j n = false := h2
          rw [h2', if_neg Bool.false_ne_true, List.append_nil] at tf
          rw [tf]
      · rintro H2 rfl
        have hl2 : (wv ws (i0 :: l')).length = (i0 :: l').length := List.length_map ..
        rw [hl2, List.take_length]
        have R2 := R1.same (sD (.lst (wv ws ((i0 :: l').filter (nxt b ws s j)))))
        have s2 : But r H (L2.upd H1 D (.lst (wv ws ((i0 :: l').filter (nxt b ws s j))))) := s1.same (sD _)
        refine ⟨_, rfl, D, _, rfl, .inl (SqL.of upd_same), rfl, _, rfl, ?_⟩
        rw [dec_int]
        refine ifB (fun h2 => ?_) fun h2 => ?_
        · have y : ((wv ws ((i0 :: l').filter (nxt b ws s j))).length : Int) = 0 := of_decide_eq_true h2
          have y2 : (i0 :: l').filter (nxt b ws s j) = [] := by
            unfold wv at y
            rw [List.length_map] at y
            exact List.length_eq_zero_iff.mp (by omega)
          have e : wordV b ws k = .error j := by
            unfold wordV
            rw [e1]
            cases hx : b[j]? with
            | none => rfl
            | some x =>
              dsimp only
              rw [nxt_some hx more] at y2
              rw [y2]
              rfl
          refine ⟨_, rfl, r, _, dx, _, _, rfl, R2.ins, T.cl_Reader, T.na_Reader_place, rfl, mk_err1 fun d H' n s3 hd => ?_⟩
          exact (q.bad j e).later s2 R2.some n s3 hd
        · have y : ¬ ((wv ws ((i0 :: l').filter (nxt b ws s j))).length : Int) = 0 := of_decide_eq_false h2
          have y2 : (i0 :: l').filter (nxt b ws s j) ≠ [] := by
            intro y3
            rw [y3] at y
            exact y rfl
          cases hx : b[j]? with
          | none => exact absurd (nxt_none hx) y2
          | some x =>
            have y4 := nxt_some hx more
            rw [hx] at e1
            dsimp only at e1
            rw [y4] at y2 R2 s2 ⊢
            rw [if_neg (by rw [List.isEmpty_iff]; exact y2)] at e1
            refine ⟨_, rfl, r, dx, _, rfl, R2.ins, rfl, r, b, j, t, dx, rfl, R2, ?_⟩
            refine ⟨_, rfl, _, _, rfl, rfl, ?_⟩
            have nrD : D ≠ r := fun y => by
              rw [y, R1.ins] at nD
              cases nD
            have nrp : p0 ≠ r := ne_of hp0 R1.ins (by intro y; cases y)
            refine ⟨16 - (s + 1), by omega, keep ws (i0 :: l') s x, s + 1, j + 1, D, _, rfl, ?_, ?_, R2.set, s2.trans But.upd, L.next x, y2, ?_, ?_, ?_, rfl⟩
            · rw [upd_ne nrD]
              exact upd_same
            · rw [upd_ne nrp]
              exact sD _ _ _ hp0
            · have y1 := List.length_filter_le (fun i => (ws.getD i [])[s]? == some x) (i0 :: l')
              unfold keep
              omega
            · have := W.short i0
              omega
            · have hf' : 16 - (s + 1) = f := by omega
              rw [e1, hf']
    · -- the word is read
      have hs : (ws.getD i0 []).length ≤ s := by
        have y : ¬ (s : Int) < (((ws.getD i0 []).length : Nat) : Int) := of_decide_eq_false h1
        omega
      obtain ⟨f, hf⟩ : ∃ f, 16 - s = f + 1 := ⟨15 - s, by omega⟩
      rw [hf, one_done b hs] at e1
      have e : wordV b ws k = .ok (.int i0, j) := by
        unfold wordV
        rw [e1]
        rfl
      have hi0 := L.lt i0 List.mem_cons_self
      have at_ : ∀ n, n < ws.length → (wv ws (List.range ws.length))[n]? = some (.str (strOf (ws.getD n []))) := fun n hn => by
        unfold wv
        rw [List.getElem?_map, List.getElem?_range hn]
        rfl
      refine ⟨_, rfl, .inl ⟨rfl, _, SqL.of hp0⟩, _, rfl, pl, _, 0, _, rfl, rfl, SqL.of hpl, atI_nat (j := 0) h0, p0, _, _, i0, _, rfl, rfl, SqL.of hp0, rfl, ?_, at_ i0 hi0, ?_, ?_, q.ok _ _ e H1 R1 s1⟩
      · rw [List.all_eq_true]
        intro y hy
        obtain ⟨n, _, rfl⟩ := List.mem_map.mp hy
        rfl
      · exact beq_self_eq_true _
      · intro m z' hm hz'
        rw [at_ m (by omega)] at hz'
        cases hz'
        show (strOf (ws.getD m []) == strOf (ws.getD i0 [])) = false
        rw [beq_eq_false_iff_ne]
        intro y
        have y2 := strOf_inj y
        have hm' : m < ws.length := by omega
        have e3 : ws.getD m [] = ws[m] := by simp [List.getD, hm']
        have e4 : ws.getD i0 [] = ws[i0] := by simp [List.getD, hi0]
        have y3 := W.free m i0 hm' hi0 (by rw [← e3, ← e4, y2]; exact List.prefix_rfl)
        omega
end
end Tf
set_option Elab.async false
set_option linter.all false
set_option maxRecDepth 100000
set_option maxHeartbeats 2000000
/-! Reading rows. -/
namespace Tf
open PySem PySem.Spec PyProof.Rows L2 TfX TfM
section
variable {P : Program} {w : World} {K : PySem.W.Frag} {mg : Str → Option Value} {base : Heap}
/-! ### tuples of ints -/
def TupI (H : Hp) (v : V) (x : List Int) : Prop := ∃ a, v = .ref a ∧ H a = some (.tup (x.map V.int))
abbrev Tups (H : Hp) : List V → List (List Int) → Prop := Paired (TupI H)
def TSame (H H' : Hp) : Prop := ∀ a xs, H a = some (.tup xs) → H' a = some (.tup xs)
theorem TupI.mono {H H' : Hp} {v : V} {x : List Int} (s : TSame H H') (h : TupI H v x) : TupI H' v x := by
  obtain ⟨a, e, q⟩ := h
  exact ⟨a, e, s _ _ q⟩
theorem Tups.mono {H H' : Hp} {vs : List V} {xs : List (List Int)} (s : TSame H H') (h : Tups H vs xs) : Tups H' vs xs := Paired.mapP h fun _ _ q => TupI.mono s q
theorem TSame.of {H H' : Hp} (s : Same H H') : TSame H H' := fun a xs h => s _ _ h
theorem TSame.trans {H H1 H2 : Hp} (s : TSame H H1) (t : TSame H1 H2) : TSame H H2 := fun a xs h => t _ _ (s _ _ h)
theorem TSame.lst {H : Hp} {p : Addr} {xs : List V} {o : HO} (h : H p = some (.lst xs)) : TSame H (L2.upd H p o) := fun a ys q => by
  rw [upd_ne (ne_of q h (by intro z; cases z))]
  exact q
theorem TSame.ins {H : Hp} {p C dx : Addr} {fs : List (Str × V)} {o : HO} (h : H p = some (.ins C dx fs)) : TSame H (L2.upd H p o) := fun a ys q => by
  rw [upd_ne (ne_of q h (by intro z; cases z))]
  exact q
theorem TSame.but {H H' : Hp} {p C dx : Addr} {fs : List (Str × V)} (h : H p = some (.ins C dx fs)) (s : But p H H') : TSame H H' := fun a ys q => s _ _ q (ne_of q h (by intro z; cases z))
theorem Tups.app : ∀ {H : Hp} {vs us : List V} {xs ys : List (List Int)}, Tups H vs xs → Tups H us ys → Tups H (vs ++ us) (xs ++ ys)
  | _, _, _, _, _, .nil, h => h
  | _, _, _, _, _, .cons a r, h => .cons a (Tups.app r h)
theorem Tups.one {H : Hp} {v : V} {x : List Int} (h : TupI H v x) : Tups H [v] [x] := .cons h .nil
theorem Tups.len {H : Hp} {vs : List V} {xs : List (List Int)} (h : Tups H vs xs) : vs.length = xs.length := Paired.length h
theorem Tups.at : ∀ {H : Hp} {vs : List V} {xs : List (List Int)} {i : Nat} {v : V}, Tups H vs xs → vs[i]? = some v → ∃ x, xs[i]? = some x ∧ TupI H v x
  | _, _, _, _, _, .nil, e => by simp at e
  | _, _, _, 0, _, .cons r _, e => by
    simp at e
    subst e
    exact ⟨_, rfl, r⟩
  | _, _, _, i + 1, v, .cons _ t, e => by
    obtain ⟨x, h1, h2⟩ := Tups.at (i := i) (v := v) t (by simpa using e)
    exact ⟨x, by simpa using h1, h2⟩
/-! ### the rows' cells, as the program has them -/
def rowT {α : Type} (ix : α → Nat) (y : Nat) : Nat → Nat → List α → List (List Int)
  | _, _, [] => []
  | x, p, a :: r => [((13 * y + x : Nat) : Int), (ix a : Int), (p : Int)] :: rowT ix y (x + 1) (p + 1) r
def rowsT {α : Type} (ix : α → Nat) : List (List α) → List Nat → List (List Int)
  | r :: l, p :: ps => rowT ix l.length 0 p r ++ rowsT ix l ps
  | _, _ => []
/-- a choice of one sign out of some -/
structure SignW {α : Type} (z : Str) (ws : List Tafl.Bytes) (sign : UInt8 → Option α) (ix : α → Nat) : Prop where
  words : Words z ws
  is : ∀ (b : Tafl.Bytes) (k : Nat), wordK b ws k = match (b[k]?).bind sign with
    | some a => .ok (ix a, k + 1)
    | none => .error k
def spRows (K : PySem.W.Frag) : Sp := fun vs H Q E => ∃ (α : Type) (sign : UInt8 → Option α) (ix : α → Nat) (r : Addr) (b : Tafl.Bytes) (k : Nat) (t dx : Addr) (z : Str) (ws : List Tafl.Bytes) (wide high : Nat), vs = [.ref r, .str z, .int wide, .int high] ∧ RdAt K H r b k t dx ∧ SignW z ws sign ix ∧ wide ≤ 13 ∧ high ≤ 13 ∧
  (∀ p, rowsK b sign wide high k = .error p → GF K E H r p) ∧
  (∀ g gp e, rowsK b sign wide high k = .ok (g, gp, e) → ∀ H' p vs, RdAt K H' r b e t dx → But r H H' → H p = none → H' p = some (.lst vs) → Tups H' vs (rowsT ix g gp) → Q (.ref p) H')
theorem ok_read_rows (T : Txt K mg) : FnOk P w K mg base (L2N.CX P w) 4 (a_read_rows K) T.fd_read_rows p_read_rows (spRows K) := by
  refine T.F_read_rows.ok sc_read_rows (fun vs H Q E h => ?_) (fun cdv A outer s H vs Q E hr h => ⟨_, (pss_cons (ps_set (i := 4) sc_read_rows.nd rfl (Or.inl rfl) (pe_lst pa_nil))
      (pss_cons (ps_for (passes_of rfl) rfl (pi_range3 rfl T.m_range (pa_cons (pe_op op_sub (pv 3) pe_int) (pa_cons (pe_un un_neg pe_int) (pa_cons (pe_un un_neg pe_int) pa_nil)))) (pg_name (i := 5) sc_read_rows.nd rfl (Or.inl rfl)) (pss_cons (ps_for (passes_of rfl) rfl (pi_range1 rfl T.m_range (pa_cons (pv 2) pa_nil)) (pg_name (i := 6) sc_read_rows.nd rfl (Or.inl rfl)) (pss_cons (ps_set (i := 7) sc_read_rows.nd rfl (Or.inl rfl) (pe_fld (pv 0) rfl))
      (pss_one (ps_expr (pe_bm PySem.F.plainAttrs_list PySem.F.slot_list_append PySem.F.type_list_append mt_append (pv 4) (pa_cons (pe_tup (pa_cons (pe_op op_add (pe_op op_mul (pe_glob (v := .int 13) rfl T.c_ACROSS ⟨_, rfl⟩) (pv 5)) (pv 6)) (pa_cons (pe_meth (pv 0) T.cl_Reader T.mt_Reader_choice (ok_Reader_choice T) (hr.mono (by decide)) (b_Reader_choice T) .nil (L2N.passes_call (L2N.takes_of rfl rfl rfl rfl) (fun _ _ _ _ h => h)) (pa_cons (pv 1) pa_nil)) (pa_cons (pv 7) pa_nil)))) pa_nil))))))
      (pss_one (ps_expr (pe_meth (pv 0) T.cl_Reader T.mt_Reader_word (ok_Reader_word T) (hr.mono (by decide)) (b_Reader_word T) .nil (L2N.passes_call (L2N.takes_of rfl rfl rfl rfl) (fun _ _ _ _ h => h)) (pa_cons pe_str pa_nil))))))
      (pss_one (ps_ret (pv 4))))), ?_⟩)
  · obtain ⟨α, sign, ix, r, b, k, t, dx, z, ws, wide, high, rfl, _⟩ := h
    rfl
  · obtain ⟨α, sign, ix, r, b, k, t, dx, z, ws, wide, high, rfl, R, S, hw, hh, kE, kQ⟩ := h
    refine ⟨Nat.zero_le _, fun pc npc => ?_⟩
    have npr : pc ≠ r := fun y => by
      rw [y, R.ins] at npc
      cases npc
    refine ⟨_, rfl, _, _, rfl, rfl, 1, rfl, 1, rfl, _, _, _, high, rfl, ?_, for_rangeC (fun i σ H' => ∃ (yv xv pv : Option V) (g0 : List (List α)) (gp0 : List Nat) (vs : List V) (cur : List (List Int)) (j : Nat),
        σ = [some (.ref r), some (.str z), some (.int wide), some (.int high), some (.ref pc), yv, xv, pv] ∧ RdAt K H' r b j t dx ∧ But r H H' ∧ H' pc = some (.lst vs) ∧ Tups H' vs cur ∧ vs.length ≤ 13 * i ∧
        (rowsK b sign wide high k = match rowsK b sign wide (high - i) j with
          | .error p => .error p
          | .ok (l, ps, e) => .ok (g0 ++ l, gp0 ++ ps, e)) ∧ ∀ l ps, l.length = high - i → rowsT ix (g0 ++ l) (gp0 ++ ps) = cur ++ rowsT ix l ps) ?_ ?_ ?_⟩
    · have y := RgC.neg (i := (high : Int) - 1) (j := -1) (by omega) (by omega) (by omega) (by omega)
      have e : ((high : Int) - 1 - -1).toNat = high := by omega
      rw [e] at y
      exact y
    · refine ⟨none, none, none, [], [], [], [], k, rfl, R.same (Same.upd npc), Same.toBut (Same.upd npc), upd_same, .nil, Nat.zero_le _, ?_, fun l ps _ => rfl⟩
      rw [Nat.sub_zero]
      cases rowsK b sign wide high k with
      | error p => rfl
      | ok q => rfl
    · rintro i σ H1 hi ⟨yv, xv, pv, g0, gp0, vs, cur, j, rfl, R1, s1, hpc, TT, hvl, e1, e2⟩
      obtain ⟨n, hn⟩ : ∃ n, high - i = n + 1 := ⟨high - i - 1, by omega⟩
      rw [hn] at e1 e2
      have e1' : rowsK b sign wide high k = match rowK b sign wide j with
          | .error p => .error p
          | .ok (rw_, j2) => match rowsK b sign wide n j2 with
            | .error p => .error p
            | .ok (l, ps, e) => .ok (g0 ++ rw_ :: l, gp0 ++ j :: ps, e) := by
        rw [e1]
        rw [show rowsK b sign wide (n + 1) j = (match rowK b sign wide j with
          | .error p => .error p
          | .ok (r, j2) => match rowsK b sign wide n j2 with
            | .error p => .error p
            | .ok (l, ps, e) => .ok (r :: l, j :: ps, e)) from rfl]
        cases rowK b sign wide j with
        | error p => rfl
        | ok q =>
          obtain ⟨r1, j2⟩ := q
          dsimp only
          cases rowsK b sign wide n j2 with
          | error p => rfl
          | ok q => rfl
      have hy : (high : Int) - 1 + (i : Nat) * (-1) = ((n : Nat) : Int) := by omega
      show tSeq (tFor _ _ _) _ _ _ _
      refine ⟨_, rfl, _, rfl, by omega, by omega, for_range (fun x σ H' => ∃ (xv pv : Option V) (a0 : List α) (vs2 : List V) (cur2 : List (List Int)),
        σ = [some (.ref r), some (.str z), some (.int wide), some (.int high), some (.ref pc), some (.int ((high : Int) - 1 + (i : Nat) * (-1))), xv, pv] ∧ RdAt K H' r b (j + x) t dx ∧ But r H H' ∧ H' pc = some (.lst vs2) ∧ Tups H' vs2 (cur ++ cur2) ∧ vs2.length ≤ 13 * i + x ∧
        (rowK b sign wide j = match rowK b sign (wide - x) (j + x) with
          | .error p => .error p
          | .ok (r, e) => .ok (a0 ++ r, e)) ∧ ∀ r, rowT ix n 0 j (a0 ++ r) = cur2 ++ rowT ix n x (j + x) r) ?_ ?_ ?_⟩
      · refine ⟨xv, pv, [], vs, [], rfl, R1, s1, hpc, by rw [List.append_nil]; exact TT, hvl, ?_, fun _ => rfl⟩
        rw [Nat.sub_zero, Nat.add_zero]
        cases rowK b sign wide j <;> rfl
      · rintro x σ H2 hx ⟨xv, pv, a0, vs2, cur2, rfl, R2, s2, hpc2, TT2, hvl2, e3, e4⟩
        rw [Int.toNat_natCast] at hx
        obtain ⟨m, hm⟩ : ∃ m, wide - x = m + 1 := ⟨wide - x - 1, by omega⟩
        rw [hm] at e3
        refine ⟨_, rfl, r, _, dx, _, _, rfl, R2.ins, T.cl_Reader, T.na_Reader_place, rfl, ?_⟩
        refine ⟨_, rfl, .inl ⟨rfl, _, SqL.of hpc2⟩, ?_⟩
        have ez : (13 : Int) * ((high : Int) - 1 + (i : Nat) * (-1)) + (0 + (x : Int)) = ((13 * n + x : Nat) : Int) := by
          rw [hy]
          omega
        refine ⟨_, rfl, _, _, rfl, rfl, .inl ⟨by decide, by decide⟩, _, rfl, _, _, rfl, rfl, ?_⟩
        refine ⟨_, rfl, r, dx, _, rfl, R2.ins, rfl, _, rfl, r, b, j + x, t, dx, z, ws, rfl, R2, S.words, ?_, ?_⟩
        · -- no such sign
          intro p hp
          have hk := S.is b (j + x)
          unfold wordV at hp
          rw [hk] at hp
          have e5 : rowK b sign (m + 1) (j + x) = match (b[j + x]?).bind sign with
            | some a => (rowK b sign m (j + x + 1)).map fun q => (a :: q.1, q.2)
            | none => .error (j + x) := rfl
          rw [e5] at e3
          cases ha : (b[j + x]?).bind sign with
          | some a =>
            rw [ha] at hp
            cases hp
          | none =>
            rw [ha] at hp e3
            have hp' : j + x = p := by
              have y : (Except.error (j + x) : Except Nat (V × Nat)) = .error p := hp
              injection y
            subst hp'
            rw [e3] at e1'
            intro d H' nd s3 hd
            refine kE (j + x) e1' d H' ?_ (s2.trans s3) hd
            cases q : H d with
            | none => rfl
            | some o =>
              by_cases y : d = r
              · subst y
                rw [R2.ins] at nd
                cases nd
              · rw [s2 d o q y] at nd
                cases nd
        · intro v j2 hv H3 R3 s3
          have hk := S.is b (j + x)
          unfold wordV at hv
          rw [hk] at hv
          have e5 : rowK b sign (m + 1) (j + x) = match (b[j + x]?).bind sign with
            | some a => (rowK b sign m (j + x + 1)).map fun q => (a :: q.1, q.2)
            | none => .error (j + x) := rfl
          rw [e5] at e3
          cases ha : (b[j + x]?).bind sign with
          | none =>
            rw [ha] at hv
            cases hv
          | some a =>
            rw [ha] at hv e3
            have hv' : (V.int (ix a), j + x + 1) = (v, j2) := by
              have y : (Except.ok (V.int (ix a), j + x + 1) : Except Nat (V × Nat)) = .ok (v, j2) := hv
              injection y
            cases hv'
            have hpc3 : H3 pc = some (.lst vs2) := s3 _ _ hpc2 npr
            refine ⟨_, rfl, (by show 3 ≤ sizeLine; decide), fun tp ntp => ?_⟩
            have st : Same H3 (L2.upd H3 tp (.tup [.int ((13 : Int) * ((high : Int) - 1 + (i : Nat) * (-1)) + (0 + (x : Int))), .int (ix a), .int ((j + x : Nat) : Int)])) := Same.upd ntp
            refine ⟨pc, vs2, _, rfl, rfl, st _ _ hpc3, ?_, ?_⟩
            · have y3 : (1000 : Nat) < sizeLine := by decide
              omega
            · refine ⟨_, _, a0 ++ [a], vs2 ++ [.ref tp], cur2 ++ [[((13 * n + x : Nat) : Int), (ix a : Int), ((j + x : Nat) : Int)]], rfl, ?_, ?_, upd_same, ?_, ?_, ?_, ?_⟩
              · have y := R3.same st
                exact ⟨by rw [upd_ne (Ne.symm npr)]; exact y.ins, by
                  have hne : t ≠ pc := fun e => by
                    rw [← e, R.txt] at npc
                    cases npc
                  rw [upd_ne hne]
                  exact y.txt⟩
              · intro c o ho hne
                have y := st _ _ ((s2.trans s3) c o ho hne)
                rw [upd_ne (fun e => by rw [e, npc] at ho; cases ho)]
                exact y
              · rw [← List.append_assoc]
                refine Tups.app (Tups.mono ((((TSame.but R2.ins s3).trans (TSame.of st))).trans (TSame.lst (st _ _ hpc3))) TT2) (Tups.one ⟨tp, rfl, ?_⟩)
                rw [upd_ne (fun e => by rw [← e, ntp] at hpc3; cases hpc3), upd_same]
                exact congrArg (fun c : Int => some (HO.tup [V.int c, V.int (ix a), V.int ((j + x : Nat) : Int)])) ez
              · rw [List.length_append]
                show vs2.length + 1 ≤ _
                omega
              · rw [e3]
                have hm' : wide - (x + 1) = m := by omega
                rw [hm']
                show (match (Except.map (fun q => (a :: q.1, q.2)) (rowK b sign m (j + x + 1))) with
                  | .error p => Except.error p
                  | .ok (r, e) => .ok (a0 ++ r, e)) = _
                cases rowK b sign m (j + x + 1) with
                | error p => rfl
                | ok q =>
                  show Except.ok (a0 ++ a :: q.1, q.2) = Except.ok (a0 ++ [a] ++ q.1, q.2)
                  rw [List.append_assoc]
                  rfl
              · intro r2
                have y := e4 (a :: r2)
                rw [List.append_assoc, List.append_assoc]
                exact y
      · rintro σ H2 ⟨xv, pv, a0, vs2, cur2, rfl, R2, s2, hpc2, TT2, hvl2, e3, e4⟩
        rw [Int.toNat_natCast] at R2 hvl2 e3 e4
        rw [Nat.sub_self] at e3
        have e5 : rowK b sign 0 (j + wide) = (litK b [Tafl.LF] (j + wide)).map fun j => ([], j) := rfl
        rw [e5] at e3
        refine ⟨_, rfl, r, dx, _, rfl, R2.ins, rfl, r, b, j + wide, t, dx, _, [Tafl.LF], rfl, R2, rfl, ?_, ?_⟩
        · intro p hp
          unfold litV at hp
          cases hl : litK b [Tafl.LF] (j + wide) with
          | ok q =>
            rw [hl] at hp
            cases hp
          | error p2 =>
            rw [hl] at hp e3
            have hp' : p2 = p := by
              have y : (Except.error p2 : Except Nat (V × Nat)) = .error p := hp
              injection y
            subst hp'
            rw [e3] at e1'
            intro d H' nd s3 hd
            refine kE p2 e1' d H' ?_ (s2.trans s3) hd
            cases q : H d with
            | none => rfl
            | some o =>
              by_cases y : d = r
              · subst y
                rw [R2.ins] at nd
                cases nd
              · rw [s2 d o q y] at nd
                cases nd
        · intro v j2 hv H3 R3 s3
          unfold litV at hv
          cases hl : litK b [Tafl.LF] (j + wide) with
          | error p =>
            rw [hl] at hv
            cases hv
          | ok j3 =>
            rw [hl] at hv e3
            have hv' : (V.non, j3) = (v, j2) := by
              have y : (Except.ok (V.non, j3) : Except Nat (V × Nat)) = .ok (v, j2) := hv
              injection y
            cases hv'
            have e3' : rowK b sign wide j = .ok (a0, j2) := by
              rw [e3]
              show Except.ok (a0 ++ [], j2) = _
              rw [List.append_nil]
            rw [e3'] at e1'
            refine ⟨_, xv, pv, g0 ++ [a0], gp0 ++ [j], vs2, cur ++ cur2, j2, rfl, R3, s2.trans s3, s3 _ _ hpc2 npr, Tups.mono (TSame.but R2.ins s3) TT2, by omega, ?_, ?_⟩
            · have hn' : high - (i + 1) = n := by omega
              rw [hn', e1']
              dsimp only
              cases rowsK b sign wide n j2 with
              | error p => rfl
              | ok q =>
                show Except.ok (g0 ++ a0 :: q.1, gp0 ++ j :: q.2.1, q.2.2) = Except.ok (g0 ++ [a0] ++ q.1, gp0 ++ [j] ++ q.2.1, q.2.2)
                rw [List.append_assoc, List.append_assoc]
                rfl
            · intro l ps hl2
              have y := e2 (a0 :: l) (j :: ps) (by rw [List.length_cons]; omega)
              rw [List.append_assoc, List.append_assoc]
              refine Eq.trans y ?_
              show cur ++ (rowT ix l.length 0 j a0 ++ rowsT ix l ps) = cur ++ cur2 ++ rowsT ix l ps
              have hl3 : l.length = n := by omega
              have y2 := e4 []
              rw [List.append_nil] at y2
              rw [hl3, y2, show rowT ix n wide (j + wide) ([] : List α) = [] from rfl, List.append_nil, List.append_assoc]
    · rintro σ H1 ⟨yv, xv, pv, g0, gp0, vs, cur, j, rfl, R1, s1, hpc, TT, hvl, e1, e2⟩
      rw [Nat.sub_self] at e1 e2
      have e3 : rowsK b sign wide high k = .ok (g0, gp0, j) := by
        rw [e1]
        show Except.ok (g0 ++ [], gp0 ++ [], j) = _
        rw [List.append_nil, List.append_nil]
      refine ⟨_, rfl, kQ g0 gp0 j e3 H1 pc vs R1 s1 npc hpc ?_⟩
      have y := e2 [] [] rfl
      rw [List.append_nil, List.append_nil] at y
      rw [y]
      show Tups H1 vs (cur ++ [])
      rw [List.append_nil]
      exact TT
end
end Tf
set_option Elab.async false
set_option linter.all false
set_option maxRecDepth 100000
set_option maxHeartbeats 4000000
/-! A rules' text. -/
namespace Tf
open PySem PySem.Spec PyProof.Rows L2 TfX TfM
section
variable {P : Program} {w : World} {K : PySem.W.Frag} {mg : Str → Option Value} {base : Heap}
theorem words_mk {z : Str} {ws : List Tafl.Bytes} (h1 : PySem.Txt.split z " " = ws.map strOf) (h2 : pfree ws = true) (h3 : (ws.all fun w => decide (w.length < 16)) = true) (h4 : decide (ws ≠ [] ∧ ws.length ≤ 1000 ∧ z.length ≤ 1000) = true) : Words z ws := by
  obtain ⟨a, b, c⟩ := of_decide_eq_true h4
  refine ⟨h1, pfree_ok h2, a, fun i => ?_, b, c⟩
  by_cases hi : i < ws.length
  · rw [getD_lt hi]
    exact of_decide_eq_true (List.all_eq_true.mp h3 _ (List.getElem_mem hi))
  · have e : ws.getD i [] = [] := by simp [List.getD, List.getElem?_eq_none (Nat.le_of_not_lt hi)]
    rw [e]
    exact (by decide : 0 < 16)
theorem one_lt (b : Tafl.Bytes) : ∀ (f : Nat) (l : List (Nat × Tafl.Bytes)) (k i j n : Nat), (∀ q ∈ l, q.1 < n) → oneK b f l k = .ok (i, j) → i < n
  | 0, _, _, _, _, _, _, h => by cases h
  | f + 1, l, k, i, j, n, hl, h => by
    unfold oneK at h
    cases hf : l.find? fun (w : Nat × Tafl.Bytes) => w.2.isEmpty with
    | some w =>
      rw [hf] at h
      have y : (w.1, k) = (i, j) := by injection h
      cases y
      exact hl w (List.mem_of_find?_eq_some hf)
    | none =>
      rw [hf] at h
      dsimp only at h
      cases hx : b[k]? with
      | none =>
        rw [hx] at h
        cases h
      | some x =>
        rw [hx] at h
        dsimp only at h
        split at h
        · cases h
        · refine one_lt b f _ (k + 1) i j n (fun q hq => ?_) h
          obtain ⟨w, hw, e⟩ := List.mem_filterMap.mp hq
          split at e
          · cases e
            exact hl w hw
          · cases e
theorem word_lt {b : Tafl.Bytes} {ws : List Tafl.Bytes} {k i j : Nat} (h : wordK b ws k = .ok (i, j)) : i < ws.length := by
  refine one_lt b 16 (numbered ws) k i j ws.length (fun q hq => ?_) h
  obtain ⟨n, hn, rfl⟩ := List.mem_map.mp hq
  exact List.mem_range.mp hn
/-- a choice of single signs -/
theorem single (b : Tafl.Bytes) (k : Nat) (xs : List UInt8) : wordK b (xs.map fun x => [x]) k = match b[k]? with
    | none => .error k
    | some x => match (numbered (xs.map fun x => [x])).filterMap fun (w : Nat × Tafl.Bytes) => if w.2.head? = some x then some (w.1, w.2.drop 1) else none with
      | [] => .error k
      | w :: _ => .ok (w.1, k + 1) := by
  have hall : ∀ q ∈ numbered (xs.map fun x => [x]), q.2.length = 1 := fun q hq => by
    obtain ⟨n, hn, rfl⟩ := List.mem_map.mp hq
    have hn' := List.mem_range.mp hn
    show ((xs.map fun x => [x]).getD n []).length = 1
    rw [getD_lt hn', List.getElem_map]
    rfl
  have hf : (numbered (xs.map fun x => [x])).find? (fun (w : Nat × Tafl.Bytes) => w.2.isEmpty) = none := by
    rw [List.find?_eq_none]
    intro q hq hy
    have := hall q hq
    rw [List.isEmpty_iff.mp hy] at this
    cases this
  unfold wordK
  rw [oneK, hf]
  dsimp only
  cases hx : b[k]? with
  | none => rfl
  | some x =>
    dsimp only
    generalize hm : (numbered (xs.map fun x => [x])).filterMap (fun (w : Nat × Tafl.Bytes) => if w.2.head? = some x then some (w.1, w.2.drop 1) else none) = m
    cases m with
    | nil => rfl
    | cons w r =>
      have hw : w ∈ (numbered (xs.map fun x => [x])).filterMap (fun (w : Nat × Tafl.Bytes) => if w.2.head? = some x then some (w.1, w.2.drop 1) else none) := by
        rw [hm]
        exact List.mem_cons_self
      obtain ⟨q, hq, e⟩ := List.mem_filterMap.mp hw
      have hw2 : w.2 = [] := by
        split at e
        · cases e
          have := hall q hq
          show q.2.drop 1 = []
          exact List.drop_eq_nil_of_le (by omega)
        · cases e
      show (if (w :: r).isEmpty = true then Except.error k else oneK b 15 (w :: r) (k + 1)) = _
      rw [if_neg (by simp)]
      rw [oneK, List.find?_cons, hw2]
      rfl
theorem kindW : SignW ". S X #" [[46], [83], [88], [35]] Tafl.kindSign kIx := by
  refine ⟨words_mk (by decide +kernel) (by decide +kernel) (by decide +kernel) (by decide +kernel), fun b k => ?_⟩
  rw [show ([[46], [83], [88], [35]] : List Tafl.Bytes) = ([46, 83, 88, 35] : List UInt8).map fun x => [x] from rfl, single]
  cases hx : b[k]? with
  | none => rfl
  | some x =>
    rw [Option.bind_some]
    dsimp only
    unfold Tafl.kindSign
    by_cases h1 : x = 46
    · subst h1
      rfl
    by_cases h2 : x = 83
    · subst h2
      rfl
    by_cases h3 : x = 88
    · subst h3
      rfl
    by_cases h4 : x = 35
    · subst h4
      rfl
    rw [if_neg h1, if_neg h2, if_neg h3, if_neg h4]
    have e : (numbered (([46, 83, 88, 35] : List UInt8).map fun x => [x])).filterMap (fun (w : Nat × Tafl.Bytes) => if w.2.head? = some x then some (w.1, w.2.drop 1) else none) = [] := by
      show [(0, [46]), (1, [83]), (2, [88]), (3, [35])].filterMap _ = []
      have n1 : ¬ (some (46 : UInt8) = some x) := fun y => h1 (Option.some.inj y).symm
      have n2 : ¬ (some (83 : UInt8) = some x) := fun y => h2 (Option.some.inj y).symm
      have n3 : ¬ (some (88 : UInt8) = some x) := fun y => h3 (Option.some.inj y).symm
      have n4 : ¬ (some (35 : UInt8) = some x) := fun y => h4 (Option.some.inj y).symm
      simp only [List.filterMap_cons, List.head?_cons, n1, n2, n3, n4, if_false, List.filterMap_nil]
    rw [e]
theorem pieceW : SignW ". h m K" [[46], [104], [109], [75]] Tafl.pieceSign pIx := by
  refine ⟨words_mk (by decide +kernel) (by decide +kernel) (by decide +kernel) (by decide +kernel), fun b k => ?_⟩
  rw [show ([[46], [104], [109], [75]] : List Tafl.Bytes) = ([46, 104, 109, 75] : List UInt8).map fun x => [x] from rfl, single]
  cases hx : b[k]? with
  | none => rfl
  | some x =>
    rw [Option.bind_some]
    dsimp only
    unfold Tafl.pieceSign
    by_cases h1 : x = 46
    · subst h1
      rfl
    by_cases h2 : x = 104
    · subst h2
      rfl
    by_cases h3 : x = 109
    · subst h3
      rfl
    by_cases h4 : x = 75
    · subst h4
      rfl
    rw [if_neg h1, if_neg h2, if_neg h3, if_neg h4]
    have e : (numbered (([46, 104, 109, 75] : List UInt8).map fun x => [x])).filterMap (fun (w : Nat × Tafl.Bytes) => if w.2.head? = some x then some (w.1, w.2.drop 1) else none) = [] := by
      show [(0, [46]), (1, [104]), (2, [109]), (3, [75])].filterMap _ = []
      have n1 : ¬ (some (46 : UInt8) = some x) := fun y => h1 (Option.some.inj y).symm
      have n2 : ¬ (some (104 : UInt8) = some x) := fun y => h2 (Option.some.inj y).symm
      have n3 : ¬ (some (109 : UInt8) = some x) := fun y => h3 (Option.some.inj y).symm
      have n4 : ¬ (some (75 : UInt8) = some x) := fun y => h4 (Option.some.inj y).symm
      simp only [List.filterMap_cons, List.head?_cons, n1, n2, n3, n4, if_false, List.filterMap_nil]
    rw [e]
theorem w_first : Words "hunters king" (["hunters", "king"].map Tafl.ascii) := words_mk (by decide +kernel) (by decide +kernel) (by decide +kernel) (by decide +kernel)
theorem w_slides : Words "steps slides" (["steps", "slides"].map Tafl.ascii) := words_mk (by decide +kernel) (by decide +kernel) (by decide +kernel) (by decide +kernel)
theorem w_armed : Words "bare armed" (["bare", "armed"].map Tafl.ascii) := words_mk (by decide +kernel) (by decide +kernel) (by decide +kernel) (by decide +kernel)
theorem w_four : Words "two four" (["two", "four"].map Tafl.ascii) := words_mk (by decide +kernel) (by decide +kernel) (by decide +kernel) (by decide +kernel)
theorem w_passed : Words "barred passed" (["barred", "passed"].map Tafl.ascii) := words_mk (by decide +kernel) (by decide +kernel) (by decide +kernel) (by decide +kernel)
theorem w_enm : Words "quiet hunters men all" (Tafl.ENMITY.map Tafl.ascii) := words_mk (by decide +kernel) (by decide +kernel) (by decide +kernel) (by decide +kernel)
theorem w_goal : Words "edge exits" (["edge", "exits"].map Tafl.ascii) := words_mk (by decide +kernel) (by decide +kernel) (by decide +kernel) (by decide +kernel)
theorem w_thrice : Words "drawn hunters king" (["drawn", "hunters", "king"].map Tafl.ascii) := words_mk (by decide +kernel) (by decide +kernel) (by decide +kernel) (by decide +kernel)
theorem w_turn : Words "h k" [[104], [107]] := words_mk (by decide +kernel) (by decide +kernel) (by decide +kernel) (by decide +kernel)
theorem w_all : Words "h m K" [[104], [109], [75]] := words_mk (by decide +kernel) (by decide +kernel) (by decide +kernel) (by decide +kernel)
theorem w_men : Words "h m" [[104], [109]] := words_mk (by decide +kernel) (by decide +kernel) (by decide +kernel) (by decide +kernel)
end
end Tf
set_option Elab.async false
set_option linter.all false
set_option maxRecDepth 100000
set_option maxHeartbeats 8000000
/-! A rules' text is read. -/
namespace Tf
open PySem PySem.Spec PyProof.Rows L2 TfX TfM
section
variable {P : Program} {w : World} {K : PySem.W.Frag} {mg : Str → Option Value} {base : Heap}
/-- lists and tuples stand as they were -/
def DSame (H H' : Hp) : Prop := (∀ a xs, H a = some (.lst xs) → H' a = some (.lst xs)) ∧ TSame H H'
theorem DSame.refl {H : Hp} : DSame H H := ⟨fun _ _ h => h, fun _ _ h => h⟩
theorem DSame.trans {H H1 H2 : Hp} (a : DSame H H1) (b : DSame H1 H2) : DSame H H2 := ⟨fun _ _ h => b.1 _ _ (a.1 _ _ h), a.2.trans b.2⟩
theorem DSame.of {H H' : Hp} (s : Same H H') : DSame H H' := ⟨fun _ _ h => s _ _ h, TSame.of s⟩
theorem DSame.but {H H' : Hp} {p C dx : Addr} {fs : List (Str × V)} (h : H p = some (.ins C dx fs)) (s : But p H H') : DSame H H' := ⟨fun a ys q => s _ _ q (ne_of q h (by intro z; cases z)), TSame.but h s⟩
theorem DSame.ins {H : Hp} {p C dx : Addr} {fs : List (Str × V)} {o : HO} (h : H p = some (.ins C dx fs)) : DSame H (L2.upd H p o) := DSame.but h But.upd
/-- a list of tuples of ints -/
structure LT (H : Hp) (p : Addr) (xs : List (List Int)) : Prop where
  ex : ∃ vs, H p = some (.lst vs) ∧ Tups H vs xs
theorem LT.mono {H H' : Hp} {p : Addr} {xs : List (List Int)} (s : DSame H H') (h : LT H p xs) : LT H' p xs := by
  obtain ⟨vs, a, b⟩ := h.ex
  exact ⟨vs, s.1 _ _ a, Tups.mono s.2 b⟩
/-- an object p that reads from r -/
structure S6 (K : PySem.W.Frag) (C : Addr) (H0 H : Hp) (p dxp r : Addr) (b : Tafl.Bytes) (k : Nat) (t dx : Addr) (fs : List (Str × V)) : Prop where
  ins : H p = some (.ins C dxp fs)
  rd : RdAt K H r b k t dx
  but : ∀ a o, H0 a = some o → a ≠ p → a ≠ r → H a = some o
  ne : p ≠ r
/-- a fault is let out by p's __init__ -/
def KE (K : PySem.W.Frag) (E : XK) (H0 : Hp) (p r : Addr) (q : Nat) : Prop := ∀ d H2, H0 d = none → (∀ a o, H0 a = some o → a ≠ p → a ≠ r → H2 a = some o) → H2 d = some (.xd [("place", .int q)]) → E (.ref (c_GrammarFault K)) (some d) H2
section
variable {C : Addr} {H0 H : Hp} {p dxp r : Addr} {b : Tafl.Bytes} {k : Nat} {t dx : Addr} {fs : List (Str × V)} {E : XK} {D : Ends} {σ : L2.St}
theorem S6.gf (S : S6 K C H0 H p dxp r b k t dx fs) {q : Nat} (h : KE K E H0 p r q) : GF K E H r q := fun d H2 nd s hd => by
  refine h d H2 ?_ (fun a o e n1 n2 => s a o (S.but a o e n1 n2) n2) hd
  cases y : H0 d with
  | none => rfl
  | some o =>
    by_cases h1 : d = p
    · rw [h1, S.ins] at nd
      cases nd
    by_cases h2 : d = r
    · rw [h2, S.rd.ins] at nd
      cases nd
    rw [S.but d o y h1 h2] at nd
    cases nd
theorem S6.next (S : S6 K C H0 H p dxp r b k t dx fs) {H' : Hp} {j : Nat} (R : RdAt K H' r b j t dx) (s : But r H H') : S6 K C H0 H' p dxp r b j t dx fs :=
  ⟨s _ _ S.ins S.ne, R, fun a o e n1 n2 => s a o (S.but a o e n1 n2) n2, S.ne⟩
theorem S6.put (S : S6 K C H0 H p dxp r b k t dx fs) {gs : List (Str × V)} : S6 K C H0 (L2.upd H p (.ins C dxp gs)) p dxp r b k t dx gs := by
  refine ⟨upd_same, ⟨?_, ?_⟩, fun a o e n1 n2 => ?_, S.ne⟩
  · rw [upd_ne (Ne.symm S.ne)]
    exact S.rd.ins
  · rw [upd_ne (ne_of S.rd.txt S.ins (by intro z; cases z))]
    exact S.rd.txt
  · rw [upd_ne n1]
    exact S.but a o e n1 n2
/-- reader.word(z) -/
theorem st_word (S : S6 K C H0 H p dxp r b k t dx fs) {i : Nat} {z : Str} {w : Tafl.Bytes} (hσ : σ[i]? = some (some (.ref r))) (hz : z.cps = (w.map UInt8.toNat).toArray) (bad : ∀ q, litK b w k = .error q → KE K E H0 p r q)
    (ok : ∀ j, litK b w k = .ok j → ∀ H', S6 K C H0 H' p dxp r b j t dx fs → DSame H H' → D.nx σ H') : tDrop (tMeth (c_Reader K) "word" (spWord K) [] E (tVar i) (tCons (tC (.str z)) tNil)) D σ H := by
  refine ⟨_, hσ, r, dx, _, rfl, S.rd.ins, rfl, r, b, k, t, dx, z, w, rfl, S.rd, hz, fun q hq => S.gf (bad q ?_), fun v j hv H' R s => ?_⟩
  · unfold litV at hq
    cases hl : litK b w k with
    | error q2 =>
      rw [hl] at hq
      have y : q2 = q := by injection hq
      rw [y]
    | ok j =>
      rw [hl] at hq
      cases hq
  · unfold litV at hv
    cases hl : litK b w k with
    | error q2 =>
      rw [hl] at hv
      cases hv
    | ok j2 =>
      rw [hl] at hv
      have y : (V.non, j2) = (v, j) := by injection hv
      cases y
      exact ok _ hl H' (S.next R s) (DSame.but S.rd.ins s)
theorem map_err {α β : Type} {f : α → β} {x : Except Nat α} {q : Nat} (h : x.map f = .error q) : x = .error q := by
  cases x with
  | error a =>
    have y : a = q := by injection h
    rw [y]
  | ok a => cases h
theorem map_ok {α β : Type} {f : α → β} {x : Except Nat α} {c : β} (h : x.map f = .ok c) : ∃ a, x = .ok a ∧ f a = c := by
  cases x with
  | error a => cases h
  | ok a => exact ⟨a, rfl, by injection h⟩
/-- self.f = reader.number(lo, hi) -/
theorem st_num (S : S6 K C H0 H p dxp r b k t dx fs) {lo hi : Nat} {lo' hi' : Int} {f : Str} (elo : lo' = (lo : Int)) (ehi : hi' = (hi : Int)) (hC : Cls K C) (hF : NoAttr K C f) (hn : fs.length < 1000) (h0 : σ[0]? = some (some (.ref p))) (h1 : σ[1]? = some (some (.ref r))) (hh : hi < 100000)
    (bad : ∀ q, numK b lo hi 6 0 k = .error q → KE K E H0 p r q) (ok : ∀ n j, numK b lo hi 6 0 k = .ok (n, j) → ∀ H', S6 K C H0 H' p dxp r b j t dx (putF f (.int n) fs) → DSame H H' → D.nx σ H') :
    sFld K (tVar 0) (tMeth (c_Reader K) "number" (spNumber K) [] E (tVar 1) (tCons (tC (.int lo')) (tCons (tC (.int hi')) tNil))) f D σ H := by
  subst elo ehi
  refine ⟨_, h1, r, dx, _, rfl, S.rd.ins, rfl, r, b, k, t, dx, lo, hi, rfl, S.rd, hh, fun q hq => S.gf (bad q (map_err hq)), fun v j hv H' R s => ?_⟩
  obtain ⟨⟨n, j2⟩, e1, e2⟩ := map_ok hv
  cases e2
  have S' := S.next R s
  exact ⟨_, h0, p, C, dxp, fs, rfl, S'.ins, hC, hF, hn, ok _ _ e1 _ S'.put ((DSame.but S.rd.ins s).trans (DSame.ins S'.ins))⟩
/-- reader.number(lo, hi) -/
theorem st_num0 (S : S6 K C H0 H p dxp r b k t dx fs) {lo hi : Nat} {lo' hi' : Int} (elo : lo' = (lo : Int)) (ehi : hi' = (hi : Int)) (h1 : σ[1]? = some (some (.ref r))) (hh : hi < 100000)
    (bad : ∀ q, numK b lo hi 6 0 k = .error q → KE K E H0 p r q) (ok : ∀ n j, numK b lo hi 6 0 k = .ok (n, j) → ∀ H', S6 K C H0 H' p dxp r b j t dx fs → DSame H H' → D.nx σ H') :
    tDrop (tMeth (c_Reader K) "number" (spNumber K) [] E (tVar 1) (tCons (tC (.int lo')) (tCons (tC (.int hi')) tNil))) D σ H := by
  subst elo ehi
  refine ⟨_, h1, r, dx, _, rfl, S.rd.ins, rfl, r, b, k, t, dx, lo, hi, rfl, S.rd, hh, fun q hq => S.gf (bad q (map_err hq)), fun v j hv H' R s => ?_⟩
  obtain ⟨⟨n, j2⟩, e1, e2⟩ := map_ok hv
  cases e2
  exact ok _ _ e1 _ (S.next R s) (DSame.but S.rd.ins s)
/-- self.f = reader.choice(z) -/
theorem st_cho (S : S6 K C H0 H p dxp r b k t dx fs) {z : Str} {ws : List Tafl.Bytes} {f : Str} (W : Words z ws) (hC : Cls K C) (hF : NoAttr K C f) (hn : fs.length < 1000) (h0 : σ[0]? = some (some (.ref p))) (h1 : σ[1]? = some (some (.ref r)))
    (bad : ∀ q, wordK b ws k = .error q → KE K E H0 p r q) (ok : ∀ n j, wordK b ws k = .ok (n, j) → ∀ H', S6 K C H0 H' p dxp r b j t dx (putF f (.int n) fs) → DSame H H' → D.nx σ H') :
    sFld K (tVar 0) (tMeth (c_Reader K) "choice" (spChoice K) [] E (tVar 1) (tCons (tC (.str z)) tNil)) f D σ H := by
  refine ⟨_, h1, r, dx, _, rfl, S.rd.ins, rfl, r, b, k, t, dx, z, ws, rfl, S.rd, W, fun q hq => S.gf (bad q (map_err hq)), fun v j hv H' R s => ?_⟩
  obtain ⟨⟨n, j2⟩, e1, e2⟩ := map_ok hv
  cases e2
  have S' := S.next R s
  exact ⟨_, h0, p, C, dxp, fs, rfl, S'.ins, hC, hF, hn, ok _ _ e1 _ S'.put ((DSame.but S.rd.ins s).trans (DSame.ins S'.ins))⟩
theorem st_cho0 (S : S6 K C H0 H p dxp r b k t dx fs) {z : Str} {ws : List Tafl.Bytes} (W : Words z ws) (h1 : σ[1]? = some (some (.ref r)))
    (bad : ∀ q, wordK b ws k = .error q → KE K E H0 p r q) (ok : ∀ n j, wordK b ws k = .ok (n, j) → ∀ H', S6 K C H0 H' p dxp r b j t dx fs → DSame H H' → D.nx σ H') :
    tDrop (tMeth (c_Reader K) "choice" (spChoice K) [] E (tVar 1) (tCons (tC (.str z)) tNil)) D σ H := by
  refine ⟨_, h1, r, dx, _, rfl, S.rd.ins, rfl, r, b, k, t, dx, z, ws, rfl, S.rd, W, fun q hq => S.gf (bad q (map_err hq)), fun v j hv H' R s => ?_⟩
  obtain ⟨⟨n, j2⟩, e1, e2⟩ := map_ok hv
  cases e2
  exact ok _ _ e1 _ (S.next R s) (DSame.but S.rd.ins s)
/-- self.f = reader.place -/
theorem st_place (T : Txt K mg) (S : S6 K C H0 H p dxp r b k t dx fs) {f : Str} (hC : Cls K C) (hF : NoAttr K C f) (hn : fs.length < 1000) (h0 : σ[0]? = some (some (.ref p))) (h1 : σ[1]? = some (some (.ref r)))
    (ok : ∀ H', S6 K C H0 H' p dxp r b k t dx (putF f (.int k) fs) → DSame H H' → D.nx σ H') : sFld K (tVar 0) (tFld K (tVar 1) "place") f D σ H :=
  ⟨_, h1, r, _, dx, _, _, rfl, S.rd.ins, T.cl_Reader, T.na_Reader_place, rfl, _, h0, p, C, dxp, fs, rfl, S.ins, hC, hF, hn, ok _ S.put (DSame.ins S.ins)⟩
/-- self.f = read_rows(reader, z, self.wide, self.high) -/
theorem st_rows (S : S6 K C H0 H p dxp r b k t dx fs) {α : Type} {sign : UInt8 → Option α} {ix : α → Nat} {z : Str} {ws : List Tafl.Bytes} {f : Str} {wide high : Nat} (W : SignW z ws sign ix) (hC : Cls K C) (hF : NoAttr K C f) (nw : NoAttr K C "wide") (nh : NoAttr K C "high") (hn : fs.length < 1000)
    (lw : fs.lookup ("wide" : Str) = some (.int wide)) (lh : fs.lookup ("high" : Str) = some (.int high)) (bw : wide ≤ 13) (bh : high ≤ 13) (h0 : σ[0]? = some (some (.ref p))) (h1 : σ[1]? = some (some (.ref r)))
    (bad : ∀ q, rowsK b sign wide high k = .error q → KE K E H0 p r q) (ok : ∀ g gp j, rowsK b sign wide high k = .ok (g, gp, j) → ∀ H' pl, S6 K C H0 H' p dxp r b j t dx (putF f (.ref pl) fs) → DSame H H' → LT H' pl (rowsT ix g gp) → D.nx σ H') :
    sFld K (tVar 0) (tCall (spRows K) [] E (tCons (tVar 1) (tCons (tC (.str z)) (tCons (tFld K (tVar 0) "wide") (tCons (tFld K (tVar 0) "high") tNil))))) f D σ H := by
  refine ⟨_, h1, _, h0, p, C, dxp, fs, _, rfl, S.ins, hC, nw, lw, _, h0, p, C, dxp, fs, _, rfl, S.ins, hC, nh, lh, α, sign, ix, r, b, k, t, dx, z, ws, wide, high, rfl, S.rd, W, bw, bh, fun q hq => S.gf (bad q hq), fun g gp e he H' pl vs R s npl hpl TT => ?_⟩
  have S' := S.next R s
  exact ⟨_, h0, p, C, dxp, fs, rfl, S'.ins, hC, hF, hn, ok _ _ _ he _ pl S'.put ((DSame.but S.rd.ins s).trans (DSame.ins S'.ins)) ((LT.mk ⟨vs, hpl, TT⟩).mono (DSame.ins S'.ins))⟩
end
theorem num_ge {b : Tafl.Bytes} {lo hi : Nat} : ∀ {f d k n j : Nat}, NumAt hi f d → hi < 100000 → numK b lo hi f d k = .ok (n, j) → lo ≤ n ∧ n ≤ hi
  | 0, d, k, n, j, N, hh, h => by
    have := N.pos hh
    omega
  | f + 1, d, k, n, j, N, hh, h => by
    have tail : (if lo ≤ d ∧ d ≤ hi then (Except.ok (d, k) : Except Nat (Nat × Nat)) else .error k) = .ok (n, j) → lo ≤ n ∧ n ≤ hi := fun y => by
      split at y
      · injection y with y
        cases y
        assumption
      · cases y
    have h' : (match b[k]? with
      | some x => if Tafl.isDigit x = true ∧ 0 < 10 * d + (x.toNat - 48) ∧ Tafl.begins lo hi (10 * d + (x.toNat - 48)) = true then numK b lo hi f (10 * d + (x.toNat - 48)) (k + 1) else if lo ≤ d ∧ d ≤ hi then .ok (d, k) else .error k
      | none => if lo ≤ d ∧ d ≤ hi then .ok (d, k) else .error k) = Except.ok (n, j) := h
    cases hx : b[k]? with
    | none =>
      rw [hx] at h'
      exact tail h'
    | some x =>
      rw [hx] at h'
      dsimp only at h'
      split at h'
      · rename_i hc
        exact num_ge (N.next hc.2.1 (by omega) (begins_le hc.2.2)) hh h'
      · exact tail h'
theorem num_in {b : Tafl.Bytes} {lo hi k n j : Nat} (hh : hi < 100000) (h : numK b lo hi 6 0 k = .ok (n, j)) : lo ≤ n ∧ n ≤ hi := num_ge (NumAt.start hi) hh h
def b2n (c : Bool) : Int := if c then 1 else 0
theorem b2n_of {n : Nat} (h : n < 2) : (n : Int) = b2n (n == 1) := by
  rcases (by omega : n = 0 ∨ n = 1) with rfl | rfl <;> rfl
/-- what a text says, as it lies in the heap -/
def rtF (ru : Tafl.Rules) (len : Nat) (pg ps : Addr) : List (Str × V) := [("wide", .int ru.wide), ("high", .int ru.high), ("ground", .ref pg), ("start", .ref ps), ("slides", .int (b2n ru.slides)), ("armed", .int (b2n ru.armed)), ("four", .int (b2n ru.four)),
  ("passed", .int (b2n ru.passed)), ("seat_enmity", .int ru.seat), ("exits_enmity", .int ru.exits), ("goal_place", .int ru.goalAt), ("goal", .int ru.goal), ("length", .int len)]
structure TextAt (K : PySem.W.Frag) (H : Hp) (p dxp : Addr) (ru : Tafl.Rules) (len : Nat) (pg ps : Addr) : Prop where
  ins : H p = some (.ins (c_RulesText K) dxp (rtF ru len pg ps))
  g : LT H pg (rowsT kIx ru.ground ru.groundAt)
  s : LT H ps (rowsT pIx ru.start ru.startAt)
def spText (K : PySem.W.Frag) : Sp := fun vs H Q E => ∃ (p dxp r : Addr) (b : Tafl.Bytes) (t dx : Addr), vs = [.ref p, .ref r] ∧ H p = some (.ins (c_RulesText K) dxp []) ∧ RdAt K H r b 0 t dx ∧
  (∀ q, gramK b = .error q → KE K E H p r q) ∧ (∀ ru, gramK b = .ok ru → Shaped ru → ∀ H' pg ps, TextAt K H' p dxp ru b.length pg ps → (∀ a o, H a = some o → a ≠ p → a ≠ r → H' a = some o) → Q .non H')
theorem ok_RulesText_init (T : Txt K mg) : FnOk P w K mg base (L2N.CX P w) 5 (a_RulesText_init K) T.fd_RulesText_init p_RulesText_init (spText K) := by
  refine T.F_RulesText_init.ok sc_RulesText_init (fun vs H Q E h => ?_) (fun cdv A outer s H vs Q E hr h => ⟨_, (pss_cons (ps_expr (pe_meth (pv 1) T.cl_Reader T.mt_Reader_word (ok_Reader_word T) (hr.mono (by decide)) (b_Reader_word T) .nil (L2N.passes_call (L2N.takes_of rfl rfl rfl rfl) (fun _ _ _ _ h => h)) (pa_cons pe_str pa_nil)))
      (pss_cons (ps_expr (pe_call (ok_read_name T) (hr.mono (by decide)) rfl T.g_read_name T.F_read_name.kp (b_read_name T) .nil (L2N.passes_call (L2N.takes_of rfl rfl rfl rfl) (fun _ _ _ _ h => h)) (pa_cons (pv 1) pa_nil)))
      (pss_cons (ps_expr (pe_meth (pv 1) T.cl_Reader T.mt_Reader_word (ok_Reader_word T) (hr.mono (by decide)) (b_Reader_word T) .nil (L2N.passes_call (L2N.takes_of rfl rfl rfl rfl) (fun _ _ _ _ h => h)) (pa_cons pe_str pa_nil)))
      (pss_cons (ps_fld (pv 0) (pe_meth (pv 1) T.cl_Reader T.mt_Reader_number (ok_Reader_number T) (hr.mono (by decide)) (b_Reader_number T) .nil (L2N.passes_call (L2N.takes_of rfl rfl rfl rfl) (fun _ _ _ _ h => h)) (pa_cons pe_int (pa_cons pe_int pa_nil))) rfl)
      (pss_cons (ps_expr (pe_meth (pv 1) T.cl_Reader T.mt_Reader_word (ok_Reader_word T) (hr.mono (by decide)) (b_Reader_word T) .nil (L2N.passes_call (L2N.takes_of rfl rfl rfl rfl) (fun _ _ _ _ h => h)) (pa_cons pe_str pa_nil)))
      (pss_cons (ps_fld (pv 0) (pe_meth (pv 1) T.cl_Reader T.mt_Reader_number (ok_Reader_number T) (hr.mono (by decide)) (b_Reader_number T) .nil (L2N.passes_call (L2N.takes_of rfl rfl rfl rfl) (fun _ _ _ _ h => h)) (pa_cons pe_int (pa_cons pe_int pa_nil))) rfl)
      (pss_cons (ps_expr (pe_meth (pv 1) T.cl_Reader T.mt_Reader_word (ok_Reader_word T) (hr.mono (by decide)) (b_Reader_word T) .nil (L2N.passes_call (L2N.takes_of rfl rfl rfl rfl) (fun _ _ _ _ h => h)) (pa_cons pe_str pa_nil)))
      (pss_cons (ps_fld (pv 0) (pe_call (ok_read_rows T) (hr.mono (by decide)) rfl T.g_read_rows T.F_read_rows.kp (b_read_rows T) .nil (L2N.passes_call (L2N.takes_of rfl rfl rfl rfl) (fun _ _ _ _ h => h)) (pa_cons (pv 1) (pa_cons pe_str (pa_cons (pe_fld (pv 0) rfl) (pa_cons (pe_fld (pv 0) rfl) pa_nil))))) rfl)
      (pss_cons (ps_expr (pe_meth (pv 1) T.cl_Reader T.mt_Reader_word (ok_Reader_word T) (hr.mono (by decide)) (b_Reader_word T) .nil (L2N.passes_call (L2N.takes_of rfl rfl rfl rfl) (fun _ _ _ _ h => h)) (pa_cons pe_str pa_nil)))
      (pss_cons (ps_fld (pv 0) (pe_call (ok_read_rows T) (hr.mono (by decide)) rfl T.g_read_rows T.F_read_rows.kp (b_read_rows T) .nil (L2N.passes_call (L2N.takes_of rfl rfl rfl rfl) (fun _ _ _ _ h => h)) (pa_cons (pv 1) (pa_cons pe_str (pa_cons (pe_fld (pv 0) rfl) (pa_cons (pe_fld (pv 0) rfl) pa_nil))))) rfl)
      (pss_cons (ps_expr (pe_meth (pv 1) T.cl_Reader T.mt_Reader_word (ok_Reader_word T) (hr.mono (by decide)) (b_Reader_word T) .nil (L2N.passes_call (L2N.takes_of rfl rfl rfl rfl) (fun _ _ _ _ h => h)) (pa_cons pe_str pa_nil)))
      (pss_cons (ps_expr (pe_meth (pv 1) T.cl_Reader T.mt_Reader_choice (ok_Reader_choice T) (hr.mono (by decide)) (b_Reader_choice T) .nil (L2N.passes_call (L2N.takes_of rfl rfl rfl rfl) (fun _ _ _ _ h => h)) (pa_cons pe_str pa_nil)))
      (pss_cons (ps_expr (pe_meth (pv 1) T.cl_Reader T.mt_Reader_word (ok_Reader_word T) (hr.mono (by decide)) (b_Reader_word T) .nil (L2N.passes_call (L2N.takes_of rfl rfl rfl rfl) (fun _ _ _ _ h => h)) (pa_cons pe_str pa_nil)))
      (pss_cons (ps_fld (pv 0) (pe_meth (pv 1) T.cl_Reader T.mt_Reader_choice (ok_Reader_choice T) (hr.mono (by decide)) (b_Reader_choice T) .nil (L2N.passes_call (L2N.takes_of rfl rfl rfl rfl) (fun _ _ _ _ h => h)) (pa_cons pe_str pa_nil)) rfl)
      (pss_cons (ps_expr (pe_meth (pv 1) T.cl_Reader T.mt_Reader_word (ok_Reader_word T) (hr.mono (by decide)) (b_Reader_word T) .nil (L2N.passes_call (L2N.takes_of rfl rfl rfl rfl) (fun _ _ _ _ h => h)) (pa_cons pe_str pa_nil)))
      (pss_cons (ps_fld (pv 0) (pe_meth (pv 1) T.cl_Reader T.mt_Reader_choice (ok_Reader_choice T) (hr.mono (by decide)) (b_Reader_choice T) .nil (L2N.passes_call (L2N.takes_of rfl rfl rfl rfl) (fun _ _ _ _ h => h)) (pa_cons pe_str pa_nil)) rfl)
      (pss_cons (ps_expr (pe_meth (pv 1) T.cl_Reader T.mt_Reader_word (ok_Reader_word T) (hr.mono (by decide)) (b_Reader_word T) .nil (L2N.passes_call (L2N.takes_of rfl rfl rfl rfl) (fun _ _ _ _ h => h)) (pa_cons pe_str pa_nil)))
      (pss_cons (ps_fld (pv 0) (pe_meth (pv 1) T.cl_Reader T.mt_Reader_choice (ok_Reader_choice T) (hr.mono (by decide)) (b_Reader_choice T) .nil (L2N.passes_call (L2N.takes_of rfl rfl rfl rfl) (fun _ _ _ _ h => h)) (pa_cons pe_str pa_nil)) rfl)
      (pss_cons (ps_expr (pe_meth (pv 1) T.cl_Reader T.mt_Reader_word (ok_Reader_word T) (hr.mono (by decide)) (b_Reader_word T) .nil (L2N.passes_call (L2N.takes_of rfl rfl rfl rfl) (fun _ _ _ _ h => h)) (pa_cons pe_str pa_nil)))
      (pss_cons (ps_fld (pv 0) (pe_meth (pv 1) T.cl_Reader T.mt_Reader_choice (ok_Reader_choice T) (hr.mono (by decide)) (b_Reader_choice T) .nil (L2N.passes_call (L2N.takes_of rfl rfl rfl rfl) (fun _ _ _ _ h => h)) (pa_cons pe_str pa_nil)) rfl)
      (pss_cons (ps_expr (pe_meth (pv 1) T.cl_Reader T.mt_Reader_word (ok_Reader_word T) (hr.mono (by decide)) (b_Reader_word T) .nil (L2N.passes_call (L2N.takes_of rfl rfl rfl rfl) (fun _ _ _ _ h => h)) (pa_cons pe_str pa_nil)))
      (pss_cons (ps_fld (pv 0) (pe_meth (pv 1) T.cl_Reader T.mt_Reader_choice (ok_Reader_choice T) (hr.mono (by decide)) (b_Reader_choice T) .nil (L2N.passes_call (L2N.takes_of rfl rfl rfl rfl) (fun _ _ _ _ h => h)) (pa_cons pe_str pa_nil)) rfl)
      (pss_cons (ps_expr (pe_meth (pv 1) T.cl_Reader T.mt_Reader_word (ok_Reader_word T) (hr.mono (by decide)) (b_Reader_word T) .nil (L2N.passes_call (L2N.takes_of rfl rfl rfl rfl) (fun _ _ _ _ h => h)) (pa_cons pe_str pa_nil)))
      (pss_cons (ps_fld (pv 0) (pe_meth (pv 1) T.cl_Reader T.mt_Reader_choice (ok_Reader_choice T) (hr.mono (by decide)) (b_Reader_choice T) .nil (L2N.passes_call (L2N.takes_of rfl rfl rfl rfl) (fun _ _ _ _ h => h)) (pa_cons pe_str pa_nil)) rfl)
      (pss_cons (ps_expr (pe_meth (pv 1) T.cl_Reader T.mt_Reader_word (ok_Reader_word T) (hr.mono (by decide)) (b_Reader_word T) .nil (L2N.passes_call (L2N.takes_of rfl rfl rfl rfl) (fun _ _ _ _ h => h)) (pa_cons pe_str pa_nil)))
      (pss_cons (ps_fld (pv 0) (pe_fld (pv 1) rfl) rfl)
      (pss_cons (ps_fld (pv 0) (pe_meth (pv 1) T.cl_Reader T.mt_Reader_choice (ok_Reader_choice T) (hr.mono (by decide)) (b_Reader_choice T) .nil (L2N.passes_call (L2N.takes_of rfl rfl rfl rfl) (fun _ _ _ _ h => h)) (pa_cons pe_str pa_nil)) rfl)
      (pss_cons (ps_expr (pe_meth (pv 1) T.cl_Reader T.mt_Reader_word (ok_Reader_word T) (hr.mono (by decide)) (b_Reader_word T) .nil (L2N.passes_call (L2N.takes_of rfl rfl rfl rfl) (fun _ _ _ _ h => h)) (pa_cons pe_str pa_nil)))
      (pss_cons (ps_expr (pe_meth (pv 1) T.cl_Reader T.mt_Reader_choice (ok_Reader_choice T) (hr.mono (by decide)) (b_Reader_choice T) .nil (L2N.passes_call (L2N.takes_of rfl rfl rfl rfl) (fun _ _ _ _ h => h)) (pa_cons pe_str pa_nil)))
      (pss_cons (ps_expr (pe_meth (pv 1) T.cl_Reader T.mt_Reader_word (ok_Reader_word T) (hr.mono (by decide)) (b_Reader_word T) .nil (L2N.passes_call (L2N.takes_of rfl rfl rfl rfl) (fun _ _ _ _ h => h)) (pa_cons pe_str pa_nil)))
      (pss_cons (ps_expr (pe_meth (pv 1) T.cl_Reader T.mt_Reader_number (ok_Reader_number T) (hr.mono (by decide)) (b_Reader_number T) .nil (L2N.passes_call (L2N.takes_of rfl rfl rfl rfl) (fun _ _ _ _ h => h)) (pa_cons pe_int (pa_cons pe_int pa_nil))))
      (pss_cons (ps_expr (pe_meth (pv 1) T.cl_Reader T.mt_Reader_word (ok_Reader_word T) (hr.mono (by decide)) (b_Reader_word T) .nil (L2N.passes_call (L2N.takes_of rfl rfl rfl rfl) (fun _ _ _ _ h => h)) (pa_cons pe_str pa_nil)))
      (pss_cons (ps_fld (pv 0) (pe_fld (pv 1) rfl) rfl)
      (pss_one (ps_expr (pe_meth0 (pv 1) T.cl_Reader T.mt_Reader_finish (ok_Reader_finish T) (hr.mono (by decide)) (b_Reader_finish T) .nil (L2N.passes_call (L2N.takes_of rfl rfl rfl rfl) (fun _ _ _ _ h => h)))))))))))))))))))))))))))))))))))))), ?_⟩)
  · obtain ⟨p, dxp, r, b, t, dx, rfl, _⟩ := h
    rfl
  · obtain ⟨p, dxp, r, b, t, dx, rfl, hp, R, kE, kQ⟩ := h
    have S0 : S6 K (c_RulesText K) H H p dxp r b 0 t dx [] := ⟨hp, R, fun _ _ e _ _ => e, ne_of hp R.ins (by intro z; injection z with z1 z2 z3; cases z3)⟩
    unfold gramK at kE kQ
    refine st_word S0 rfl (w := Tafl.ascii "tafl ") (by decide +kernel) (fun q hq => kE q (by rw [hq]; rfl)) (fun k1 e1 H1 S1 d1 => ?_)
    rw [e1] at kE kQ
    dsimp only [bind, Except.bind] at kE kQ
    refine ⟨_, rfl, r, b, k1, t, dx, rfl, S1.rd, fun q hq => S1.gf (kE q (by rw [map_err hq])), fun v k2 hv H2 R2 s2 => ?_⟩
    obtain ⟨k2', e2, y⟩ := map_ok hv
    cases y
    have S2 := S1.next R2 s2
    rw [e2] at kE kQ
    dsimp only [bind, Except.bind] at kE kQ
    refine st_word S2 rfl (w := [32]) (by decide +kernel) (fun q hq => kE q (by rw [hq])) (fun k3 e3 H3 S3 d3 => ?_)
    rw [e3] at kE kQ
    dsimp only [bind, Except.bind] at kE kQ
    refine st_num S3 rfl rfl T.cl_RulesText T.na_RulesText_wide (by show 0 < 1000; decide) rfl rfl (by decide) (fun q hq => kE q (by rw [hq])) (fun wi k4 e4 H4 S4 d4 => ?_)
    rw [e4] at kE kQ
    dsimp only [bind, Except.bind] at kE kQ
    refine st_word S4 rfl (w := [32]) (by decide +kernel) (fun q hq => kE q (by rw [hq])) (fun k5 e5 H5 S5 d5 => ?_)
    rw [e5] at kE kQ
    dsimp only [bind, Except.bind] at kE kQ
    refine st_num S5 rfl rfl T.cl_RulesText T.na_RulesText_high (by show 1 < 1000; decide) rfl rfl (by decide) (fun q hq => kE q (by rw [hq])) (fun hi k6 e6 H6 S6' d6 => ?_)
    rw [e6] at kE kQ
    dsimp only [bind, Except.bind] at kE kQ
    have bw := (num_in (by decide) e4).2
    have bh := (num_in (by decide) e6).2
    refine st_word S6' rfl (w := Tafl.ascii "\nground\n") (by decide +kernel) (fun q hq => kE q (by rw [hq])) (fun k7 e7 H7 S7 d7 => ?_)
    rw [e7] at kE kQ
    dsimp only [bind, Except.bind] at kE kQ
    refine st_rows S7 kindW T.cl_RulesText T.na_RulesText_ground T.na_RulesText_wide T.na_RulesText_high (by show 2 < 1000; decide) rfl rfl bw bh rfl rfl (fun q hq => kE q (by rw [hq])) (fun g gp k8 e8 H8 pg S8 d8 L8 => ?_)
    rw [e8] at kE kQ
    dsimp only [bind, Except.bind] at kE kQ
    refine st_word S8 rfl (w := Tafl.ascii "start\n") (by decide +kernel) (fun q hq => kE q (by rw [hq])) (fun k9 e9 H9 S9 d9 => ?_)
    have L9 := L8.mono d9
    rw [e9] at kE kQ
    dsimp only [bind, Except.bind] at kE kQ
    refine st_rows S9 pieceW T.cl_RulesText T.na_RulesText_start T.na_RulesText_wide T.na_RulesText_high (by show 3 < 1000; decide) rfl rfl bw bh rfl rfl (fun q hq => kE q (by rw [hq])) (fun sg sp k10 e10 H10 ps S10 d10 M10 => ?_)
    have L10 := L9.mono d10
    rw [e10] at kE kQ
    dsimp only [bind, Except.bind] at kE kQ
    refine st_word S10 rfl (w := Tafl.ascii "first ") (by decide +kernel) (fun q hq => kE q (by rw [hq])) (fun k11 e11 H11 S11 d11 => ?_)
    rw [e11] at kE kQ
    dsimp only [bind, Except.bind] at kE kQ
    refine st_cho0 S11 w_first rfl (fun q hq => kE q (by rw [hq])) (fun c12 k12 e12 H12 S12 d12 => ?_)
    rw [e12] at kE kQ
    dsimp only [bind, Except.bind] at kE kQ
    refine st_word S12 rfl (w := Tafl.ascii "\nking ") (by decide +kernel) (fun q hq => kE q (by rw [hq])) (fun k13 e13 H13 S13 d13 => ?_)
    rw [e13] at kE kQ
    dsimp only [bind, Except.bind] at kE kQ
    refine st_cho S13 w_slides T.cl_RulesText T.na_RulesText_slides (by show 4 < 1000; decide) rfl rfl (fun q hq => kE q (by rw [hq])) (fun c14 k14 e14 H14 S14 d14 => ?_)
    rw [e14] at kE kQ
    dsimp only [bind, Except.bind] at kE kQ
    refine st_word S14 rfl (w := [32]) (by decide +kernel) (fun q hq => kE q (by rw [hq])) (fun k15 e15 H15 S15 d15 => ?_)
    rw [e15] at kE kQ
    dsimp only [bind, Except.bind] at kE kQ
    refine st_cho S15 w_armed T.cl_RulesText T.na_RulesText_armed (by show 5 < 1000; decide) rfl rfl (fun q hq => kE q (by rw [hq])) (fun c16 k16 e16 H16 S16 d16 => ?_)
    rw [e16] at kE kQ
    dsimp only [bind, Except.bind] at kE kQ
    refine st_word S16 rfl (w := [32]) (by decide +kernel) (fun q hq => kE q (by rw [hq])) (fun k17 e17 H17 S17 d17 => ?_)
    rw [e17] at kE kQ
    dsimp only [bind, Except.bind] at kE kQ
    refine st_cho S17 w_four T.cl_RulesText T.na_RulesText_four (by show 6 < 1000; decide) rfl rfl (fun q hq => kE q (by rw [hq])) (fun c18 k18 e18 H18 S18 d18 => ?_)
    rw [e18] at kE kQ
    dsimp only [bind, Except.bind] at kE kQ
    refine st_word S18 rfl (w := Tafl.ascii "\nseat ") (by decide +kernel) (fun q hq => kE q (by rw [hq])) (fun k19 e19 H19 S19 d19 => ?_)
    rw [e19] at kE kQ
    dsimp only [bind, Except.bind] at kE kQ
    refine st_cho S19 w_passed T.cl_RulesText T.na_RulesText_passed (by show 7 < 1000; decide) rfl rfl (fun q hq => kE q (by rw [hq])) (fun c20 k20 e20 H20 S20 d20 => ?_)
    rw [e20] at kE kQ
    dsimp only [bind, Except.bind] at kE kQ
    refine st_word S20 rfl (w := [32]) (by decide +kernel) (fun q hq => kE q (by rw [hq])) (fun k21 e21 H21 S21 d21 => ?_)
    rw [e21] at kE kQ
    dsimp only [bind, Except.bind] at kE kQ
    refine st_cho S21 w_enm T.cl_RulesText T.na_RulesText_seat_enmity (by show 8 < 1000; decide) rfl rfl (fun q hq => kE q (by rw [hq])) (fun c22 k22 e22 H22 S22 d22 => ?_)
    rw [e22] at kE kQ
    dsimp only [bind, Except.bind] at kE kQ
    refine st_word S22 rfl (w := Tafl.ascii "\nexits ") (by decide +kernel) (fun q hq => kE q (by rw [hq])) (fun k23 e23 H23 S23 d23 => ?_)
    rw [e23] at kE kQ
    dsimp only [bind, Except.bind] at kE kQ
    refine st_cho S23 w_enm T.cl_RulesText T.na_RulesText_exits_enmity (by show 9 < 1000; decide) rfl rfl (fun q hq => kE q (by rw [hq])) (fun c24 k24 e24 H24 S24 d24 => ?_)
    rw [e24] at kE kQ
    dsimp only [bind, Except.bind] at kE kQ
    refine st_word S24 rfl (w := Tafl.ascii "\ngoal ") (by decide +kernel) (fun q hq => kE q (by rw [hq])) (fun k25 e25 H25 S25 d25 => ?_)
    rw [e25] at kE kQ
    dsimp only [bind, Except.bind] at kE kQ
    refine st_place T S25 T.cl_RulesText T.na_RulesText_goal_place (by show 10 < 1000; decide) rfl rfl (fun H25b S25b d25b => ?_)
    refine st_cho S25b w_goal T.cl_RulesText T.na_RulesText_goal (by show 11 < 1000; decide) rfl rfl (fun q hq => kE q (by rw [hq])) (fun c26 k26 e26 H26 S26 d26 => ?_)
    rw [e26] at kE kQ
    dsimp only [bind, Except.bind] at kE kQ
    refine st_word S26 rfl (w := Tafl.ascii "\nthrice ") (by decide +kernel) (fun q hq => kE q (by rw [hq])) (fun k27 e27 H27 S27 d27 => ?_)
    rw [e27] at kE kQ
    dsimp only [bind, Except.bind] at kE kQ
    refine st_cho0 S27 w_thrice rfl (fun q hq => kE q (by rw [hq])) (fun c28 k28 e28 H28 S28 d28 => ?_)
    rw [e28] at kE kQ
    dsimp only [bind, Except.bind] at kE kQ
    refine st_word S28 rfl (w := Tafl.ascii "\nlimit ") (by decide +kernel) (fun q hq => kE q (by rw [hq])) (fun k29 e29 H29 S29 d29 => ?_)
    rw [e29] at kE kQ
    dsimp only [bind, Except.bind] at kE kQ
    refine st_num0 S29 rfl rfl rfl (by decide) (fun q hq => kE q (by rw [hq])) (fun c30 k30 e30 H30 S30 d30 => ?_)
    rw [e30] at kE kQ
    dsimp only [bind, Except.bind] at kE kQ
    refine st_word S30 rfl (w := [Tafl.LF]) (by decide +kernel) (fun q hq => kE q (by rw [hq])) (fun k31 e31 H31 S31 d31 => ?_)
    rw [e31] at kE kQ
    dsimp only [bind, Except.bind] at kE kQ
    refine st_place T S31 T.cl_RulesText T.na_RulesText_length (by show 12 < 1000; decide) rfl rfl (fun H32 S32 d32 => ?_)
    -- the end
    have hk : 1 ≤ k31 ∧ k31 ≤ b.length := by
      rw [litK_cons] at e31
      split at e31
      · rename_i hc
        have y : k30 + 1 = k31 := by
          have z : (Except.ok (k30 + 1) : Except Nat Nat) = .ok k31 := e31
          injection z
        obtain ⟨z, _⟩ := List.getElem?_eq_some_iff.mp hc
        omega
      · cases e31
    refine ⟨_, rfl, r, dx, _, rfl, S32.rd.ins, rfl, r, b, k31, t, dx, rfl, S32.rd, fun q hq => ?_, fun v j hv H33 R33 s33 => ?_⟩
    · unfold finK at hq
      split at hq
      · cases hq
      · rename_i hc
        have y : k31 = q := by injection hq
        subst y
        have nd : ¬ b.drop k31 = [] := fun z => hc (List.getElem?_eq_none (List.drop_eq_nil_iff.mp z))
        exact S32.gf (kE k31 (by rw [if_neg nd]))
    · unfold finK at hv
      split at hv
      · rename_i hc
        have nd : b.drop k31 = [] := List.drop_eq_nil_iff.mpr (List.getElem?_eq_none_iff.mp hc)
        have el : k31 = b.length := by
          have := List.drop_eq_nil_iff.mp nd
          omega
        have S33 := S32.next R33 s33
        have dl : DSame H10 H33 := ((((((((((((((((((((((d11.trans d12).trans d13).trans d14).trans d15).trans d16).trans d17).trans d18).trans d19).trans d20).trans d21).trans d22).trans d23).trans d24).trans d25).trans d25b).trans d26).trans d27).trans d28).trans d29).trans d30).trans d31).trans d32).trans (DSame.but S32.rd.ins s33)
        have q := kQ _ (by rw [if_pos nd]) ⟨(num_in (by decide) e4).1, bw, (num_in (by decide) e6).1, bh, (rows_len e8).1, (rows_len e8).2.2, (rows_len e8).2.1, (rows_len e10).1, (rows_len e10).2.2, (rows_len e10).2.1, word_lt e22, word_lt e24, word_lt e26⟩ H33 pg ps ⟨?_, L10.mono dl, M10.mono dl⟩ S33.but
        · exact q
        · rw [S33.ins]
          unfold rtF
          dsimp only
          rw [← b2n_of (word_lt e14), ← b2n_of (word_lt e16), ← b2n_of (word_lt e18), ← b2n_of (word_lt e20), ← el]
          rfl
      · cases hv
end
end Tf
set_option Elab.async false
set_option linter.all false
set_option maxRecDepth 100000
set_option maxHeartbeats 4000000
/-! A text's faults: the small defs. -/
namespace Tf
open PySem PySem.Spec PyProof.Rows L2 TfX TfM
section
variable {P : Program} {w : World} {K : PySem.W.Frag} {mg : Str → Option Value} {base : Heap}
theorem rowT_eq {α : Type} (ix : α → Nat) (y : Nat) (d : α) : ∀ (row : List α) (x p : Nat), rowT ix y x p row = (List.range row.length).map fun i => t3 (13 * y + (x + i), ix (row.getD i d), p + i)
  | [], x, p => rfl
  | a :: r, x, p => by
    rw [List.length_cons, List.range_succ_eq_map, List.map_cons, List.map_map]
    show [((13 * y + x : Nat) : Int), (ix a : Int), (p : Int)] :: rowT ix y (x + 1) (p + 1) r = _
    rw [rowT_eq ix y d r (x + 1) (p + 1)]
    congr 1
    refine List.map_congr_left fun i hi => ?_
    show t3 (13 * y + (x + 1 + i), ix (r.getD i d), p + 1 + i) = t3 (13 * y + (x + (i + 1)), ix ((a :: r).getD (i + 1) d), p + (i + 1))
    have e1 : x + 1 + i = x + (i + 1) := by omega
    have e2 : p + 1 + i = p + (i + 1) := by omega
    rw [e1, e2]
    rfl
theorem rowsT_eq {α : Type} (ix : α → Nat) : ∀ (g : List (List α)) (gp : List Nat), gp.length = g.length → rowsT ix g gp = (List.range g.length).flatMap fun i => rowT ix (g.length - 1 - i) 0 (gp.getD i 0) (g.getD i [])
  | [], [], _ => rfl
  | [], _ :: _, h => by cases h
  | _ :: _, [], h => by cases h
  | r :: l, p :: ps, h => by
    have h' : ps.length = l.length := by
      rw [List.length_cons, List.length_cons] at h
      omega
    show rowT ix l.length 0 p r ++ rowsT ix l ps = _
    rw [rowsT_eq ix l ps h', List.length_cons, List.range_succ_eq_map, List.flatMap_cons, List.flatMap_map]
    congr 1
    rw [List.flatMap_def, List.flatMap_def]
    congr 1
    refine List.map_congr_left fun i hi => ?_
    have hi' := List.mem_range.mp hi
    have e : l.length - 1 - i = l.length + 1 - 1 - (i + 1) := by omega
    show rowT ix (l.length - 1 - i) 0 (ps.getD i 0) (l.getD i []) = rowT ix (l.length + 1 - 1 - (i + 1)) 0 ((p :: ps).getD (i + 1) 0) ((r :: l).getD (i + 1) [])
    rw [e]
    rfl
theorem getD_mem_of {α : Type} {l : List α} {i : Nat} {d : α} (h : i < l.length) : l.getD i d ∈ l := by
  rw [getD_lt h]
  exact List.getElem_mem h
theorem ground_rows {ru : Tafl.Rules} (S : Shaped ru) : rowsT kIx ru.ground ru.groundAt = (TfM.Rules.gT kIx ru).map t3 := by
  rw [rowsT_eq kIx _ _ (by rw [S.gp, S.gl])]
  unfold TfM.Rules.gT Tafl.Rules.asWritten
  rw [List.map_map, List.map_flatMap, S.gl, List.flatMap_def, List.flatMap_def]
  congr 1
  refine List.map_congr_left fun i hi => ?_
  have hi' := List.mem_range.mp hi
  rw [rowT_eq kIx _ Tafl.Kind.wall, S.gr _ (getD_mem_of (by rw [S.gl]; exact hi')), List.map_map]
  refine List.map_congr_left fun x hx => ?_
  have e : ru.high - 1 - (ru.high - 1 - i) = i := by omega
  show t3 (13 * (ru.high - 1 - i) + (0 + x), kIx ((ru.ground.getD i []).getD x .wall), ru.groundAt.getD i 0 + x) = t3 (13 * (ru.high - 1 - i) + x, kIx ((ru.ground.getD (ru.high - 1 - (ru.high - 1 - i)) []).getD x .wall), ru.groundAt.getD (ru.high - 1 - (ru.high - 1 - i)) 0 + x)
  rw [e, Nat.zero_add]
theorem start_rows {ru : Tafl.Rules} (S : Shaped ru) : rowsT pIx ru.start ru.startAt = (TfM.Rules.sT pIx ru).map t3 := by
  rw [rowsT_eq pIx _ _ (by rw [S.sp, S.sl])]
  unfold TfM.Rules.sT Tafl.Rules.asWritten
  rw [List.map_map, List.map_flatMap, S.sl, List.flatMap_def, List.flatMap_def]
  congr 1
  refine List.map_congr_left fun i hi => ?_
  have hi' := List.mem_range.mp hi
  rw [rowT_eq pIx _ Tafl.Piece.none, S.sr _ (getD_mem_of (by rw [S.sl]; exact hi')), List.map_map]
  refine List.map_congr_left fun x hx => ?_
  have e : ru.high - 1 - (ru.high - 1 - i) = i := by omega
  show t3 (13 * (ru.high - 1 - i) + (0 + x), pIx ((ru.start.getD i []).getD x .none), ru.startAt.getD i 0 + x) = t3 (13 * (ru.high - 1 - i) + x, pIx ((ru.start.getD (ru.high - 1 - (ru.high - 1 - i)) []).getD x .none), ru.startAt.getD (ru.high - 1 - (ru.high - 1 - i)) 0 + x)
  rw [e, Nat.zero_add]
/-- the i-th of a list of triples -/
theorem t3_at {H : Hp} {vs : List V} {ts : List (Nat × Nat × Nat)} {i : Nat} {v : V} (h : Tups H vs (ts.map t3)) (e : vs[i]? = some v) : ∃ q a, ts[i]? = some q ∧ v = .ref a ∧ H a = some (.tup [.int q.1, .int q.2.1, .int q.2.2]) := by
  obtain ⟨x, h1, a, h2, h3⟩ := Tups.at h e
  rw [List.getElem?_map] at h1
  cases hq : ts[i]? with
  | none =>
    rw [hq] at h1
    cases h1
  | some q =>
    rw [hq] at h1
    cases h1
    exact ⟨q, a, rfl, h2, h3⟩
theorem take_fm {α β : Type} {p : α → Bool} {f : α → β} {l : List α} {i : Nat} {x : α} (h : l[i]? = some x) : ((l.take (i + 1)).filter p).map f = ((l.take i).filter p).map f ++ (if p x = true then [f x] else []) := by
  rw [take_filter h, List.map_append]
  congr 1
  split <;> rfl
def spCellsWith (K : PySem.W.Frag) : Sp := fun vs H Q _ => ∃ (pl : Addr) (ts : List (Nat × Nat × Nat)) (wa : Nat), vs = [.ref pl, .int wa] ∧ LT H pl (ts.map t3) ∧ ts.length ≤ 1000 ∧
  ∀ D, H D = none → Q (.ref D) (L2.upd H D (.lst ((ts.filter fun q => q.2.1 == wa).map fun q => V.int q.1)))
theorem nat_dec {a b : Nat} : decide (V.int (a : Int) = V.int (b : Int)) = (a == b) := by
  rw [dec_int, Bool.eq_iff_iff]
  simp only [decide_eq_true_eq, beq_iff_eq]
  omega
theorem line1000 {n : Nat} (h : n ≤ 1000) : n < sizeLine := Nat.lt_of_le_of_lt h (by decide)
theorem ok_cells_with (T : Txt K mg) : FnOk P w K mg base CX0 1 (a_cells_with K) T.fd_cells_with p_cells_with (spCellsWith K) := by
  refine T.F_cells_with.ok sc_cells_with (fun vs H Q E h => ?_) (fun cdv A outer s H vs Q E hr h => ⟨_, PSs.nox (pss_one (ps_ret (pe_lc (own := [("cell", 2), ("what", 3), ("place", 4)]) (g := (gTup K 3 (gCons (gName 2) (gCons (gName 3) (gCons (gName 4) gNil))))) rfl sc_cells_with.nd (pi_list (pv 0)) (blkOk_by (own := [("cell", 2), ("what", 3), ("place", 4)]) (N := n_cells_with) (sc := defScope s_cells_with) (by decide +kernel)) (fun _ _ _ _ _ => (pg_tup rfl (pgs_cons (pg_name (i := 2) sc_cells_with.nd rfl (Or.inl rfl)) (pgs_cons (pg_name (i := 3) sc_cells_with.nd rfl (Or.inl rfl)) (pgs_cons (pg_name (i := 4) sc_cells_with.nd rfl (Or.inl rfl)) pgs_nil))))) (fun _ _ _ _ _ => (pts_one (pt_cmpR op_eq (pv 3) (pv 1) (nomark _)))) (fun _ _ _ _ _ => (pv 2))))), ?_⟩)
  · obtain ⟨pl, ts, wa, rfl, _⟩ := h
    rfl
  · obtain ⟨pl, ts, wa, rfl, ⟨vs, hl, TT⟩, hlen, q⟩ := h
    refine ⟨_, rfl, pl, rfl, ⟨_, SqL.of hl⟩, fun D nD => ?_⟩
    have sD : ∀ o, Same H (L2.upd H D o) := fun o => Same.upd nD
    have hvl : vs.length = ts.length := by rw [TT.len, List.length_map]
    refine lc_list (K := K) (a := pl) (xs := vs) (fun i H2 => H2 = L2.upd H D (.lst (((ts.take i).filter fun q => q.2.1 == wa).map fun q => V.int q.1))) rfl (fun i H2 _ e => by rw [e]; exact SqL.of (sD _ _ _ hl)) ?_ ?_
    · rintro i x H2 hx rfl
      obtain ⟨t, a, ht, rfl, ha⟩ := t3_at TT hx
      refine ⟨a, _, rfl, SqT.of (sD _ _ _ ha), rfl, _, _, rfl, _, _, rfl, _, _, rfl, rfl, rfl, ?_⟩
      refine ⟨_, rfl, _, rfl, rfl, _, rfl, ?_⟩
      rw [nat_dec]
      have tf := take_fm (p := fun q : Nat × Nat × Nat => q.2.1 == wa) (f := fun q => V.int q.1) ht
      refine ifB (fun h2 => ?_) fun h2 => ?_
      · rw [if_pos h2] at tf
        refine ⟨_, rfl, _, upd_same, ?_, ?_⟩
        · rw [List.length_map]
          have y1 := List.length_filter_le (fun q : Nat × Nat × Nat => q.2.1 == wa) (ts.take i)
          have y2 : (ts.take i).length ≤ ts.length := by rw [List.length_take]; omega
          exact line1000 (by omega)
        · rw [upd_upd, tf]
      · rw [h2, if_neg Bool.false_ne_true, List.append_nil] at tf
        rw [tf]
    · rintro H2 rfl
      rw [hvl, List.take_length]
      exact q D nD
def spSecond (K : PySem.W.Frag) : Sp := fun vs H Q _ => ∃ (pl : Addr) (ts : List (Nat × Nat × Nat)) (wa kd : Nat), vs = [.ref pl, .int wa, .int kd] ∧ LT H pl (ts.map t3) ∧ ts.length ≤ 1000 ∧
  ∀ H' D, Same H H' → H D = none → LT H' D ((((ts.filter fun q => q.2.1 == wa).map fun q => q.2.2).drop 1).map fun p => [((p : Nat) : Int), (kd : Int)]) → Q (.ref D) H'
theorem ok_second_faults (T : Txt K mg) : FnOk P w K mg base CX0 1 (a_second_faults K) T.fd_second_faults p_second_faults (spSecond K) := by
  refine T.F_second_faults.ok sc_second_faults (fun vs H Q E h => ?_) (fun cdv A outer s H vs Q E hr h => ⟨_, PSs.nox (pss_cons (ps_setLc (i := 3) (own := [("cell", 4), ("what", 5), ("place", 6)]) (g := (gTup K 3 (gCons (gName 4) (gCons (gName 5) (gCons (gName 6) gNil))))) rfl sc_second_faults.nd rfl rfl (sw_true rfl rfl rfl (by decide +kernel)) (pi_list (pv 0)) (blkOk_by (own := [("cell", 4), ("what", 5), ("place", 6)]) (N := n_second_faults) (sc := defScope s_second_faults) (by decide +kernel)) (fun _ _ _ _ _ => (pg_tup rfl (pgs_cons (pg_name (i := 4) sc_second_faults.nd rfl (Or.inl rfl)) (pgs_cons (pg_name (i := 5) sc_second_faults.nd rfl (Or.inl rfl)) (pgs_cons (pg_name (i := 6) sc_second_faults.nd rfl (Or.inl rfl)) pgs_nil))))) (fun _ _ _ _ _ => (pts_one (pt_cmpR op_eq (pv 5) (pv 1) (nomark _)))) (fun _ _ _ _ _ => (pv 6)))
      (pss_one (ps_ret (pe_lc (own := [("place", 6)]) (g := (gName 6)) rfl sc_second_faults.nd (pi_list (pe_slice sl_list (pv 3) (po_some pe_int) po_none)) (blkOk_by (own := [("place", 6)]) (N := n_second_faults) (sc := defScope s_second_faults) (by decide +kernel)) (fun _ _ _ _ _ => (pg_name (i := 6) sc_second_faults.nd rfl (Or.inl rfl))) (fun _ _ _ _ _ => pts_nil) (fun _ _ _ _ _ => (pe_tup (pa_cons (pv 6) (pa_cons (pv 2) pa_nil)))))))), ?_⟩)
  · obtain ⟨pl, ts, wa, kd, rfl, _⟩ := h
    rfl
  · obtain ⟨pl, ts, wa, kd, rfl, ⟨vs, hl, TT⟩, hlen, q⟩ := h
    refine ⟨_, rfl, pl, rfl, ⟨_, SqL.of hl⟩, fun D nD => ?_⟩
    have sD : ∀ o, Same H (L2.upd H D o) := fun o => Same.upd nD
    have hvl : vs.length = ts.length := by rw [TT.len, List.length_map]
    refine lc_list (K := K) (a := pl) (xs := vs) (fun i H2 => H2 = L2.upd H D (.lst (((ts.take i).filter fun q => q.2.1 == wa).map fun q => V.int q.2.2))) rfl (fun i H2 _ e => by rw [e]; exact SqL.of (sD _ _ _ hl)) ?_ ?_
    · rintro i x H2 hx rfl
      obtain ⟨t, a, ht, rfl, ha⟩ := t3_at TT hx
      refine ⟨a, _, rfl, SqT.of (sD _ _ _ ha), rfl, _, _, rfl, _, _, rfl, _, _, rfl, rfl, rfl, ?_⟩
      refine ⟨_, rfl, _, rfl, rfl, _, rfl, ?_⟩
      rw [nat_dec]
      have tf := take_fm (p := fun q : Nat × Nat × Nat => q.2.1 == wa) (f := fun q => V.int q.2.2) ht
      refine ifB (fun h2 => ?_) fun h2 => ?_
      · rw [if_pos h2] at tf
        refine ⟨_, rfl, _, upd_same, ?_, ?_⟩
        · rw [List.length_map]
          have y1 := List.length_filter_le (fun q : Nat × Nat × Nat => q.2.1 == wa) (ts.take i)
          have y2 : (ts.take i).length ≤ ts.length := by rw [List.length_take]; omega
          exact line1000 (by omega)
        · rw [upd_upd, tf]
      · rw [h2, if_neg Bool.false_ne_true, List.append_nil] at tf
        rw [tf]
    · rintro H2 rfl
      rw [hvl, List.take_length]
      generalize hps : (ts.filter fun q => q.2.1 == wa).map (fun q => q.2.2) = pls at q
      have epl : (ts.filter fun q => q.2.1 == wa).map (fun q => V.int q.2.2) = pls.map fun p => V.int ((p : Nat) : Int) := by
        rw [← hps, List.map_map]
        rfl
      have hpl : pls.length ≤ 1000 := by
        rw [← hps, List.length_map]
        exact Nat.le_trans (List.length_filter_le _ _) hlen
      rw [epl]
      generalize hH1 : L2.upd H D (.lst (pls.map fun p => V.int ((p : Nat) : Int))) = H1
      have hD1 : H1 D = some (.lst (pls.map fun p => V.int ((p : Nat) : Int))) := by
        rw [← hH1]
        exact upd_same
      have s1 : Same H H1 := by
        rw [← hH1]
        exact sD _
      -- places[1:]
      have cut : cutV (pls.map fun p => V.int ((p : Nat) : Int)) (some 1) none = (pls.drop 1).map fun p => V.int ((p : Nat) : Int) := by
        unfold cutV
        rw [← List.map_drop]
        have e1 : HT.sIx (pls.map fun p => V.int ((p : Nat) : Int)).length (pls.map fun p => V.int ((p : Nat) : Int)).length none = pls.length := by
          rw [List.length_map]
          rfl
        rw [e1]
        have e2 : HT.sIx (pls.map fun p => V.int ((p : Nat) : Int)).length 0 (some 1) = min 1 pls.length := by
          rw [List.length_map]
          unfold HT.sIx
          first
          | rfl
          | (simp; omega)
        rw [e2]
        cases pls with
        | nil => rfl
        | cons a r =>
          have e3 : min 1 (a :: r).length = 1 := by rw [List.length_cons]; omega
          rw [e3]
          rw [List.take_of_length_le]
          rw [List.length_map, List.length_drop, List.length_cons]
          exact Nat.le_refl _
      refine ⟨_, rfl, 1, rfl, D, _, rfl, SqL.of hD1, fun D2 nD2 => ?_⟩
      rw [cut]
      generalize hH2 : L2.upd H1 D2 (.lst ((pls.drop 1).map fun p => V.int ((p : Nat) : Int))) = H2
      have hD2 : H2 D2 = some (.lst ((pls.drop 1).map fun p => V.int ((p : Nat) : Int))) := by
        rw [← hH2]
        exact upd_same
      have s2 : Same H H2 := by
        rw [← hH2]
        exact s1.trans (Same.upd nD2)
      refine ⟨D2, rfl, ⟨_, SqL.of hD2⟩, fun D3 nD3 => ?_⟩
      have l1 : ((pls.drop 1).map fun p => V.int ((p : Nat) : Int)).length = (pls.drop 1).length := List.length_map ..
      refine lc_list (K := K) (a := D2) (xs := (pls.drop 1).map fun p => V.int ((p : Nat) : Int)) (fun i H3 => Same H2 H3 ∧ ∃ us, H3 D3 = some (.lst us) ∧ Tups H3 us (((pls.drop 1).take i).map fun p => [((p : Nat) : Int), (kd : Int)])) ⟨Same.upd nD3, [], upd_same, .nil⟩ (fun i H3 _ e => SqL.of (e.1 _ _ hD2)) ?_ ?_
      · rintro i x H3 hx ⟨s3, us, hus, TU⟩
        rw [List.getElem?_map] at hx
        cases hp : (pls.drop 1)[i]? with
        | none =>
          rw [hp] at hx
          cases hx
        | some p =>
          rw [hp] at hx
          cases hx
          have hul : us.length ≤ 1000 := by
            rw [TU.len, List.length_map, List.length_take, List.length_drop]
            omega
          refine ⟨rfl, _, rfl, _, rfl, (by show 2 ≤ sizeLine; decide), fun tp ntp => ⟨us, ?_, line1000 hul, ?_⟩⟩
          · rw [upd_ne (ne_of_none hus ntp)]
            exact hus
          · refine ⟨fun a o ho => ?_, us ++ [.ref tp], upd_same, ?_⟩
            · rw [upd_ne (ne_of_none ho nD3), upd_ne (ne_of_none (s3 _ _ ho) ntp)]
              exact s3 _ _ ho
            · rw [List.take_add_one, hp, List.map_append]
              have ts1 : TSame H3 (L2.upd (L2.upd H3 tp (.tup [V.int (p : Int), V.int (kd : Int)])) D3 (.lst (us ++ [.ref tp]))) :=
                (TSame.of (Same.upd ntp)).trans (TSame.lst (xs := us) (by rw [upd_ne (ne_of_none hus ntp)]; exact hus))
              refine Tups.app (Tups.mono ts1 TU) (Tups.one ⟨tp, rfl, ?_⟩)
              rw [upd_ne (Ne.symm (ne_of_none hus ntp)), upd_same]
              rfl
      · rintro H3 ⟨s3, us, hus, TU⟩
        rw [l1, List.take_length] at TU
        refine q H3 D3 (s2.trans s3) (s2.free nD3) ⟨us, hus, TU⟩
end
end Tf
set_option Elab.async false
set_option linter.all false
set_option maxRecDepth 100000
set_option maxHeartbeats 4000000
/-! A text's faults: the whole. -/
namespace Tf
open PySem PySem.Spec PyProof.Rows L2 TfX TfM
section
variable {P : Program} {w : World} {K : PySem.W.Frag} {mg : Str → Option Value} {base : Heap}
/-- what lies on each of 169 cells -/
def onG (ru : Tafl.Rules) (c : Nat) : Bool := decide (c % 13 < ru.wide) && decide (c / 13 < ru.high)
def glist (ru : Tafl.Rules) : List Nat := (List.range 169).map fun c => if onG ru c = true then kIx (ru.kind (c % 13) (c / 13)) else 0
def iv (l : List Nat) : List V := l.map fun n => V.int ((n : Nat) : Int)
theorem iv_len (l : List Nat) : (iv l).length = l.length := List.length_map ..
theorem iv_at {l : List Nat} {i n : Nat} (h : l[i]? = some n) : (iv l)[i]? = some (.int n) := by
  unfold iv
  rw [List.getElem?_map, h]
  rfl
theorem glist_len (ru : Tafl.Rules) : (glist ru).length = 169 := by
  unfold glist
  rw [List.length_map, List.length_range]
theorem glist_at {ru : Tafl.Rules} {c : Nat} (h : c < 169) : (glist ru)[c]? = some (if onG ru c = true then kIx (ru.kind (c % 13) (c / 13)) else 0) := by
  unfold glist
  rw [List.getElem?_map, List.getElem?_range h]
  rfl
theorem cell_mod {x y : Nat} (h : x < 13) : Tafl.cellOf x y % 13 = x ∧ Tafl.cellOf x y / 13 = y := by
  unfold Tafl.cellOf Tafl.STRIDE
  omega
theorem cell_lt {x y : Nat} (h : x < 13) (h2 : y < 13) : Tafl.cellOf x y < 169 := by
  unfold Tafl.cellOf Tafl.STRIDE
  omega
theorem glist_fold {ru : Tafl.Rules} (S : Shaped ru) : (TfM.Rules.gT kIx ru).foldl (fun g q => g.set q.1 q.2.1) (List.replicate 169 0) = glist ru := by
  refine List.ext_getElem? fun c => ?_
  by_cases hc : c < 169
  · rw [glist_at hc]
    by_cases ho : onG ru c = true
    · rw [if_pos ho]
      have ho' := ho
      unfold onG at ho'
      simp only [Bool.and_eq_true, decide_eq_true_eq] at ho'
      rw [fold_set (f := fun q : Nat × Nat × Nat => q.1) (v := fun q => q.2.1) (x := kIx (ru.kind (c % 13) (c / 13))) _ _ (by rw [List.length_replicate]; exact hc), if_pos]
      · refine ⟨_, List.mem_map.mpr ⟨(c % 13, c / 13), mem_written.mpr ho', rfl⟩, ?_⟩
        show Tafl.cellOf (c % 13) (c / 13) = c
        unfold Tafl.cellOf Tafl.STRIDE
        omega
      · rintro q hq e
        obtain ⟨p, hp, rfl⟩ := List.mem_map.mp hq
        have hp' := mem_written.mp hp
        obtain ⟨m1, m2⟩ := cell_mod (x := p.1) (y := p.2) (by have := S.w13; omega)
        have e' : Tafl.cellOf p.1 p.2 = c := e
        rw [e'] at m1 m2
        show kIx (ru.kind p.1 p.2) = _
        rw [m1, m2]
    · rw [if_neg ho]
      rw [fold_set (f := fun q : Nat × Nat × Nat => q.1) (v := fun q => q.2.1) (x := 0) _ _ (by rw [List.length_replicate]; exact hc), if_neg]
      · rw [List.getElem?_replicate, if_pos hc]
      · rintro ⟨q, hq, e⟩
        obtain ⟨p, hp, rfl⟩ := List.mem_map.mp hq
        have hp' := mem_written.mp hp
        obtain ⟨m1, m2⟩ := cell_mod (x := p.1) (y := p.2) (by have := S.w13; omega)
        have e' : Tafl.cellOf p.1 p.2 = c := e
        rw [e'] at m1 m2
        apply ho
        unfold onG
        rw [m1, m2, decide_eq_true hp'.1, decide_eq_true hp'.2]
        rfl
      · rintro q hq e
        exfalso
        obtain ⟨p, hp, rfl⟩ := List.mem_map.mp hq
        have hp' := mem_written.mp hp
        obtain ⟨m1, m2⟩ := cell_mod (x := p.1) (y := p.2) (by have := S.w13; omega)
        have e' : Tafl.cellOf p.1 p.2 = c := e
        rw [e'] at m1 m2
        apply ho
        unfold onG
        rw [m1, m2, decide_eq_true hp'.1, decide_eq_true hp'.2]
        rfl
  · rw [List.getElem?_eq_none (by rw [fold_len, List.length_replicate]; omega), List.getElem?_eq_none (by rw [glist_len]; omega)]
theorem sum_same (c : Nat) : ∀ l : List Nat, (l.map fun _ => c).sum = l.length * c
  | [] => by simp
  | a :: l => by
    rw [List.map_cons, List.sum_cons, sum_same c l, List.length_cons, Nat.succ_mul]
    omega
theorem gT_len {ru : Tafl.Rules} (S : Shaped ru) : (TfM.Rules.gT kIx ru).length ≤ 169 ∧ ru.asWritten.length ≤ 169 := by
  have e : ru.asWritten.length = ru.high * ru.wide := by
    unfold Tafl.Rules.asWritten
    rw [List.length_flatMap]
    simp only [List.length_map, List.length_range]
    rw [sum_same, List.length_range]
  have e2 : ru.high * ru.wide ≤ 13 * 13 := Nat.mul_le_mul S.h13 S.w13
  unfold TfM.Rules.gT
  rw [List.length_map, e]
  exact ⟨e2, e2⟩
theorem TextAt.same {H H' : Hp} {p dxp : Addr} {ru : Tafl.Rules} {len : Nat} {pg ps : Addr} (X : TextAt K H p dxp ru len pg ps) (s : Same H H') : TextAt K H' p dxp ru len pg ps := ⟨s _ _ X.ins, X.g.mono (DSame.of s), X.s.mono (DSame.of s)⟩
theorem iv_set (l : List Nat) (i n : Nat) : (iv l).set i (.int n) = iv (l.set i n) := by
  unfold iv
  rw [List.map_set]
def spGroundList (K : PySem.W.Frag) : Sp := fun vs H Q _ => ∃ (p dxp : Addr) (ru : Tafl.Rules) (len : Nat) (pg ps : Addr), vs = [.ref p] ∧ TextAt K H p dxp ru len pg ps ∧ Shaped ru ∧ ∀ H' D, Same H H' → H D = none → H' D = some (.lst (iv (glist ru))) → Q (.ref D) H'
theorem ok_ground_list (T : Txt K mg) : FnOk P w K mg base CX0 1 (a_ground_list K) T.fd_ground_list p_ground_list (spGroundList K) := by
  refine T.F_ground_list.ok sc_ground_list (fun vs H Q E h => ?_) (fun cdv A outer s H vs Q E hr h => ⟨_, PSs.nox (pss_cons (ps_set (i := 1) sc_ground_list.nd rfl (Or.inl rfl) (pe_op op_rep (pe_lst (pa_cons (pe_glob (v := .int 0) rfl T.c_PLAIN ⟨_, rfl⟩) pa_nil)) (pe_glob (v := .int 169) rfl T.c_CELLS ⟨_, rfl⟩)))
      (pss_cons (ps_for PassesOwn.never rfl (pi_list (pe_fld (pv 0) rfl)) (pg_tup rfl (pgs_cons (pg_name (i := 2) sc_ground_list.nd rfl (Or.inl rfl)) (pgs_cons (pg_name (i := 3) sc_ground_list.nd rfl (Or.inl rfl)) (pgs_cons (pg_name (i := 4) sc_ground_list.nd rfl (Or.inl rfl)) pgs_nil)))) (pss_one (ps_asg (pv 3) (pg_sub (pv 1) (pv 2) set_list))))
      (pss_one (ps_ret (pv 1))))), ?_⟩)
  · obtain ⟨p, dxp, ru, len, pg, ps, rfl, _⟩ := h
    rfl
  · obtain ⟨p, dxp, ru, len, pg, ps, rfl, X, S, q⟩ := h
    refine ⟨(by show 1 ≤ sizeLine; decide), fun p1 n1 => ?_⟩
    have y1 : (169 : Int).toNat = 169 := rfl
    refine ⟨p1, 169, _, rfl, rfl, upd_same, by decide, by decide, by decide, fun D nD => ?_⟩
    generalize hH1 : L2.upd (L2.upd H p1 (.lst [V.int 0])) D _ = H1
    have s1 : Same H H1 := by
      rw [← hH1]
      exact (Same.upd n1).trans (Same.upd nD)
    have hD : H1 D = some (.lst (iv (List.replicate 169 0))) := by
      rw [← hH1, upd_same]
      congr 2
    have nDH : H D = none := Same.free (Same.upd n1) nD
    have X1 := X.same s1
    obtain ⟨vg, hg, TG⟩ := X1.g.ex
    rw [ground_rows S] at TG
    have hvl : vg.length = (TfM.Rules.gT kIx ru).length := by rw [TG.len, List.length_map]
    refine ⟨_, rfl, p, _, dxp, _, _, rfl, X1.ins, T.cl_RulesText, T.na_RulesText_ground, rfl, pg, rfl, ⟨_, SqL.of hg⟩, ?_⟩
    have nDg : pg ≠ D := fun e => by
      obtain ⟨v0, h0, _⟩ := X.g.ex
      rw [e, nDH] at h0
      cases h0
    refine for_list (K := K) (a := pg) (xs := vg) (fun i σ H2 => ∃ a1 a2 a3 : Option V, σ = [some (.ref p), some (.ref D), a1, a2, a3] ∧ H2 = L2.upd H1 D (.lst (iv (((TfM.Rules.gT kIx ru).take i).foldl (fun g q => g.set q.1 q.2.1) (List.replicate 169 0))))) ⟨none, none, none, rfl, ?_⟩ ?_ ?_ ?_
    · funext c
      by_cases hc : c = D
      · rw [hc, upd_same, hD]
        rfl
      · rw [upd_ne hc]
    · rintro i σ H2 _ ⟨a1, a2, a3, rfl, rfl⟩
      exact SqL.of (by rw [upd_ne nDg]; exact hg)
    · rintro i x σ H2 hx ⟨a1, a2, a3, rfl, rfl⟩
      obtain ⟨t, a, ht, rfl, ha⟩ := t3_at TG hx
      have ha2 : ∀ o, (L2.upd H1 D o) a = some (.tup [.int t.1, .int t.2.1, .int t.2.2]) := fun o => by
        rw [upd_ne (ne_of ha hD (by intro z; cases z))]
        exact ha
      have hlt : t.1 < 169 := by
        obtain ⟨c, hc, rfl⟩ := List.mem_map.mp (List.mem_of_getElem? ht)
        have hc' := mem_written.mp hc
        have := S.w13
        have := S.h13
        exact cell_lt (by omega) (by omega)
      refine ⟨a, _, rfl, SqT.of (ha2 _), rfl, _, _, rfl, _, _, rfl, _, _, rfl, rfl, ?_⟩
      refine ⟨_, rfl, _, rfl, _, rfl, D, _, _, t.1, rfl, rfl, upd_same, ?_, ?_⟩
      · rw [iv_len, fold_len, List.length_replicate]
        unfold ixN
        rw [if_pos (by omega), if_pos (by omega)]
        rfl
      · refine ⟨_, _, _, rfl, ?_⟩
        rw [upd_upd, iv_set, List.take_add_one, ht, List.foldl_append]
        rfl
    · rintro σ H2 ⟨a1, a2, a3, rfl, rfl⟩
      rw [hvl, List.take_length, glist_fold S]
      refine ⟨_, rfl, q _ D (fun c o hc => ?_) nDH upd_same⟩
      rw [upd_ne (ne_of_none hc nDH)]
      exact s1 _ _ hc
/-- who may begin where -/
def beginB (p : Tafl.Piece) (k : Tafl.Kind) : Bool := msB p k && !(p == .king && k == .exit)
def spMayStart : Sp := fun vs H Q _ => ∃ (k : Tafl.Kind) (p : Tafl.Piece), vs = [.int (kIx k), .int (pIx p)] ∧ Q (.bl (beginB p k)) H
theorem ok_may_start (T : Txt K mg) : FnOk P w K mg base CX0 2 (a_may_start K) T.fd_may_start p_may_start spMayStart := by
  refine T.F_may_start.ok sc_may_start (fun vs H Q E h => ?_) (fun cdv A outer s H vs Q E hr h => ⟨_, PSs.nox (pss_one (ps_ret (pe_and (pe_call (ok_may_stand T) (hr.mono (by decide)) rfl T.g_may_stand T.F_may_stand.kp (b_may_stand T) .nil pass0 (pa_cons (pv 0) (pa_cons (pv 1) pa_nil))) (pe_one (pe_not (pe_and (pe_cmpR op_eq (pv 1) (pe_glob (v := .int 3) rfl T.c_KING ⟨_, rfl⟩) (nomark _)) (pe_one (pe_cmpR op_eq (pv 0) (pe_glob (v := .int 2) rfl T.c_EXIT ⟨_, rfl⟩) (nomark _))))))))), ?_⟩)
  · obtain ⟨k, p, rfl, _⟩ := h
    rfl
  · obtain ⟨k, p, rfl, q⟩ := h
    refine ⟨_, rfl, _, rfl, k, p, rfl, _, rfl, ?_⟩
    cases p with
    | none => exact ifT rfl ⟨_, rfl, rfl, _, rfl, ifF rfl ⟨_, rfl, by cases k <;> exact q⟩⟩
    | hunter =>
      cases k with
      | plain => exact ifT rfl ⟨_, rfl, rfl, _, rfl, ifF rfl ⟨_, rfl, q⟩⟩
      | seat => exact ifF rfl q
      | exit => exact ifF rfl q
      | wall => exact ifF rfl q
    | man =>
      cases k with
      | plain => exact ifT rfl ⟨_, rfl, rfl, _, rfl, ifF rfl ⟨_, rfl, q⟩⟩
      | seat => exact ifF rfl q
      | exit => exact ifF rfl q
      | wall => exact ifF rfl q
    | king =>
      cases k with
      | plain => exact ifT rfl ⟨_, rfl, rfl, _, rfl, ifT rfl ⟨_, rfl, rfl, _, rfl, q⟩⟩
      | seat => exact ifT rfl ⟨_, rfl, rfl, _, rfl, ifT rfl ⟨_, rfl, rfl, _, rfl, q⟩⟩
      | exit => exact ifT rfl ⟨_, rfl, rfl, _, rfl, ifT rfl ⟨_, rfl, rfl, _, rfl, q⟩⟩
      | wall => exact ifF rfl q
theorem misplaced_eq {ru : Tafl.Rules} {p : Nat × Nat} : ru.misplaced p = !beginB (ru.piece p.1 p.2) (ru.kind p.1 p.2) := by
  unfold Tafl.Rules.misplaced beginB
  cases ru.piece p.1 p.2 <;> cases ru.kind p.1 p.2 <;> rfl
def spStartFaults (K : PySem.W.Frag) : Sp := fun vs H Q _ => ∃ (p dxp : Addr) (ru : Tafl.Rules) (len : Nat) (pg ps : Addr), vs = [.ref p] ∧ TextAt K H p dxp ru len pg ps ∧ Shaped ru ∧
  ∀ H' D, Same H H' → H D = none → LT H' D ((ru.asWritten.filter ru.misplaced).map fun p => [((ru.startPlace p : Nat) : Int), 3]) → Q (.ref D) H'
theorem ok_start_faults (T : Txt K mg) : FnOk P w K mg base CX0 3 (a_start_faults K) T.fd_start_faults p_start_faults (spStartFaults K) := by
  refine T.F_start_faults.ok sc_start_faults (fun vs H Q E h => ?_) (fun cdv A outer s H vs Q E hr h => ⟨_, PSs.nox (pss_cons (ps_set (i := 1) sc_start_faults.nd rfl (Or.inr rfl) (pe_call (ok_ground_list T) (hr.mono (by decide)) rfl T.g_ground_list T.F_ground_list.kp (b_ground_list T) .nil pass0 (pa_cons (pv 0) pa_nil)))
      (pss_one (ps_ret (pe_lc (own := [("cell", 2), ("piece", 3), ("place", 4)]) (g := (gTup K 3 (gCons (gName 2) (gCons (gName 3) (gCons (gName 4) gNil))))) rfl sc_start_faults.nd (pi_list (pe_fld (pv 0) rfl)) (blkOk_by (own := [("cell", 2), ("piece", 3), ("place", 4)]) (N := n_start_faults) (sc := defScope s_start_faults) (by decide +kernel)) (fun _ _ _ _ _ => (pg_tup rfl (pgs_cons (pg_name (i := 2) sc_start_faults.nd rfl (Or.inl rfl)) (pgs_cons (pg_name (i := 3) sc_start_faults.nd rfl (Or.inl rfl)) (pgs_cons (pg_name (i := 4) sc_start_faults.nd rfl (Or.inl rfl)) pgs_nil))))) (fun _ _ _ _ _ => (pts_one (pt_not (pt_val (pe_call (ok_may_start T) (hr.mono (by decide)) rfl T.g_may_start T.F_may_start.kp (b_may_start T) .nil pass0 (pa_cons (pe_ix (ix_listK (K := K) rfl) (pv 1) (pv 2) (fun _ _ => rfl)) (pa_cons (pv 3) pa_nil))))))) (fun _ _ _ _ _ => (pe_tup (pa_cons (pv 4) (pa_cons pe_int pa_nil)))))))), ?_⟩)
  · obtain ⟨p, dxp, ru, len, pg, ps, rfl, _⟩ := h
    rfl
  · obtain ⟨p, dxp, ru, len, pg, ps, rfl, X, S, q⟩ := h
    refine ⟨_, rfl, p, dxp, ru, len, pg, ps, rfl, X, S, fun H1 G s1 nG hG => ?_⟩
    have X1 := X.same s1
    obtain ⟨vg, hg, TG⟩ := X1.s.ex
    rw [start_rows S] at TG
    have hvl : vg.length = ru.asWritten.length := by
      rw [TG.len, List.length_map]
      exact List.length_map ..
    have hw := (gT_len S).2
    refine ⟨_, rfl, p, _, dxp, _, _, rfl, X1.ins, T.cl_RulesText, T.na_RulesText_start, rfl, ps, rfl, ⟨_, SqL.of hg⟩, fun D nD => ?_⟩
    refine lc_list (K := K) (a := ps) (xs := vg) (fun i H3 => Same H1 H3 ∧ ∃ us, H3 D = some (.lst us) ∧ Tups H3 us (((ru.asWritten.take i).filter ru.misplaced).map fun p => [((ru.startPlace p : Nat) : Int), 3])) ⟨Same.upd nD, [], upd_same, .nil⟩ (fun i H3 _ e => SqL.of (e.1 _ _ hg)) ?_ ?_
    · rintro i x H3 hx ⟨s3, us, hus, TU⟩
      obtain ⟨t, a, ht, rfl, ha⟩ := t3_at TG hx
      unfold TfM.Rules.sT at ht
      rw [List.getElem?_map] at ht
      cases hp : ru.asWritten[i]? with
      | none =>
        rw [hp] at ht
        cases ht
      | some c =>
        rw [hp] at ht
        cases ht
        have hc' := mem_written.mp (List.mem_of_getElem? hp)
        have w13 := S.w13
        have h13 := S.h13
        obtain ⟨m1, m2⟩ := cell_mod (x := c.1) (y := c.2) (by omega)
        have on : onG ru (Tafl.cellOf c.1 c.2) = true := by
          unfold onG
          rw [m1, m2, decide_eq_true hc'.1, decide_eq_true hc'.2]
          rfl
        have gat : (iv (glist ru))[Tafl.cellOf c.1 c.2]? = some (.int (kIx (ru.kind c.1 c.2))) := by
          refine iv_at ?_
          rw [glist_at (cell_lt (by omega) (by omega)), if_pos on, m1, m2]
        have hul : us.length ≤ 1000 := by
          rw [TU.len, List.length_map]
          have y1 := List.length_filter_le ru.misplaced (ru.asWritten.take i)
          have y2 : (ru.asWritten.take i).length ≤ ru.asWritten.length := by rw [List.length_take]; omega
          omega
        have tf := take_fm (p := ru.misplaced) (f := fun p => [((ru.startPlace p : Nat) : Int), (3 : Int)]) hp
        refine ⟨a, _, rfl, SqT.of (s3 _ _ ha), rfl, _, _, rfl, _, _, rfl, _, _, rfl, rfl, rfl, ?_⟩
        refine ⟨_, rfl, _, rfl, G, _, _, _, rfl, rfl, SqL.of (s3 _ _ hG), atI_nat gat, _, rfl, ru.kind c.1 c.2, ru.piece c.1 c.2, rfl, _, rfl, ?_⟩
        refine ifB (fun h2 => ?_) fun h2 => ?_
        · have h2' : ru.misplaced c = true := misplaced_eq.trans h2
          rw [if_pos h2'] at tf
          refine ⟨_, rfl, (by show 2 ≤ sizeLine; decide), fun tp ntp => ⟨us, ?_, line1000 hul, ?_⟩⟩
          · rw [upd_ne (ne_of_none hus ntp)]
            exact hus
          · refine ⟨fun a o ho => ?_, us ++ [.ref tp], upd_same, ?_⟩
            · rw [upd_ne (ne_of_none ho nD), upd_ne (ne_of_none (s3 _ _ ho) ntp)]
              exact s3 _ _ ho
            · rw [tf]
              have ts1 : TSame H3 (L2.upd (L2.upd H3 tp (.tup [V.int (ru.startPlace c : Nat), V.int 3])) D (.lst (us ++ [.ref tp]))) :=
                (TSame.of (Same.upd ntp)).trans (TSame.lst (xs := us) (by rw [upd_ne (ne_of_none hus ntp)]; exact hus))
              refine Tups.app (Tups.mono ts1 TU) (Tups.one ⟨tp, rfl, ?_⟩)
              rw [upd_ne (Ne.symm (ne_of_none hus ntp)), upd_same]
              rfl
        · have h2' : ru.misplaced c = false := misplaced_eq.trans h2
          rw [h2', if_neg Bool.false_ne_true, List.append_nil] at tf
          refine ⟨s3, us, hus, ?_⟩
          rw [tf]
          exact TU
    · rintro H3 ⟨s3, us, hus, TU⟩
      rw [hvl, List.take_length] at TU
      exact q H3 D (s1.trans s3) (s1.free nD) ⟨us, hus, TU⟩
end
end Tf
set_option Elab.async false
set_option linter.all false
set_option maxRecDepth 100000
set_option maxHeartbeats 4000000
/-! A rules' text, judged. -/
namespace Tf
open PySem PySem.Spec PyProof.Rows L2 TfX TfM
section
variable {P : Program} {w : World} {K : PySem.W.Frag} {mg : Str → Option Value} {base : Heap}
theorem pIx_eq (a b : Tafl.Piece) : (pIx a == pIx b) = (a == b) := by cases a <;> cases b <;> rfl
theorem kIx_eq (a b : Tafl.Kind) : (kIx a == kIx b) = (a == b) := by cases a <;> cases b <;> rfl
theorem filt_s {ru : Tafl.Rules} (x : Tafl.Piece) : (TfM.Rules.sT pIx ru).filter (fun q => q.2.1 == pIx x) = (ru.asWritten.filter fun p => ru.piece p.1 p.2 == x).map fun p => (Tafl.cellOf p.1 p.2, pIx (ru.piece p.1 p.2), ru.startPlace p) := by
  unfold TfM.Rules.sT
  rw [List.filter_map]
  congr 1
  refine List.filter_congr fun p _ => ?_
  exact pIx_eq _ _
theorem filt_g {ru : Tafl.Rules} (x : Tafl.Kind) : (TfM.Rules.gT kIx ru).filter (fun q => q.2.1 == kIx x) = (ru.asWritten.filter fun p => ru.kind p.1 p.2 == x).map fun p => (Tafl.cellOf p.1 p.2, kIx (ru.kind p.1 p.2), ru.groundPlace p) := by
  unfold TfM.Rules.gT
  rw [List.filter_map]
  congr 1
  refine List.filter_congr fun p _ => ?_
  exact kIx_eq _ _
theorem sT_len {ru : Tafl.Rules} (S : Shaped ru) : (TfM.Rules.sT pIx ru).length ≤ 1000 := by
  unfold TfM.Rules.sT
  rw [List.length_map]
  exact Nat.le_trans (gT_len S).2 (by decide)
theorem gT_len' {ru : Tafl.Rules} (S : Shaped ru) : (TfM.Rules.gT kIx ru).length ≤ 1000 := Nat.le_trans (gT_len S).1 (by decide)
theorem len_zero {α : Type} {l : List α} : decide (V.int (l.length : Int) = V.int 0) = l.isEmpty := by
  rw [dec_int, Bool.eq_iff_iff]
  simp only [decide_eq_true_eq, List.isEmpty_iff]
  rw [← List.length_eq_zero_iff]
  omega
theorem any_filter {α : Type} {p : α → Bool} : ∀ {l : List α}, (l.filter p).isEmpty = !l.any p
  | [] => rfl
  | a :: l => by
    rw [List.filter_cons, List.any_cons]
    cases h : p a with
    | true => rfl
    | false =>
      rw [if_neg Bool.false_ne_true, any_filter, Bool.false_or]
theorem edge_cell {ru : Tafl.Rules} {p : Nat × Nat} (h : p.1 < 13) : edgeB ru.wide ru.high (Tafl.cellOf p.1 p.2) = ru.onEdge p := by
  obtain ⟨a, b⟩ := cell_mod (x := p.1) (y := p.2) h
  unfold edgeB Tafl.Rules.onEdge
  rw [a, b]
  simp only [Bool.or_assoc]
/-- the goal is at fault -/
def bad5 (ru : Tafl.Rules) : Bool := if ru.goal == 1 then !(ru.asWritten.any fun p => ru.kind p.1 p.2 == .exit) else (ru.kings.take 1).any ru.onEdge
def bad6 (ru : Tafl.Rules) : Bool := ru.kings.isEmpty || (!(ru.asWritten.any fun p => ru.piece p.1 p.2 == .hunter) || (!(ru.passed && ru.seat == 0) && ru.seats.isEmpty))
def spGoalFaults (K : PySem.W.Frag) : Sp := fun vs H Q _ => ∃ (p dxp : Addr) (ru : Tafl.Rules) (len : Nat) (pg ps : Addr), vs = [.ref p] ∧ TextAt K H p dxp ru len pg ps ∧ Shaped ru ∧
  ∀ H' D, Same H H' → H D = none → LT H' D (if bad5 ru = true then [[((ru.goalAt : Nat) : Int), 5]] else []) → Q (.ref D) H'
theorem ok_goal_faults (T : Txt K mg) : FnOk P w K mg base CX0 2 (a_goal_faults K) T.fd_goal_faults p_goal_faults (spGoalFaults K) := by
  refine T.F_goal_faults.ok sc_goal_faults (fun vs H Q E h => ?_) (fun cdv A outer s H vs Q E hr h => ⟨_, PSs.nox (pss_cons (ps_set (i := 1) sc_goal_faults.nd rfl (Or.inl rfl) (pe_call (ok_cells_with T) (hr.mono (by decide)) rfl T.g_cells_with T.F_cells_with.kp (b_cells_with T) .nil pass0 (pa_cons (pe_fld (pv 0) rfl) (pa_cons (pe_glob (v := .int 3) rfl T.c_KING ⟨_, rfl⟩) pa_nil))))
      (pss_cons (ps_if (pt_cmpR op_eq (pe_fld (pv 0) rfl) (pe_glob (v := .int 1) rfl T.c_GOAL_EXITS ⟨_, rfl⟩) (nomark _)) (pss_one (ps_set (i := 2) sc_goal_faults.nd rfl (Or.inl rfl) (pe_cmpR op_eq (pe_callB call_len_seq (by rfl) T.m_len (by decide +kernel) (pa_cons (pe_call (ok_cells_with T) (hr.mono (by decide)) rfl T.g_cells_with T.F_cells_with.kp (b_cells_with T) .nil pass0 (pa_cons (pe_fld (pv 0) rfl) (pa_cons (pe_glob (v := .int 2) rfl T.c_EXIT ⟨_, rfl⟩) pa_nil))) pa_nil)) pe_int (nomark _)))) (pss_one (ps_set (i := 2) sc_goal_faults.nd rfl (Or.inl rfl) (pe_and (pe_cmpR op_gt (pe_callB call_len_seq (by rfl) T.m_len (by decide +kernel) (pa_cons (pv 1) pa_nil)) pe_int (nomark _)) (pe_one (pe_call (ok_on_edge T) (hr.mono (by decide)) rfl T.g_on_edge T.F_on_edge.kp (b_on_edge T) .nil pass0 (pa_cons (pe_fld (pv 0) rfl) (pa_cons (pe_fld (pv 0) rfl) (pa_cons (pe_ix ix_list (pv 1) pe_int (fun _ _ => rfl)) pa_nil)))))))))
      (pss_one (ps_ret (pe_ifExp (pt_val (pv 2)) (pe_lst (pa_cons (pe_tup (pa_cons (pe_fld (pv 0) rfl) (pa_cons pe_int pa_nil))) pa_nil)) (pe_lst pa_nil)))))), ?_⟩)
  · obtain ⟨p, dxp, ru, len, pg, ps, rfl, _⟩ := h
    rfl
  · obtain ⟨p, dxp, ru, len, pg, ps, rfl, X, S, q⟩ := h
    have Xs := X.s
    rw [start_rows S] at Xs
    refine ⟨_, rfl, p, _, dxp, _, _, rfl, X.ins, T.cl_RulesText, T.na_RulesText_start, rfl, ps, _, pIx .king, rfl, Xs, sT_len S, fun D1 n1 => ?_⟩
    rw [filt_s, List.map_map]
    have ek : (ru.asWritten.filter fun p => ru.piece p.1 p.2 == .king) = ru.kings := rfl
    rw [ek]
    generalize hH1 : L2.upd H D1 (.lst (ru.kings.map ((fun q => V.int q.1) ∘ fun p => (Tafl.cellOf p.1 p.2, pIx (ru.piece p.1 p.2), ru.startPlace p)))) = H1
    have s1 : Same H H1 := by
      rw [← hH1]
      exact Same.upd n1
    have hD1 : H1 D1 = some (.lst (ru.kings.map ((fun q => V.int q.1) ∘ fun p => (Tafl.cellOf p.1 p.2, pIx (ru.piece p.1 p.2), ru.startPlace p)))) := by
      rw [← hH1]
      exact upd_same
    have X1 := X.same s1
    dsimp only [gName]
    refine seq_by (fun σ H2 => ∃ kv, σ = [some (.ref p), kv, some (.bl (bad5 ru))] ∧ Same H H2) ?_ fun after => ?_
    · rintro σ H2 ⟨kv, rfl, s2⟩
      have X2 := X.same s2
      refine ⟨_, rfl, _, rfl, ?_⟩
      refine ifB (fun h1 => ?_) fun h1 => ?_
      · refine ⟨_, rfl, p, _, dxp, _, _, rfl, X2.ins, T.cl_RulesText, T.na_RulesText_goal_place, rfl, (by show 2 ≤ sizeLine; decide), fun tp ntp => ?_⟩
        refine ⟨(by show 1 ≤ sizeLine; decide), fun D nD => q _ D (s2.trans ((Same.upd ntp).trans (Same.upd nD))) (s2.free (Same.free (Same.upd ntp) nD)) ?_⟩
        rw [if_pos h1]
        refine ⟨_, upd_same, .cons ⟨tp, rfl, ?_⟩ .nil⟩
        rw [upd_ne (ne_of_none upd_same nD), upd_same]
        rfl
      · refine ⟨Nat.zero_le _, fun D nD => q _ D (s2.trans (Same.upd nD)) (s2.free nD) ?_⟩
        rw [if_neg (by rw [h1]; exact Bool.false_ne_true)]
        exact ⟨_, upd_same, .nil⟩
    · refine ⟨_, rfl, p, _, dxp, _, _, rfl, X1.ins, T.cl_RulesText, T.na_RulesText_goal, rfl, rfl, _, rfl, ?_⟩
      have eg : decide (V.int (ru.goal : Int) = V.int 1) = (ru.goal == 1) := nat_dec (b := 1)
      rw [eg]
      have Xg := X1.g
      rw [ground_rows S] at Xg
      refine ifB (fun h1 => ?_) fun h1 => ?_
      · refine ⟨_, rfl, p, _, dxp, _, _, rfl, X1.ins, T.cl_RulesText, T.na_RulesText_ground, rfl, pg, _, kIx .exit, rfl, Xg, gT_len' S, fun D2 n2 => ?_⟩
        refine ⟨D2, _, rfl, .inl (SqL.of upd_same), rfl, ?_⟩
        refine after _ _ ⟨some (.ref D1), ?_, s1.trans (Same.upd n2)⟩
        rw [len_zero, filt_g, List.map_map]
        have e2 : (List.map ((fun q => V.int q.1) ∘ fun p => (Tafl.cellOf p.1 p.2, kIx (ru.kind p.1 p.2), ru.groundPlace p)) (ru.asWritten.filter fun p => ru.kind p.1 p.2 == .exit)).isEmpty = bad5 ru := by
          unfold bad5
          rw [if_pos h1, ← any_filter]
          cases (ru.asWritten.filter fun p => ru.kind p.1 p.2 == .exit) <;> rfl
        rw [e2]
        rfl
      · refine ⟨_, rfl, D1, _, rfl, .inl (SqL.of hD1), _, _, rfl, rfl, _, rfl, ?_⟩
        have e5 : bad5 ru = (ru.kings.take 1).any ru.onEdge := by
          unfold bad5
          rw [h1, if_neg Bool.false_ne_true]
        rw [List.length_map]
        cases hk : ru.kings with
        | nil =>
          refine ifF rfl (after _ _ ⟨some (.ref D1), ?_, s1⟩)
          rw [e5, hk]
          rfl
        | cons c r =>
          have hc : c ∈ ru.asWritten := by
            have : c ∈ ru.kings := by
              rw [hk]
              exact List.mem_cons_self
            exact (List.mem_filter.mp this).1
          have hc' := mem_written.mp hc
          rw [hk] at hD1
          refine ifT (decide_eq_true (by rw [List.length_cons]; omega)) ?_
          refine ⟨_, rfl, p, _, dxp, _, _, rfl, X1.ins, T.cl_RulesText, T.na_RulesText_wide, rfl, _, rfl, p, _, dxp, _, _, rfl, X1.ins, T.cl_RulesText, T.na_RulesText_high, rfl, _, rfl, D1, _, 0, _, rfl, rfl, SqL.of hD1, atI_nat (j := 0) rfl, ru.wide, ru.high, Tafl.cellOf c.1 c.2, rfl, ?_⟩
          refine after _ _ ⟨some (.ref D1), ?_, s1⟩
          rw [e5, hk, edge_cell (by have := S.w13; omega)]
          show _ = [some (V.ref p), _, some (.bl ((c :: r).take 1 |>.any ru.onEdge))]
          rw [show (c :: r).take 1 = [c] from rfl, List.any_cons, List.any_nil, Bool.or_false]
          rfl
def spMissing (K : PySem.W.Frag) : Sp := fun vs H Q _ => ∃ (p dxp : Addr) (ru : Tafl.Rules) (len : Nat) (pg ps : Addr), vs = [.ref p] ∧ TextAt K H p dxp ru len pg ps ∧ Shaped ru ∧
  ∀ H' D, Same H H' → H D = none → LT H' D (if bad6 ru = true then [[((len : Nat) : Int), 6]] else []) → Q (.ref D) H'
theorem ok_missing_faults (T : Txt K mg) : FnOk P w K mg base CX0 2 (a_missing_faults K) T.fd_missing_faults p_missing_faults (spMissing K) := by
  refine T.F_missing_faults.ok sc_missing_faults (fun vs H Q E h => ?_) (fun cdv A outer s H vs Q E hr h => ⟨_, PSs.nox (pss_cons (ps_set (i := 1) sc_missing_faults.nd rfl (Or.inl rfl) (pe_or (pe_cmpR op_eq (pe_fld (pv 0) rfl) pe_int (nomark _)) (pe_one (pe_cmpR op_ne (pe_fld (pv 0) rfl) (pe_glob (v := .int 0) rfl T.c_QUIET ⟨_, rfl⟩) (nomark _)))))
      (pss_cons (ps_set (i := 2) sc_missing_faults.nd rfl (Or.inl rfl) (pe_or (pe_cmpR op_eq (pe_callB call_len_seq (by rfl) T.m_len (by decide +kernel) (pa_cons (pe_call (ok_cells_with T) (hr.mono (by decide)) rfl T.g_cells_with T.F_cells_with.kp (b_cells_with T) .nil pass0 (pa_cons (pe_fld (pv 0) rfl) (pa_cons (pe_glob (v := .int 3) rfl T.c_KING ⟨_, rfl⟩) pa_nil))) pa_nil)) pe_int (nomark _)) (pe_one (pe_cmpR op_eq (pe_callB call_len_seq (by rfl) T.m_len (by decide +kernel) (pa_cons (pe_call (ok_cells_with T) (hr.mono (by decide)) rfl T.g_cells_with T.F_cells_with.kp (b_cells_with T) .nil pass0 (pa_cons (pe_fld (pv 0) rfl) (pa_cons (pe_glob (v := .int 1) rfl T.c_HUNTER ⟨_, rfl⟩) pa_nil))) pa_nil)) pe_int (nomark _)))))
      (pss_cons (ps_if (PW.pt (pw_and (pt_val (pv 1)) (pw_and1 (pt_cmpR op_eq (pe_callB call_len_seq (by rfl) T.m_len (by decide +kernel) (pa_cons (pe_call (ok_cells_with T) (hr.mono (by decide)) rfl T.g_cells_with T.F_cells_with.kp (b_cells_with T) .nil pass0 (pa_cons (pe_fld (pv 0) rfl) (pa_cons (pe_glob (v := .int 1) rfl T.c_SEAT ⟨_, rfl⟩) pa_nil))) pa_nil)) pe_int (nomark _))))) (pss_one (ps_set (i := 2) sc_missing_faults.nd rfl (Or.inl rfl) pe_bl)) pss_nil)
      (pss_one (ps_ret (pe_ifExp (pt_val (pv 2)) (pe_lst (pa_cons (pe_tup (pa_cons (pe_fld (pv 0) rfl) (pa_cons pe_int pa_nil))) pa_nil)) (pe_lst pa_nil))))))), ?_⟩)
  · obtain ⟨p, dxp, ru, len, pg, ps, rfl, _⟩ := h
    rfl
  · obtain ⟨p, dxp, ru, len, pg, ps, rfl, X, S, q⟩ := h
    have Xs := X.s
    rw [start_rows S] at Xs
    -- the end
    have done : ∀ (σ : L2.St) (H2 : Hp) (b : Bool), b = bad6 ru → Same H H2 → σ[0]? = some (some (.ref p)) → σ[2]? = some (some (.bl b)) →
        tRet (tIf (tB (tVar 2)) (tLst (tCons (tTup (tCons (tFld K (tVar 0) "length") (tCons (tC (.int 6)) tNil))) tNil)) (tLst tNil)) { nx := fun _ H' => Q .non H', rt := Q } σ H2 := fun σ H2 b eb s2 h0 h2 => by
      have X2 := X.same s2
      refine ⟨_, h2, _, rfl, ?_⟩
      rw [eb]
      refine ifB (fun h1 => ?_) fun h1 => ?_
      · refine ⟨_, h0, p, _, dxp, _, _, rfl, X2.ins, T.cl_RulesText, T.na_RulesText_length, rfl, (by show 2 ≤ sizeLine; decide), fun tp ntp => ?_⟩
        refine ⟨(by show 1 ≤ sizeLine; decide), fun D nD => q _ D (s2.trans ((Same.upd ntp).trans (Same.upd nD))) (s2.free (Same.free (Same.upd ntp) nD)) ?_⟩
        rw [if_pos h1]
        refine ⟨_, upd_same, .cons ⟨tp, rfl, ?_⟩ .nil⟩
        rw [upd_ne (ne_of_none upd_same nD), upd_same]
        rfl
      · refine ⟨Nat.zero_le _, fun D nD => q _ D (s2.trans (Same.upd nD)) (s2.free nD) ?_⟩
        rw [if_neg (by rw [h1]; exact Bool.false_ne_true)]
        exact ⟨_, upd_same, .nil⟩
    -- the seat
    have seat : ∀ (H2 : Hp) (b : Bool), (b = (ru.kings.isEmpty || !(ru.asWritten.any fun p => ru.piece p.1 p.2 == .hunter))) → Same H H2 →
        tSeq (tIfS (tAnd (tB (tVar 1)) (tTest (tOp rEq (tCB (fun xs H Q => ∃ p ys, xs = [.ref p] ∧ (SqL K H p ys ∨ SqT K H p ys) ∧ Q (.int ys.length) H) (tCons (tCall (spCellsWith K) [] E0 (tCons (tFld K (tVar 0) "ground") (tCons (tC (.int 1)) tNil))) tNil)) (tC (.int 0))))) (tAsg (tC (.bl true)) (gName 2)) tNext)
          (tRet (tIf (tB (tVar 2)) (tLst (tCons (tTup (tCons (tFld K (tVar 0) "length") (tCons (tC (.int 6)) tNil))) tNil)) (tLst tNil))) { nx := fun _ H' => Q .non H', rt := Q } [some (.ref p), some (.bl (!(ru.passed && ru.seat == 0))), some (.bl b)] H2 := fun H2 b eb s2 => by
      have X2 := X.same s2
      have Xg := X2.g
      rw [ground_rows S] at Xg
      have e6 : bad6 ru = (b || (!(ru.passed && ru.seat == 0) && ru.seats.isEmpty)) := by
        unfold bad6
        rw [eb, Bool.or_assoc]
      refine ⟨_, rfl, _, rfl, ?_⟩
      refine ifB (fun h1 => ?_) fun h1 => ?_
      · refine ⟨_, rfl, p, _, dxp, _, _, rfl, X2.ins, T.cl_RulesText, T.na_RulesText_ground, rfl, pg, _, kIx .seat, rfl, Xg, gT_len' S, fun D2 n2 => ?_⟩
        refine ⟨D2, _, rfl, .inl (SqL.of upd_same), rfl, _, rfl, ?_⟩
        rw [len_zero, filt_g, List.map_map]
        have e2 : (List.map ((fun q => V.int q.1) ∘ fun p => (Tafl.cellOf p.1 p.2, kIx (ru.kind p.1 p.2), ru.groundPlace p)) (ru.asWritten.filter fun p => ru.kind p.1 p.2 == .seat)).isEmpty = ru.seats.isEmpty := by
          show _ = (ru.asWritten.filter fun p => ru.kind p.1 p.2 == .seat).isEmpty
          cases (ru.asWritten.filter fun p => ru.kind p.1 p.2 == .seat) <;> rfl
        rw [e2]
        refine ifB (fun h2 => ?_) fun h2 => ?_
        · exact done _ _ true (by rw [e6, h1, h2, Bool.true_and, Bool.or_true]) (s2.trans (Same.upd n2)) rfl rfl
        · exact done _ _ b (by rw [e6, h2, Bool.and_false, Bool.or_false]) (s2.trans (Same.upd n2)) rfl rfl
      · exact ifF rfl (done _ _ b (by rw [e6, h1, Bool.false_and, Bool.or_false]) s2 rfl rfl)
    -- nobody there
    have who : ∀ (H2 : Hp), Same H H2 → tSeq (tAsg (tOrV (tOp rEq (tCB (fun xs H Q => ∃ p ys, xs = [.ref p] ∧ (SqL K H p ys ∨ SqT K H p ys) ∧ Q (.int ys.length) H) (tCons (tCall (spCellsWith K) [] E0 (tCons (tFld K (tVar 0) "start") (tCons (tC (.int 3)) tNil))) tNil)) (tC (.int 0)))
          (tOp rEq (tCB (fun xs H Q => ∃ p ys, xs = [.ref p] ∧ (SqL K H p ys ∨ SqT K H p ys) ∧ Q (.int ys.length) H) (tCons (tCall (spCellsWith K) [] E0 (tCons (tFld K (tVar 0) "start") (tCons (tC (.int 1)) tNil))) tNil)) (tC (.int 0)))) (gName 2))
        (tSeq (tIfS (tAnd (tB (tVar 1)) (tTest (tOp rEq (tCB (fun xs H Q => ∃ p ys, xs = [.ref p] ∧ (SqL K H p ys ∨ SqT K H p ys) ∧ Q (.int ys.length) H) (tCons (tCall (spCellsWith K) [] E0 (tCons (tFld K (tVar 0) "ground") (tCons (tC (.int 1)) tNil))) tNil)) (tC (.int 0))))) (tAsg (tC (.bl true)) (gName 2)) tNext)
          (tRet (tIf (tB (tVar 2)) (tLst (tCons (tTup (tCons (tFld K (tVar 0) "length") (tCons (tC (.int 6)) tNil))) tNil)) (tLst tNil)))) { nx := fun _ H' => Q .non H', rt := Q } [some (.ref p), some (.bl (!(ru.passed && ru.seat == 0))), none] H2 := fun H2 s2 => by
      have X2 := X.same s2
      have Xs2 := X2.s
      rw [start_rows S] at Xs2
      refine ⟨_, rfl, p, _, dxp, _, _, rfl, X2.ins, T.cl_RulesText, T.na_RulesText_start, rfl, ps, _, pIx .king, rfl, Xs2, sT_len S, fun D2 n2 => ?_⟩
      refine ⟨D2, _, rfl, .inl (SqL.of upd_same), rfl, _, rfl, ?_⟩
      rw [len_zero, filt_s, List.map_map]
      have e2 : (List.map ((fun q => V.int q.1) ∘ fun p => (Tafl.cellOf p.1 p.2, pIx (ru.piece p.1 p.2), ru.startPlace p)) (ru.asWritten.filter fun p => ru.piece p.1 p.2 == .king)).isEmpty = ru.kings.isEmpty := by
        show _ = (ru.asWritten.filter fun p => ru.piece p.1 p.2 == .king).isEmpty
        cases (ru.asWritten.filter fun p => ru.piece p.1 p.2 == .king) <;> rfl
      rw [e2]
      refine ifB (fun h2 => ?_) fun h2 => ?_
      · exact seat _ true (by rw [h2, Bool.true_or]) (s2.trans (Same.upd n2))
      · have s3 := s2.trans (Same.upd (o := .lst (List.map ((fun q => V.int q.1) ∘ fun p => (Tafl.cellOf p.1 p.2, pIx (ru.piece p.1 p.2), ru.startPlace p)) (ru.asWritten.filter fun p => ru.piece p.1 p.2 == .king))) n2)
        have X3 := X.same s3
        have Xs3 := X3.s
        rw [start_rows S] at Xs3
        refine ⟨_, rfl, p, _, dxp, _, _, rfl, X3.ins, T.cl_RulesText, T.na_RulesText_start, rfl, ps, _, pIx .hunter, rfl, Xs3, sT_len S, fun D3 n3 => ?_⟩
        refine ⟨D3, _, rfl, .inl (SqL.of upd_same), rfl, ?_⟩
        refine seat _ _ ?_ (s3.trans (Same.upd n3))
        rw [len_zero, filt_s, List.map_map, h2, Bool.false_or, ← any_filter]
        cases (ru.asWritten.filter fun p => ru.piece p.1 p.2 == .hunter) <;> rfl
    have ep : decide (V.int (b2n ru.passed) = V.int 0) = !ru.passed := by cases ru.passed <;> rfl
    have es : (!decide (V.int (ru.seat : Int) = V.int 0)) = !(ru.seat == 0) := by
      congr 1
      exact nat_dec (b := 0)
    refine ⟨_, rfl, p, _, dxp, _, _, rfl, X.ins, T.cl_RulesText, T.na_RulesText_passed, rfl, rfl, _, rfl, ?_⟩
    rw [ep]
    refine ifB (fun h1 => ?_) fun h1 => ?_
    · have y := who H (Same.refl H)
      have h1' : ru.passed = false := by simpa using h1
      rw [h1', Bool.false_and] at y
      exact y
    · refine ⟨_, rfl, p, _, dxp, _, _, rfl, X.ins, T.cl_RulesText, T.na_RulesText_seat_enmity, rfl, rfl, ?_⟩
      rw [es]
      have y := who H (Same.refl H)
      have h1' : ru.passed = true := by simpa using h1
      rw [h1', Bool.true_and] at y
      exact y
end
end Tf
set_option Elab.async false
set_option linter.all false
set_option maxRecDepth 100000
set_option maxHeartbeats 4000000
/-! read_rules. -/
namespace Tf
open PySem PySem.Spec PyProof.Rows L2 TfX TfM
section
variable {P : Program} {w : World} {K : PySem.W.Frag} {mg : Str → Option Value} {base : Heap}
def k2 (q : Nat × Nat) : List Int := [(q.2 : Int), (q.1 : Int)]
/-- all faults, as the program has them -/
theorem wrongs_eq {ru : Tafl.Rules} (S : Shaped ru) (len : Nat) : (Tafl.wrongs len ru).map k2 =
    (((((TfM.Rules.gT kIx ru).filter fun q => q.2.1 == kIx .seat).map fun q => q.2.2).drop 1).map fun p => [((p : Nat) : Int), ((2 : Nat) : Int)]) ++
    ((ru.asWritten.filter ru.misplaced).map fun p => [((ru.startPlace p : Nat) : Int), 3]) ++
    (((((TfM.Rules.sT pIx ru).filter fun q => q.2.1 == pIx .king).map fun q => q.2.2).drop 1).map fun p => [((p : Nat) : Int), ((4 : Nat) : Int)]) ++
    (if bad5 ru = true then [[((ru.goalAt : Nat) : Int), 5]] else []) ++ (if bad6 ru = true then [[((len : Nat) : Int), 6]] else []) := by
  unfold Tafl.wrongs
  rw [filt_g, filt_s, List.map_map, List.map_map, List.map_append, List.map_append, List.map_append, List.map_append, List.append_assoc, List.append_assoc, List.append_assoc]
  have e1 : List.map k2 (List.map (fun p => (2, ru.groundPlace p)) (ru.seats.drop 1)) = List.map (fun p => [((p : Nat) : Int), ((2 : Nat) : Int)]) (List.drop 1 (List.map ((fun q => q.2.2) ∘ fun p => (Tafl.cellOf p.1 p.2, kIx (ru.kind p.1 p.2), ru.groundPlace p)) (ru.asWritten.filter fun p => ru.kind p.1 p.2 == .seat))) := by
    rw [← List.map_drop, List.map_map, List.map_map]
    rfl
  have e2 : List.map k2 (List.map (fun p => (4, ru.startPlace p)) (ru.kings.drop 1)) = List.map (fun p => [((p : Nat) : Int), ((4 : Nat) : Int)]) (List.drop 1 (List.map ((fun q => q.2.2) ∘ fun p => (Tafl.cellOf p.1 p.2, pIx (ru.piece p.1 p.2), ru.startPlace p)) (ru.asWritten.filter fun p => ru.piece p.1 p.2 == .king))) := by
    rw [← List.map_drop, List.map_map, List.map_map]
    rfl
  have e3 : List.map k2 (List.map (fun p => (3, ru.startPlace p)) (ru.asWritten.filter ru.misplaced)) = (ru.asWritten.filter ru.misplaced).map fun p => [((ru.startPlace p : Nat) : Int), 3] := by
    rw [List.map_map]
    rfl
  have c5 : ((ru.goal = 1 ∧ (ru.cells.any fun (p : Nat × Nat) => ru.kind p.1 p.2 == .exit) = false) ∨ (ru.goal = 0 ∧ (ru.kings.take 1).any ru.onEdge = true)) ↔ bad5 ru = true := by
    unfold bad5
    rw [any_cells]
    have hg := S.goal
    rcases (by omega : ru.goal = 0 ∨ ru.goal = 1) with h | h
    · rw [h]
      simp
    · rw [h]
      simp
  have c6 : (ru.kings = [] ∨ (ru.cells.any fun (p : Nat × Nat) => ru.piece p.1 p.2 == .hunter) = false ∨ (ru.seats = [] ∧ ¬ (ru.passed = true ∧ ru.seat = 0))) ↔ bad6 ru = true := by
    unfold bad6
    rw [any_cells]
    simp only [Bool.or_eq_true, Bool.and_eq_true, Bool.not_eq_true', List.isEmpty_iff, Bool.and_eq_false_iff, beq_eq_false_iff_ne]
    constructor
    · rintro (h | h | ⟨h, h2⟩)
      · exact .inl h
      · exact .inr (.inl h)
      · refine .inr (.inr ⟨?_, h⟩)
        by_cases hp : ru.passed = true
        · exact .inr fun hs => h2 ⟨hp, hs⟩
        · exact .inl (by simpa using hp)
    · rintro (h | h | ⟨h2, h⟩)
      · exact .inl h
      · exact .inr (.inl h)
      · refine .inr (.inr ⟨h, ?_⟩)
        rintro ⟨a, b⟩
        rcases h2 with h2 | h2
        · rw [a] at h2
          cases h2
        · exact h2 b
  rw [e1, e2, e3]
  congr 4
  · by_cases h : bad5 ru = true
    · rw [if_pos h, if_pos (c5.mpr h)]
      rfl
    · rw [if_neg h, if_neg (fun y => h (c5.mp y))]
      rfl
  · by_cases h : bad6 ru = true
    · rw [if_pos h, if_pos (c6.mpr h)]
      rfl
    · rw [if_neg h, if_neg (fun y => h (c6.mp y))]
      rfl
theorem k2_lt {a b : Nat × Nat} (h : HT.lexLt (k2 b) (k2 a) = false) : Tafl.sooner a b = true := by
  unfold k2 at h
  rw [HT.lexLt_cons] at h
  unfold Tafl.sooner
  simp only [Bool.or_eq_true, Bool.and_eq_true, decide_eq_true_eq, beq_iff_eq]
  by_cases e : (b.2 : Int) = (a.2 : Int)
  · rw [if_pos e, HT.lexLt_cons] at h
    by_cases e2 : (b.1 : Int) = (a.1 : Int)
    · omega
    · rw [if_neg e2] at h
      have := of_decide_eq_false h
      omega
  · rw [if_neg e] at h
    have := of_decide_eq_false h
    omega
theorem wrongs_len {ru : Tafl.Rules} (S : Shaped ru) (len : Nat) : (Tafl.wrongs len ru).length ≤ 1000 := by
  have hw := (gT_len S).2
  have h1 : ru.seats.length ≤ ru.asWritten.length := List.length_filter_le _ _
  have h2 : ru.kings.length ≤ ru.asWritten.length := List.length_filter_le _ _
  have h3 : (ru.asWritten.filter ru.misplaced).length ≤ ru.asWritten.length := List.length_filter_le _ _
  unfold Tafl.wrongs
  rw [List.length_append, List.length_append, List.length_append, List.length_append, List.length_map, List.length_map, List.length_map, List.length_drop, List.length_drop]
  generalize hA : (if (ru.goal = 1 ∧ (ru.cells.any fun (p : Nat × Nat) => ru.kind p.1 p.2 == .exit) = false) ∨ (ru.goal = 0 ∧ (ru.kings.take 1).any ru.onEdge = true) then [(5, ru.goalAt)] else []) = A
  generalize hB : (if ru.kings = [] ∨ (ru.cells.any fun (p : Nat × Nat) => ru.piece p.1 p.2 == .hunter) = false ∨ (ru.seats = [] ∧ ¬ (ru.passed = true ∧ ru.seat = 0)) then [(6, len)] else []) = B
  have a1 : A.length ≤ 1 := by
    rw [← hA]
    split <;> simp
  have b1 : B.length ≤ 1 := by
    rw [← hB]
    split <;> simp
  omega
theorem LT.cat {H : Hp} {p q : Addr} {xs ys : List (List Int)} {D : Addr} (a : LT H p xs) (b : LT H q ys) (nD : H D = none) : ∀ us vs, H p = some (.lst us) → H q = some (.lst vs) → LT (L2.upd H D (.lst (us ++ vs))) D (xs ++ ys) := fun us vs hu hv => by
  obtain ⟨us', hu', TU⟩ := a.ex
  obtain ⟨vs', hv', TV⟩ := b.ex
  rw [hu] at hu'
  rw [hv] at hv'
  cases hu'
  cases hv'
  exact ⟨_, upd_same, Tups.mono (TSame.of (Same.upd nD)) (TU.app TV)⟩
/-- a fault of a rules' text is let out -/
def TFault (K : PySem.W.Frag) (C : Addr) (E : XK) (H : Hp) (kd p : Nat) : Prop := ∀ d H', H d = none → Same H H' → H' d = some (.xd [("place", .int p), ("kind", .int kd)]) → E (.ref C) (some d) H'
def spReadRules (K : PySem.W.Frag) : Sp := fun vs H Q E => ∃ (t : Addr) (b : Tafl.Bytes), vs = [.ref t] ∧ H t = some (.lst (bv b)) ∧
  (∀ kd p, Tafl.judge b = .error (kd, p) → TFault K (c_TextFault K) E H kd p) ∧ (∀ ru, Tafl.judge b = .ok ru → Shaped ru → ∀ H' p dxp pg ps, Same H H' → TextAt K H' p dxp ru b.length pg ps → Q (.ref p) H')
theorem ok_read_rules (T : Txt K mg) : FnOk P w K mg base (L2.CX P w) 7 (a_read_rules K) T.fd_read_rules p_read_rules (spReadRules K) := by
  refine T.F_read_rules.ok sc_read_rules (fun vs H Q E h => ?_) (fun cdv A outer s H vs Q E hr h => ⟨_, (pss_cons (ps_try_asR (i := 2) (ts := fun a cls d _ σ H => σ[2]? = some (some (.ref a)) ∧ PySem.W.subIn K cls (.type "BaseException") = some true ∧ tMkO (c_TextFault K) (spErr2 K (c_TextFault K) "kind" "place") [] (tCons (tC (.int 1)) (tCons (tXf a cls d (c_GrammarFault K) "place" (tVar 2)) tNil)) σ H fun cls d H' => E cls d H') rfl rfl (fun _ h => nomatch h) sc_read_rules.nd rfl rfl ⟨rfl, by decide, .inl T.gc_GrammarFault⟩ (L2H.passesAt_of rfl) (takes_of rfl rfl rfl rfl) (fun W pn xe tk _ => pss_one (ps_set (i := 1) sc_read_rules.nd rfl (Or.inl rfl) (pe_makeS T.mk_RulesText (ok_RulesText_init T) (hr.mono (by decide)) rfl T.gc_RulesText (b_RulesText_init T) (fun σ => L2N.passAt tk σ) (pa_cons (pe_make T.mk_Reader (ok_Reader_init T) (hr.mono (by decide)) rfl T.gc_Reader (b_Reader_init T) .nil pass0 (pa_cons (pv 0) pa_nil)) pa_nil)))) (fun a oe cls d pn xe hz hf tkS hot => pss_one (ps_raiseHF (i := 2) rfl rfl rfl List.mem_cons_self hz hf tkS (pmk_oxeH T.x_TextFault T.i_TextFault T.ti_TextFault (okH_TextFault_init T) (L2H.RoomH.mono (L2H.roomH_mark hr (some (.ref a))) (by decide)) hot (b_TextFault_init T) pass0 (by rfl) T.gc_TextFault (pa_cons pe_int (pa_cons (PE.nox (pe_xf T.xf_GrammarFault T.nf_GrammarFault_place hz.zc hf (pv 2))) pa_nil))))))
      (pss_cons (ps_set (i := 3) sc_read_rules.nd rfl (Or.inl rfl) (pe_op op_cat (pe_op op_cat (pe_call (ok_second_faults T) (hr.mono (by decide)) rfl T.g_second_faults T.F_second_faults.kp (b_second_faults T) .nil pass0 (pa_cons (pe_fld (pv 1) rfl) (pa_cons (pe_glob (v := .int 1) rfl T.c_SEAT ⟨_, rfl⟩) (pa_cons pe_int pa_nil)))) (pe_call (ok_start_faults T) (hr.mono (by decide)) rfl T.g_start_faults T.F_start_faults.kp (b_start_faults T) .nil pass0 (pa_cons (pv 1) pa_nil))) (pe_call (ok_second_faults T) (hr.mono (by decide)) rfl T.g_second_faults T.F_second_faults.kp (b_second_faults T) .nil pass0 (pa_cons (pe_fld (pv 1) rfl) (pa_cons (pe_glob (v := .int 3) rfl T.c_KING ⟨_, rfl⟩) (pa_cons pe_int pa_nil))))))
      (pss_cons (ps_set (i := 3) sc_read_rules.nd rfl (Or.inl rfl) (pe_op op_cat (pe_op op_cat (pv 3) (pe_call (ok_goal_faults T) (hr.mono (by decide)) rfl T.g_goal_faults T.F_goal_faults.kp (b_goal_faults T) .nil pass0 (pa_cons (pv 1) pa_nil))) (pe_call (ok_missing_faults T) (hr.mono (by decide)) rfl T.g_missing_faults T.F_missing_faults.kp (b_missing_faults T) .nil pass0 (pa_cons (pv 1) pa_nil))))
      (pss_cons (ps_if (pt_cmpR op_gt (pe_callB call_len_seq (by rfl) T.m_len (by decide +kernel) (pa_cons (pv 3) pa_nil)) pe_int (nomark _)) (pss_cons (ps_set (i := 4) sc_read_rules.nd rfl (Or.inl rfl) (pe_callB (cr_minT hr) (by rfl) T.m_min (by decide +kernel) (pa_cons (pv 3) pa_nil)))
      (pss_one (ps_raise rfl (takes_of rfl rfl rfl rfl) (pmk_of (L2H.PMk5.pmk (pmk_oxe T.x_TextFault T.i_TextFault T.ti_TextFault (ok_TextFault_init T) (hr.mono (by decide)) (b_TextFault_init T) pass0 (by rfl) T.gc_TextFault (pa_cons (pe_ix ix_tup (pv 4) pe_int (fun _ _ => rfl)) (pa_cons (pe_ix ix_tup (pv 4) pe_int (fun _ _ => rfl)) pa_nil)))))))) pss_nil)
      (pss_one (ps_ret (pv 1))))))), ?_⟩)
  · obtain ⟨t, b, rfl, _⟩ := h
    rfl
  · obtain ⟨t, b, rfl, ht, kE, kQ⟩ := h
    have je : ∀ q, gramK b = .error q → Tafl.judge b = .error (1, q) := fun q hq => by
      unfold Tafl.judge
      rw [gram_eq, hq]
    have jf : ∀ ru f, gramK b = .ok ru → Tafl.firstOf (Tafl.wrongs b.length ru) = some f → Tafl.judge b = .error f := fun ru f hq hf => by
      unfold Tafl.judge
      rw [gram_eq, hq]
      dsimp only
      rw [hf]
    have jo : ∀ ru, gramK b = .ok ru → Tafl.firstOf (Tafl.wrongs b.length ru) = none → Tafl.judge b = .ok ru := fun ru hq hf => by
      unfold Tafl.judge
      rw [gram_eq, hq]
      dsimp only
      rw [hf]
    -- RulesText(Reader(text))
    refine ⟨_, rfl, fun r dx nr ndx ner => ⟨r, dx, .ref t, rfl, upd_same, fun H1 hr1 b1 => ⟨rfl, ?_⟩⟩⟩
    have s1 : Same H H1 := made_same nr ndx b1
    refine fun p dxp np ndp nep => ⟨p, dxp, r, b, t, dx, rfl, upd_same, ⟨?_, ?_⟩, fun q hq d H2 nd bt hd => ?_, fun ru hru S H3 pg ps X bt => ⟨rfl, ?_⟩⟩
    · rw [upd_ne (ne_of_none hr1 np), upd_ne (ne_of_none hr1 ndp)]
      exact hr1
    · rw [upd_ne (ne_of_none (s1 _ _ ht) np), upd_ne (ne_of_none (s1 _ _ ht) ndp)]
      exact s1 _ _ ht
    · -- a fault of the grammar
      have s2 : Same H H2 := fun a o ho => bt a o (by rw [upd_ne (ne_of_none (s1 _ _ ho) np), upd_ne (ne_of_none (s1 _ _ ho) ndp)]; exact s1 _ _ ho) (ne_of_none (s1 _ _ ho) np) (ne_of_none ho nr)
      refine ⟨true, T.e_GrammarFault_GrammarFault, fun _ a na => ⟨rfl, T.x_GrammarFault.err, _, rfl, rfl, rfl, d, _, _, rfl, hd, rfl, mk_err2 fun d2 H4 n4 s4 h4 => ?_⟩, fun y => Bool.noConfusion y⟩
      exact kE 1 q (je q hq) d2 H4 (s2.free n4) (s2.trans s4) h4
    · have s3 : Same H H3 := fun a o ho => bt a o (by rw [upd_ne (ne_of_none (s1 _ _ ho) np), upd_ne (ne_of_none (s1 _ _ ho) ndp)]; exact s1 _ _ ho) (ne_of_none (s1 _ _ ho) np) (ne_of_none ho nr)
      clear bt b1 s1
      have wl := wrongs_len S b.length
      have we := wrongs_eq S b.length
      have lenW : ((Tafl.wrongs b.length ru).map k2).length ≤ 1000 := by
        rw [List.length_map]
        exact wl
      rw [we] at lenW
      simp only [List.length_append] at lenW
      have Xg := X.g
      rw [ground_rows S] at Xg
      -- the second seat, the misplaced
      refine ⟨_, rfl, p, _, dxp, _, _, rfl, X.ins, T.cl_RulesText, T.na_RulesText_ground, rfl, pg, _, kIx .seat, 2, rfl, Xg, gT_len' S, fun HA DA sA nA LA => ?_⟩
      have XA := X.same sA
      refine ⟨_, rfl, p, dxp, ru, b.length, pg, ps, rfl, XA, S, fun HB DB sB nB LB => ?_⟩
      have LA2 := LA.mono (DSame.of sB)
      obtain ⟨uA, hA, TA⟩ := LA2.ex
      obtain ⟨uB, hB, TB⟩ := LB.ex
      have l1 := TA.len
      have l2 := TB.len
      have y3 : (1000 : Nat) < sizeLine := by decide
      refine ⟨DA, DB, uA, uB, rfl, rfl, hA, hB, by omega, fun D1 n1 => ?_⟩
      have L1 := LT.cat LA2 LB n1 uA uB hA hB
      have s4 : Same H3 (L2.upd HB D1 (.lst (uA ++ uB))) := sA.trans (sB.trans (Same.upd n1))
      generalize L2.upd HB D1 (.lst (uA ++ uB)) = H4 at L1 s4
      have X4 := X.same s4
      have Xs := X4.s
      rw [start_rows S] at Xs
      refine ⟨_, rfl, p, _, dxp, _, _, rfl, X4.ins, T.cl_RulesText, T.na_RulesText_start, rfl, ps, _, pIx .king, 4, rfl, Xs, sT_len S, fun HC DC sC nC LC => ?_⟩
      have L1' := L1.mono (DSame.of sC)
      obtain ⟨u1, h1, T1⟩ := L1'.ex
      obtain ⟨uC, hC, TC⟩ := LC.ex
      have l3 := T1.len
      have l4 := TC.len
      rw [List.length_append] at l3
      refine ⟨D1, DC, u1, uC, rfl, rfl, h1, hC, by omega, fun D2 n2 => ?_⟩
      have L2' := LT.cat L1' LC n2 u1 uC h1 hC
      have s5 : Same H3 (L2.upd HC D2 (.lst (u1 ++ uC))) := s4.trans (sC.trans (Same.upd n2))
      generalize L2.upd HC D2 (.lst (u1 ++ uC)) = H5 at L2' s5
      have X5 := X.same s5
      -- the goal, what is missing
      refine ⟨_, rfl, _, rfl, p, dxp, ru, b.length, pg, ps, rfl, X5, S, fun HD DD sD nD LD => ?_⟩
      have L2'' := L2'.mono (DSame.of sD)
      obtain ⟨u2, h2, T2⟩ := L2''.ex
      obtain ⟨uD, hD, TD⟩ := LD.ex
      have l5 := T2.len
      have l6 := TD.len
      rw [List.length_append, List.length_append] at l5
      refine ⟨D2, DD, u2, uD, rfl, rfl, h2, hD, by omega, fun D3 n3 => ?_⟩
      have L3 := LT.cat L2'' LD n3 u2 uD h2 hD
      have s6 : Same H3 (L2.upd HD D3 (.lst (u2 ++ uD))) := s5.trans (sD.trans (Same.upd n3))
      generalize L2.upd HD D3 (.lst (u2 ++ uD)) = H6 at L3 s6
      have X6 := X.same s6
      refine ⟨_, rfl, p, dxp, ru, b.length, pg, ps, rfl, X6, S, fun HE DE sE nE LE => ?_⟩
      have L3' := L3.mono (DSame.of sE)
      obtain ⟨u3, h3, T3⟩ := L3'.ex
      obtain ⟨uE, hE, TE⟩ := LE.ex
      have l7 := T3.len
      have l8 := TE.len
      rw [List.length_append, List.length_append, List.length_append] at l7
      refine ⟨D3, DE, u3, uE, rfl, rfl, h3, hE, by omega, fun D4 n4 => ?_⟩
      have L4 := LT.cat L3' LE n4 u3 uE h3 hE
      have s7 : Same H3 (L2.upd HE D4 (.lst (u3 ++ uE))) := s6.trans (sE.trans (Same.upd n4))
      generalize L2.upd HE D4 (.lst (u3 ++ uE)) = H7 at L4 s7
      have X7 := X.same s7
      rw [← we] at L4
      obtain ⟨u4, h4, T4⟩ := L4.ex
      have l9 : u4.length = (Tafl.wrongs b.length ru).length := by rw [T4.len, List.length_map]
      -- the least
      refine ⟨_, rfl, D4, _, rfl, .inl (SqL.of h4), _, _, rfl, rfl, _, rfl, ?_⟩
      refine ifB (fun c1 => ?_) fun c1 => ?_
      · have hpos : 0 < u4.length := by
          have z : (0 : Int) < (u4.length : Int) := of_decide_eq_true c1
          omega
        refine ⟨_, rfl, D4, u4, fun i => ((Tafl.wrongs b.length ru).map k2).getD i [], rfl, SqL.of h4, fun i v hv => ?_, hpos, fun j v hj hmin => ?_⟩
        · obtain ⟨x, hx, a, ha, ht2⟩ := Tups.at T4 hv
          refine ⟨a, ha, ?_⟩
          have e : ((Tafl.wrongs b.length ru).map k2).getD i [] = x := by
            rw [List.getD_eq_getElem?_getD, hx]
            rfl
          show SqT _ _ a (List.map V.int (((Tafl.wrongs b.length ru).map k2).getD i []))
          rw [e]
          exact SqT.of ht2
        · obtain ⟨x, hx, a, ha, ht2⟩ := Tups.at T4 hj
          subst ha
          rw [List.getElem?_map] at hx
          cases hf : (Tafl.wrongs b.length ru)[j]? with
          | none =>
            rw [hf] at hx
            cases hx
          | some f =>
            rw [hf] at hx
            cases hx
            have ks : ∀ i q, (Tafl.wrongs b.length ru)[i]? = some q → ((Tafl.wrongs b.length ru).map k2).getD i [] = k2 q := fun i q hq => by
              rw [List.getD_eq_getElem?_getD, List.getElem?_map, hq]
              rfl
            have ff : Tafl.firstOf (Tafl.wrongs b.length ru) = some f := by
              refine first_some (List.mem_of_getElem? hf) fun y hy => ?_
              obtain ⟨i, hi, hy2⟩ := List.mem_iff_getElem.mp hy
              have hy3 : (Tafl.wrongs b.length ru)[i]? = some y := by rw [List.getElem?_eq_getElem hi, hy2]
              have z : HT.lexLt (((Tafl.wrongs b.length ru).map k2).getD i []) (((Tafl.wrongs b.length ru).map k2).getD j []) = false := hmin i (by omega)
              rw [ks i y hy3, ks j f hf] at z
              exact k2_lt z
            have e1 : ((k2 f).map V.int)[1]? = some (.int f.1) := rfl
            have e0 : ((k2 f).map V.int)[0]? = some (.int f.2) := rfl
            refine ⟨_, rfl, a, _, 1, _, rfl, rfl, SqT.of ht2, atI_nat (j := 1) e1, _, rfl, a, _, 0, _, rfl, rfl, SqT.of ht2, atI_nat (j := 0) e0, mk_err2 fun d2 H8 n8 s8 h8 => ?_⟩
            exact kE f.1 f.2 (jf ru f hru ff) d2 H8 (s3.free (s7.free n8)) (s3.trans (s7.trans s8)) h8
      · have hz : u4.length = 0 := by
          have z : ¬ (0 : Int) < (u4.length : Int) := of_decide_eq_false c1
          omega
        have ff : Tafl.firstOf (Tafl.wrongs b.length ru) = none := first_none (List.length_eq_zero_iff.mp (by omega))
        exact ⟨_, rfl, kQ ru (jo ru hru ff) S H7 p dxp pg ps (s3.trans s7) X7⟩
end
end Tf
set_option Elab.async false
set_option linter.all false
set_option maxRecDepth 100000
set_option maxHeartbeats 4000000
/-! A hall: its small defs. -/
namespace Tf
open PySem PySem.Spec PyProof.Rows L2 TfX TfM
section
variable {P : Program} {w : World} {K : PySem.W.Frag} {mg : Str → Option Value} {base : Heap}
theorem tyL {H : Hp} {p : Addr} {xs : List V} (h : H p = some (.lst xs)) : tyV K "list" (.ref p) H := .inl ⟨rfl, _, SqL.of h⟩
def gAt (ru : Tafl.Rules) (c : Nat) : Nat := (glist ru).getD c 0
theorem gAt_eq {ru : Tafl.Rules} {c : Nat} (h : c < 169) : (glist ru)[c]? = some (gAt ru c) := by
  unfold gAt
  rw [List.getD_eq_getElem?_getD, glist_at h]
  rfl
def enmN (ru : Tafl.Rules) (g : Nat) : Nat := if g = 1 then ru.seat else if g = 2 then ru.exits else 0
def spEnm (K : PySem.W.Frag) : Sp := fun vs H Q _ => ∃ (p dxp : Addr) (ru : Tafl.Rules) (len : Nat) (pg ps : Addr) (g : Nat), vs = [.ref p, .int g] ∧ TextAt K H p dxp ru len pg ps ∧ Q (.int (enmN ru g)) H
theorem ok_enmity_of (T : Txt K mg) : FnOk P w K mg base CX0 1 (a_enmity_of K) T.fd_enmity_of p_enmity_of (spEnm K) := by
  refine T.F_enmity_of.ok sc_enmity_of (fun vs H Q E h => ?_) (fun cdv A outer s H vs Q E hr h => ⟨_, PSs.nox (pss_cons (ps_if (pt_cmpR op_eq (pv 1) (pe_glob (v := .int 1) rfl T.c_SEAT ⟨_, rfl⟩) (nomark _)) (pss_one (ps_ret (pe_fld (pv 0) rfl))) pss_nil)
      (pss_cons (ps_if (pt_cmpR op_eq (pv 1) (pe_glob (v := .int 2) rfl T.c_EXIT ⟨_, rfl⟩) (nomark _)) (pss_one (ps_ret (pe_fld (pv 0) rfl))) pss_nil)
      (pss_one (ps_ret pe_int)))), ?_⟩)
  · obtain ⟨p, dxp, ru, len, pg, ps, g, rfl, _⟩ := h
    rfl
  · obtain ⟨p, dxp, ru, len, pg, ps, g, rfl, X, q⟩ := h
    unfold enmN at q
    refine ⟨_, rfl, rfl, _, rfl, ?_⟩
    rw [dec_int]
    refine ifB (fun h1 => ?_) fun h1 => ?_
    · rw [if_pos (by have z : (g : Int) = 1 := of_decide_eq_true h1; omega)] at q
      exact ⟨_, rfl, p, _, dxp, _, _, rfl, X.ins, T.cl_RulesText, T.na_RulesText_seat_enmity, rfl, q⟩
    · rw [if_neg (by have z : ¬ (g : Int) = 1 := of_decide_eq_false h1; omega)] at q
      refine ⟨_, rfl, rfl, _, rfl, ?_⟩
      rw [dec_int]
      refine ifB (fun h2 => ?_) fun h2 => ?_
      · rw [if_pos (by have z : (g : Int) = 2 := of_decide_eq_true h2; omega)] at q
        exact ⟨_, rfl, p, _, dxp, _, _, rfl, X.ins, T.cl_RulesText, T.na_RulesText_exits_enmity, rfl, q⟩
      · rw [if_neg (by have z : ¬ (g : Int) = 2 := of_decide_eq_false h2; omega)] at q
        exact q
def goalB (ru : Tafl.Rules) (c g : Nat) : Bool := if ru.goal = 1 then g == 2 else edgeB ru.wide ru.high c
def spIsGoal (K : PySem.W.Frag) : Sp := fun vs H Q _ => ∃ (p dxp : Addr) (ru : Tafl.Rules) (len : Nat) (pg ps : Addr) (c g : Nat), vs = [.ref p, .int c, .int g] ∧ TextAt K H p dxp ru len pg ps ∧ Q (.bl (goalB ru c g)) H
theorem ok_is_goal (T : Txt K mg) : FnOk P w K mg base CX0 2 (a_is_goal K) T.fd_is_goal p_is_goal (spIsGoal K) := by
  refine T.F_is_goal.ok sc_is_goal (fun vs H Q E h => ?_) (fun cdv A outer s H vs Q E hr h => ⟨_, PSs.nox (pss_cons (ps_if (pt_cmpR op_eq (pe_fld (pv 0) rfl) (pe_glob (v := .int 1) rfl T.c_GOAL_EXITS ⟨_, rfl⟩) (nomark _)) (pss_one (ps_ret (pe_cmpR op_eq (pv 2) (pe_glob (v := .int 2) rfl T.c_EXIT ⟨_, rfl⟩) (nomark _)))) pss_nil)
      (pss_one (ps_ret (pe_call (ok_on_edge T) (hr.mono (by decide)) rfl T.g_on_edge T.F_on_edge.kp (b_on_edge T) .nil pass0 (pa_cons (pe_fld (pv 0) rfl) (pa_cons (pe_fld (pv 0) rfl) (pa_cons (pv 1) pa_nil))))))), ?_⟩)
  · obtain ⟨p, dxp, ru, len, pg, ps, c, g, rfl, _⟩ := h
    rfl
  · obtain ⟨p, dxp, ru, len, pg, ps, c, g, rfl, X, q⟩ := h
    unfold goalB at q
    refine ⟨_, rfl, p, _, dxp, _, _, rfl, X.ins, T.cl_RulesText, T.na_RulesText_goal, rfl, rfl, _, rfl, ?_⟩
    rw [dec_int]
    refine ifB (fun h1 => ?_) fun h1 => ?_
    · rw [if_pos (by have z : (ru.goal : Int) = 1 := of_decide_eq_true h1; omega), ← nat_dec] at q
      exact ⟨_, rfl, rfl, q⟩
    · rw [if_neg (by have z : ¬ (ru.goal : Int) = 1 := of_decide_eq_false h1; omega)] at q
      exact ⟨_, rfl, p, _, dxp, _, _, rfl, X.ins, T.cl_RulesText, T.na_RulesText_wide, rfl, _, rfl, p, _, dxp, _, _, rfl, X.ins, T.cl_RulesText, T.na_RulesText_high, rfl, _, rfl, ru.wide, ru.high, c, rfl, q⟩
/-! ### rays -/
def dX (d : Nat) : Int := if d = 1 then 1 else if d = 3 then -1 else 0
def dY (d : Nat) : Int := if d = 0 then 1 else if d = 2 then -1 else 0
def walkK (w h : Nat) (d : Nat) : Nat → Int → Int → List Nat
  | 0, _, _ => []
  | f + 1, x, y => if 0 ≤ x ∧ x < w ∧ 0 ≤ y ∧ y < h then (13 * y + x).toNat :: walkK w h d f (x + dX d) (y + dY d) else []
def rayN (ru : Tafl.Rules) (c d : Nat) : List Nat := walkK ru.wide ru.high d 13 (((c : Int) % 13) + dX d) (((c : Int) / 13) + dY d)
def mu (w h d : Nat) (x y : Int) : Nat := if d = 0 then ((h : Int) - y).toNat else if d = 1 then ((w : Int) - x).toNat else if d = 2 then (y + 1).toNat else (x + 1).toNat
theorem four {d : Nat} (h : d < 4) : d = 0 ∨ d = 1 ∨ d = 2 ∨ d = 3 := by omega
theorem mu_step {w h d : Nat} {x y : Int} (hd : d < 4) (hr : 0 ≤ x ∧ x < w ∧ 0 ≤ y ∧ y < h) : mu w h d (x + dX d) (y + dY d) + 1 ≤ mu w h d x y := by
  rcases four hd with rfl | rfl | rfl | rfl
  · show ((h : Int) - (y + 1)).toNat + 1 ≤ ((h : Int) - y).toNat
    omega
  · show ((w : Int) - (x + 1)).toNat + 1 ≤ ((w : Int) - x).toNat
    omega
  · show (y + -1 + 1).toNat + 1 ≤ (y + 1).toNat
    omega
  · show (x + -1 + 1).toNat + 1 ≤ (x + 1).toNat
    omega
theorem mu_start {ru : Tafl.Rules} (S : Shaped ru) {c d : Nat} (hc : c < 169) : mu ru.wide ru.high d ((c : Int) % 13 + dX d) ((c : Int) / 13 + dY d) ≤ 13 := by
  have := S.w13
  have := S.h13
  unfold mu dX dY
  split
  · omega
  · split
    · omega
    · split
      · omega
      · split <;> omega
theorem walk_out {w h d f : Nat} {x y : Int} (hn : ¬ (0 ≤ x ∧ x < w ∧ 0 ≤ y ∧ y < h)) : walkK w h d f x y = [] := by
  cases f with
  | zero => rfl
  | succ f =>
    unfold walkK
    rw [if_neg hn]
theorem walk_in {w h d f : Nat} {x y : Int} (hn : 0 ≤ x ∧ x < w ∧ 0 ≤ y ∧ y < h) : walkK w h d (f + 1) x y = (13 * y + x).toNat :: walkK w h d f (x + dX d) (y + dY d) := by
  rw [walkK, if_pos hn]
theorem walk_len {w h d : Nat} : ∀ (f : Nat) (x y : Int), (walkK w h d f x y).length ≤ f
  | 0, x, y => Nat.le_refl _
  | f + 1, x, y => by
    unfold walkK
    split
    · rw [List.length_cons]
      have := walk_len (w := w) (h := h) (d := d) f (x + dX d) (y + dY d)
      omega
    · exact Nat.zero_le _
theorem iv_app (a b : List Nat) : iv (a ++ b) = iv a ++ iv b := List.map_append ..
theorem iv_app1 (a : List Nat) (n : Nat) : iv a ++ [V.int n] = iv (a ++ [n]) := (iv_app a [n]).symm
def spRay (K : PySem.W.Frag) : Sp := fun vs H Q _ => ∃ (p dxp : Addr) (ru : Tafl.Rules) (len : Nat) (pg ps : Addr) (c d : Nat) (ax ay : Int), vs = [.ref p, .int c, .int ax, .int ay] ∧ ax = dX d ∧ ay = dY d ∧ d < 4 ∧ c < 169 ∧ Shaped ru ∧ TextAt K H p dxp ru len pg ps ∧
  ∀ H' D, Same H H' → H D = none → H' D = some (.lst (iv (rayN ru c d))) → Q (.ref D) H'
theorem ok_ray (T : Txt K mg) : FnOk P w K mg base CX0 1 (a_ray K) T.fd_ray p_ray (spRay K) := by
  refine T.F_ray.ok sc_ray (fun vs H Q E h => ?_) (fun cdv A outer s H vs Q E hr h => ⟨_, PSs.nox (pss_cons (ps_set (i := 4) sc_ray.nd rfl (Or.inl rfl) (pe_lst pa_nil))
      (pss_cons (ps_set (i := 5) sc_ray.nd rfl (Or.inl rfl) (pe_op op_add (pe_op op_mod (pv 1) (pe_glob (v := .int 13) rfl T.c_ACROSS ⟨_, rfl⟩)) (pv 2)))
      (pss_cons (ps_set (i := 6) sc_ray.nd rfl (Or.inl rfl) (pe_op op_add (pe_op op_fdiv (pv 1) (pe_glob (v := .int 13) rfl T.c_ACROSS ⟨_, rfl⟩)) (pv 3)))
      (pss_cons (ps_while PassesOwn.never (PW.pt (pw_and (pt_chain op_le op_lt pe_int (pv 5) (pe_fld (pv 0) rfl)) (pw_and1 (pt_chain op_le op_lt pe_int (pv 6) (pe_fld (pv 0) rfl))))) (pss_cons (ps_expr (pe_bm PySem.F.plainAttrs_list PySem.F.slot_list_append PySem.F.type_list_append mt_append (pv 4) (pa_cons (pe_op op_add (pe_op op_mul (pe_glob (v := .int 13) rfl T.c_ACROSS ⟨_, rfl⟩) (pv 6)) (pv 5)) pa_nil)))
      (pss_cons (ps_aug (i := 5) sc_ray.nd rfl (Or.inl rfl) (pv 2) ip_add)
      (pss_one (ps_aug (i := 6) sc_ray.nd rfl (Or.inl rfl) (pv 3) ip_add)))))
      (pss_one (ps_ret (pv 4))))))), ?_⟩)
  · obtain ⟨p, dxp, ru, len, pg, ps, c, d, ax, ay, rfl, _⟩ := h
    rfl
  · obtain ⟨p, dxp, ru, len, pg, ps, c, d, ax, ay, rfl, ex, ey, hd, hc, S, X, q⟩ := h
    refine ⟨Nat.zero_le _, fun D nD => ?_⟩
    have sD : ∀ o, Same H (L2.upd H D o) := fun o => Same.upd nD
    refine ⟨_, rfl, _, _, rfl, rfl, (by show (0 : Int) < 13; decide), _, rfl, _, _, rfl, rfl, ?_⟩
    refine ⟨_, rfl, _, _, rfl, rfl, ⟨by decide, by decide⟩, _, rfl, _, _, rfl, rfl, ?_⟩
    refine ⟨fun m σ H' => ∃ (x y : Int) (acc : List Nat), σ = [some (.ref p), some (.int c), some (.int ax), some (.int ay), some (.ref D), some (.int x), some (.int y)] ∧ H' = L2.upd H D (.lst (iv acc)) ∧ acc ++ walkK ru.wide ru.high d m x y = rayN ru c d ∧ mu ru.wide ru.high d x y ≤ m ∧ acc.length + m ≤ 13,
      ⟨13, (c : Int) % 13 + ax, (c : Int) / 13 + ay, [], rfl, rfl, by rw [ex, ey]; rfl, by rw [ex, ey]; exact mu_start S hc, Nat.le_refl _⟩, ?_⟩
    rintro m σ H' ⟨x, y, acc, rfl, rfl, e, hm, hl⟩
    have X1 := X.same (sD (.lst (iv acc)))
    have out : ¬ (0 ≤ x ∧ x < ru.wide ∧ 0 ≤ y ∧ y < ru.high) → Q (.ref D) (L2.upd H D (.lst (iv acc))) := fun hn => by
      rw [walk_out hn, List.append_nil] at e
      exact q _ D (sD _) nD (by rw [upd_same, e])
    have fin : ¬ (0 ≤ x ∧ x < ru.wide ∧ 0 ≤ y ∧ y < ru.high) → tRet (tVar 4) { nx := fun x H' => Q V.non H', rt := Q } [some (V.ref p), some (V.int ↑c), some (V.int ax), some (V.int ay), some (V.ref D), some (V.int x), some (V.int y)] (L2.upd H D (.lst (iv acc))) := fun hn => ⟨_, rfl, out hn⟩
    refine ⟨_, rfl, _, _, rfl, rfl, _, rfl, ?_⟩
    refine ifB (fun h1 => ?_) fun h1 => ?_
    · have z1 : (0 : Int) ≤ x := of_decide_eq_true h1
      refine ⟨_, rfl, p, _, dxp, _, _, rfl, X1.ins, T.cl_RulesText, T.na_RulesText_wide, rfl, _, _, rfl, rfl, _, rfl, ?_⟩
      refine ifB (fun h2 => ?_) fun h2 => ?_
      · have z2 : x < (ru.wide : Int) := of_decide_eq_true h2
        refine ⟨_, rfl, _, _, rfl, rfl, _, rfl, ?_⟩
        refine ifB (fun h3 => ?_) fun h3 => ?_
        · have z3 : (0 : Int) ≤ y := of_decide_eq_true h3
          refine ⟨_, rfl, p, _, dxp, _, _, rfl, X1.ins, T.cl_RulesText, T.na_RulesText_high, rfl, _, _, rfl, rfl, _, rfl, ?_⟩
          refine ifB (fun h4 => ?_) fun h4 => ?_
          · have z4 : y < (ru.high : Int) := of_decide_eq_true h4
            have hin : 0 ≤ x ∧ x < (ru.wide : Int) ∧ 0 ≤ y ∧ y < (ru.high : Int) := ⟨z1, z2, z3, z4⟩
            have ms := mu_step hd hin
            obtain ⟨f, rfl⟩ : ∃ f, m = f + 1 := ⟨m - 1, by omega⟩
            rw [walk_in hin] at e
            refine ⟨fun σ' H2 => ∃ m', m' < f + 1 ∧ ∃ (x y : Int) (acc : List Nat), σ' = [some (.ref p), some (.int c), some (.int ax), some (.int ay), some (.ref D), some (.int x), some (.int y)] ∧ H2 = L2.upd H D (.lst (iv acc)) ∧ acc ++ walkK ru.wide ru.high d m' x y = rayN ru c d ∧ mu ru.wide ru.high d x y ≤ m' ∧ acc.length + m' ≤ 13, fun _ _ z => z, ?_⟩
            refine ⟨_, rfl, tyL upd_same, _, rfl, _, _, rfl, rfl, .inl ⟨by decide, by decide⟩, _, rfl, _, _, rfl, rfl, D, iv acc, _, rfl, rfl, upd_same, ?_, ?_⟩
            · rw [iv_len]
              exact line1000 (by omega)
            · refine ⟨_, rfl, _, rfl, _, _, rfl, rfl, ?_⟩
              refine ⟨_, rfl, _, rfl, _, _, rfl, rfl, ?_⟩
              refine ⟨f, Nat.lt_succ_self _, x + ax, y + ay, acc ++ [(13 * y + x).toNat], rfl, ?_, ?_, ?_, ?_⟩
              · rw [upd_upd, ← iv_app1]
                have ez : (((13 * y + x).toNat : Nat) : Int) = 13 * y + x := by omega
                rw [ez]
              · rw [List.append_assoc, ex, ey]
                exact e
              · rw [ex, ey]
                omega
              · rw [List.length_append]
                show acc.length + 1 + f ≤ 13
                omega
          · exact fin fun z => by have y4 : ¬ y < (ru.high : Int) := of_decide_eq_false h4; exact y4 z.2.2.2
        · exact ⟨_, rfl, ifF rfl (fin fun z => by have y3 : ¬ (0 : Int) ≤ y := of_decide_eq_false h3; exact y3 z.2.2.1)⟩
      · exact ifF rfl (fin fun z => by have y2 : ¬ x < (ru.wide : Int) := of_decide_eq_false h2; exact y2 z.2.1)
    · exact ⟨_, rfl, ifF rfl (ifF rfl (fin fun z => by have y1 : ¬ (0 : Int) ≤ x := of_decide_eq_false h1; exact y1 z.1))⟩
/-! ### ways -/
theorem take_while {α : Type} {p : α → Bool} : ∀ {l : List α} {i : Nat}, (∀ x ∈ l.take i, p x = true) → (∀ x, l[i]? = some x → p x = false) → l.takeWhile p = l.take i
  | [], i, _, _ => by
    rw [List.take_nil]
    rfl
  | a :: l, 0, _, h => by
    have := h a rfl
    rw [List.takeWhile_cons, this]
    rfl
  | a :: l, i + 1, h, h2 => by
    rw [List.takeWhile_cons, h a (by rw [List.take_succ_cons]; exact List.mem_cons_self), List.take_succ_cons]
    have := take_while (l := l) (i := i) (fun x hx => h x (by rw [List.take_succ_cons]; exact List.mem_cons_of_mem _ hx)) (fun x hx => h2 x hx)
    rw [← this]
    rfl
theorem take_all {α : Type} {l : List α} {i : Nat} {x : α} {Z : α → Prop} (h : ∀ y ∈ l.take i, Z y) (hx : l[i]? = some x) (hz : Z x) : ∀ y ∈ l.take (i + 1), Z y := fun y hy => by
  rw [List.take_add_one, hx] at hy
  rcases List.mem_append.mp hy with hy | hy
  · exact h y hy
  · cases hy with
    | head => exact hz
    | tail _ hy => cases hy
theorem iv_get {l : List Nat} {i : Nat} {v : V} (h : (iv l)[i]? = some v) : ∃ n, l[i]? = some n ∧ v = .int n := by
  unfold iv at h
  rw [List.getElem?_map] at h
  cases hn : l[i]? with
  | none =>
    rw [hn] at h
    cases h
  | some n =>
    rw [hn] at h
    cases h
    exact ⟨n, rfl, rfl⟩
theorem dec_nat {a b : Nat} : decide (V.int (a : Int) = V.int (b : Int)) = decide (a = b) := by
  rw [nat_dec]
  rfl
def wayB (ru : Tafl.Rules) (c : Nat) : Bool := !(gAt ru c == 3 || gAt ru c == 2 || (gAt ru c == 1 && !ru.passed))
def spWay (K : PySem.W.Frag) : Sp := fun vs H Q _ => ∃ (p dxp : Addr) (ru : Tafl.Rules) (len : Nat) (pg ps G C : Addr) (cs : List Nat), vs = [.ref p, .ref G, .ref C] ∧ TextAt K H p dxp ru len pg ps ∧ H G = some (.lst (iv (glist ru))) ∧ H C = some (.lst (iv cs)) ∧ (∀ c ∈ cs, c < 169) ∧ cs.length ≤ 1000 ∧
  ∀ H' D, Same H H' → H D = none → H' D = some (.lst (iv (cs.takeWhile (wayB ru)))) → Q (.ref D) H'
theorem ok_way (T : Txt K mg) : FnOk P w K mg base CX0 1 (a_way K) T.fd_way p_way (spWay K) := by
  refine T.F_way.ok sc_way (fun vs H Q E h => ?_) (fun cdv A outer s H vs Q E hr h => ⟨_, PSs.nox (pss_cons (ps_set (i := 3) sc_way.nd rfl (Or.inl rfl) (pe_lst pa_nil))
      (pss_cons (ps_for PassesOwn.never rfl (pi_list (pv 2)) (pg_name (i := 4) sc_way.nd rfl (Or.inl rfl)) (pss_cons (ps_if (PW.pt (pw_or (pt_cmpR op_eq (pe_ix ix_list (pv 1) (pv 4) (fun _ _ => rfl)) (pe_glob (v := .int 3) rfl T.c_WALL ⟨_, rfl⟩) (nomark _)) (pw_or1 (pt_cmpR op_eq (pe_ix ix_list (pv 1) (pv 4) (fun _ _ => rfl)) (pe_glob (v := .int 2) rfl T.c_EXIT ⟨_, rfl⟩) (nomark _))))) (pss_one ps_break) pss_nil)
      (pss_cons (ps_if (PW.pt (pw_and (pt_cmpR op_eq (pe_ix ix_list (pv 1) (pv 4) (fun _ _ => rfl)) (pe_glob (v := .int 1) rfl T.c_SEAT ⟨_, rfl⟩) (nomark _)) (pw_and1 (pt_cmpR op_eq (pe_fld (pv 0) rfl) pe_int (nomark _))))) (pss_one ps_break) pss_nil)
      (pss_one (ps_expr (pe_bm PySem.F.plainAttrs_list PySem.F.slot_list_append PySem.F.type_list_append mt_append (pv 3) (pa_cons (pv 4) pa_nil)))))))
      (pss_one (ps_ret (pv 3))))), ?_⟩)
  · obtain ⟨p, dxp, ru, len, pg, ps, G, C, cs, rfl, _⟩ := h
    rfl
  · obtain ⟨p, dxp, ru, len, pg, ps, G, C, cs, rfl, X, hG, hC, hcs, hl, q⟩ := h
    refine ⟨Nat.zero_le _, fun D nD => ?_⟩
    have sD : ∀ o, Same H (L2.upd H D o) := fun o => Same.upd nD
    dsimp only [gName]
    refine seq_by (fun σ H' => ∃ cv, σ = [some (.ref p), some (.ref G), some (.ref C), some (.ref D), cv] ∧ H' = L2.upd H D (.lst (iv (cs.takeWhile (wayB ru))))) ?_ fun after => ?_
    · rintro σ H' ⟨cv, rfl, rfl⟩
      exact ⟨_, rfl, q _ D (sD _) nD upd_same⟩
    refine ⟨_, rfl, C, rfl, ⟨_, SqL.of (sD _ _ _ hC)⟩, ?_⟩
    refine for_list (K := K) (a := C) (xs := iv cs) (fun i σ H2 => ∃ cv, σ = [some (.ref p), some (.ref G), some (.ref C), some (.ref D), cv] ∧ H2 = L2.upd H D (.lst (iv (cs.take i))) ∧ ∀ c ∈ cs.take i, wayB ru c = true) ⟨none, rfl, rfl, fun c hc => by rw [List.take_zero] at hc; cases hc⟩ ?_ ?_ ?_
    · rintro i σ H2 _ ⟨cv, rfl, rfl, _⟩
      exact SqL.of (sD _ _ _ hC)
    · rintro i x σ H2 hx ⟨cv, rfl, rfl, hw⟩
      obtain ⟨c, hc, rfl⟩ := iv_get hx
      have c169 := hcs c (List.mem_of_getElem? hc)
      have gat : (iv (glist ru))[c]? = some (.int (gAt ru c)) := iv_at (gAt_eq c169)
      have X1 := X.same (sD (.lst (iv (cs.take i))))
      have stop : wayB ru c = false → (∃ cv, [some (V.ref p), some (V.ref G), some (V.ref C), some (V.ref D), some (V.int c)] = [some (V.ref p), some (V.ref G), some (V.ref C), some (V.ref D), cv] ∧ L2.upd H D (.lst (iv (cs.take i))) = L2.upd H D (.lst (iv (cs.takeWhile (wayB ru))))) := fun hf => by
        refine ⟨_, rfl, ?_⟩
        rw [take_while hw (fun x hx => by rw [hc] at hx; cases hx; exact hf)]
      unfold wayB at stop
      refine ⟨_, rfl, _, rfl, G, _, _, _, rfl, rfl, SqL.of (sD _ _ _ hG), atI_nat gat, rfl, _, rfl, ?_⟩
      refine ifB (fun h1 => ?_) fun h1 => ?_
      · have h1' : (gAt ru c == 3) = true := (nat_dec (b := 3)).symm.trans h1
        exact ifT rfl (after _ _ (stop (by rw [h1']; rfl)))
      have h1' : (gAt ru c == 3) = false := (nat_dec (b := 3)).symm.trans h1
      refine ⟨_, rfl, _, rfl, G, _, _, _, rfl, rfl, SqL.of (sD _ _ _ hG), atI_nat gat, rfl, _, rfl, ?_⟩
      refine ifB (fun h2 => ?_) fun h2 => ?_
      · have h2' : (gAt ru c == 2) = true := (nat_dec (b := 2)).symm.trans h2
        exact after _ _ (stop (by rw [h1', h2']; rfl))
      have h2' : (gAt ru c == 2) = false := (nat_dec (b := 2)).symm.trans h2
      have go : wayB ru c = true → ∀ σ, σ = [some (V.ref p), some (V.ref G), some (V.ref C), some (V.ref D), some (V.int c)] → ∃ cv, σ = [some (V.ref p), some (V.ref G), some (V.ref C), some (V.ref D), cv] ∧ L2.upd (L2.upd H D (.lst (iv (cs.take i)))) D (.lst (iv (cs.take i) ++ [V.int c])) = L2.upd H D (.lst (iv (cs.take (i + 1)))) ∧ ∀ c ∈ cs.take (i + 1), wayB ru c = true := fun ht σ hσ => by
        refine ⟨_, hσ, ?_, take_all hw hc ht⟩
        rw [upd_upd, iv_app1, List.take_add_one, hc]
        rfl
      have room : (iv (cs.take i)).length < sizeLine := by
        rw [iv_len, List.length_take]
        exact line1000 (by omega)
      refine ⟨_, rfl, _, rfl, G, _, _, _, rfl, rfl, SqL.of (sD _ _ _ hG), atI_nat gat, rfl, _, rfl, ?_⟩
      refine ifB (fun h3 => ?_) fun h3 => ?_
      · have h3' : (gAt ru c == 1) = true := (nat_dec (b := 1)).symm.trans h3
        refine ⟨_, rfl, p, _, dxp, _, _, rfl, X1.ins, T.cl_RulesText, T.na_RulesText_passed, rfl, rfl, _, rfl, ?_⟩
        have ep : decide (V.int (b2n ru.passed) = V.int 0) = !ru.passed := by cases ru.passed <;> rfl
        rw [ep]
        refine ifB (fun h4 => ?_) fun h4 => ?_
        · exact after _ _ (stop (by rw [h1', h2', h3', h4]; rfl))
        · exact ⟨_, rfl, tyL upd_same, _, rfl, D, _, _, rfl, rfl, upd_same, room, go (by unfold wayB; rw [h1', h2', h3', h4]; rfl) _ rfl⟩
      · have h3' : (gAt ru c == 1) = false := (nat_dec (b := 1)).symm.trans h3
        exact ifF rfl ⟨_, rfl, tyL upd_same, _, rfl, D, _, _, rfl, rfl, upd_same, room, go (by unfold wayB; rw [h1', h2', h3']; rfl) _ rfl⟩
    · rintro σ H2 ⟨cv, rfl, rfl, hw⟩
      rw [iv_len, List.take_length] at *
      refine after _ _ ⟨cv, rfl, ?_⟩
      have e : cs.takeWhile (wayB ru) = cs := by
        have y := take_while (l := cs) (i := cs.length) (p := wayB ru) (by rw [List.take_length]; exact hw) (fun x hx => by rw [List.getElem?_eq_none (Nat.le_refl _)] at hx; cases hx)
        rw [List.take_length] at y
        exact y
      rw [e]
def kwayL (ru : Tafl.Rules) (cs : List Nat) : List Nat := if ru.slides = true then cs.takeWhile (fun c => !(gAt ru c == 3)) else (cs.takeWhile (fun c => !(gAt ru c == 3))).take 1
def spKWay (K : PySem.W.Frag) : Sp := fun vs H Q _ => ∃ (p dxp : Addr) (ru : Tafl.Rules) (len : Nat) (pg ps G C : Addr) (cs : List Nat), vs = [.ref p, .ref G, .ref C] ∧ TextAt K H p dxp ru len pg ps ∧ H G = some (.lst (iv (glist ru))) ∧ H C = some (.lst (iv cs)) ∧ (∀ c ∈ cs, c < 169) ∧ cs.length ≤ 1000 ∧
  ∀ H' D, Same H H' → H D = none → H' D = some (.lst (iv (kwayL ru cs))) → Q (.ref D) H'
theorem cut_one (l : List Nat) : cutV (iv l) none (some 1) = iv (l.take 1) := by
  cases l with
  | nil => rfl
  | cons a r =>
    unfold cutV
    have e1 : HT.sIx (iv (a :: r)).length 0 none = 0 := rfl
    have e2 : HT.sIx (iv (a :: r)).length (iv (a :: r)).length (some 1) = 1 := by
      rw [iv_len]
      unfold HT.sIx
      simp
    rw [e1, e2]
    rfl
theorem ok_king_way (T : Txt K mg) : FnOk P w K mg base CX0 1 (a_king_way K) T.fd_king_way p_king_way (spKWay K) := by
  refine T.F_king_way.ok sc_king_way (fun vs H Q E h => ?_) (fun cdv A outer s H vs Q E hr h => ⟨_, PSs.nox (pss_cons (ps_set (i := 3) sc_king_way.nd rfl (Or.inl rfl) (pe_lst pa_nil))
      (pss_cons (ps_for PassesOwn.never rfl (pi_list (pv 2)) (pg_name (i := 4) sc_king_way.nd rfl (Or.inl rfl)) (pss_cons (ps_if (pt_cmpR op_eq (pe_ix ix_list (pv 1) (pv 4) (fun _ _ => rfl)) (pe_glob (v := .int 3) rfl T.c_WALL ⟨_, rfl⟩) (nomark _)) (pss_one ps_break) pss_nil)
      (pss_one (ps_expr (pe_bm PySem.F.plainAttrs_list PySem.F.slot_list_append PySem.F.type_list_append mt_append (pv 3) (pa_cons (pv 4) pa_nil))))))
      (pss_one (ps_ret (pe_ifExp (pt_cmpR op_eq (pe_fld (pv 0) rfl) pe_int (nomark _)) (pv 3) (pe_slice sl_list (pv 3) po_none (po_some pe_int))))))), ?_⟩)
  · obtain ⟨p, dxp, ru, len, pg, ps, G, C, cs, rfl, _⟩ := h
    rfl
  · obtain ⟨p, dxp, ru, len, pg, ps, G, C, cs, rfl, X, hG, hC, hcs, hl, q⟩ := h
    refine ⟨Nat.zero_le _, fun D nD => ?_⟩
    have sD : ∀ o, Same H (L2.upd H D o) := fun o => Same.upd nD
    dsimp only [gName]
    refine seq_by (fun σ H' => ∃ cv, σ = [some (.ref p), some (.ref G), some (.ref C), some (.ref D), cv] ∧ H' = L2.upd H D (.lst (iv (cs.takeWhile (fun c => !(gAt ru c == 3)))))) ?_ fun after => ?_
    · rintro σ H' ⟨cv, rfl, rfl⟩
      have X1 := X.same (sD (.lst (iv (cs.takeWhile (fun c => !(gAt ru c == 3))))))
      unfold kwayL at q
      refine ⟨_, rfl, p, _, dxp, _, _, rfl, X1.ins, T.cl_RulesText, T.na_RulesText_slides, rfl, rfl, _, rfl, ?_⟩
      have ep : decide (V.int (b2n ru.slides) = V.int 1) = ru.slides := by cases ru.slides <;> rfl
      rw [ep]
      refine ifB (fun h1 => ?_) fun h1 => ?_
      · rw [if_pos h1] at q
        exact ⟨_, rfl, q _ D (sD _) nD upd_same⟩
      · rw [if_neg (by rw [h1]; exact Bool.false_ne_true)] at q
        refine ⟨_, rfl, 1, rfl, D, _, rfl, SqL.of upd_same, fun D2 n2 => ?_⟩
        rw [cut_one]
        exact q _ D2 ((sD _).trans (Same.upd n2)) (Same.free (sD _) n2) upd_same
    refine ⟨_, rfl, C, rfl, ⟨_, SqL.of (sD _ _ _ hC)⟩, ?_⟩
    refine for_list (K := K) (a := C) (xs := iv cs) (fun i σ H2 => ∃ cv, σ = [some (.ref p), some (.ref G), some (.ref C), some (.ref D), cv] ∧ H2 = L2.upd H D (.lst (iv (cs.take i))) ∧ ∀ c ∈ cs.take i, (fun c => !(gAt ru c == 3)) c = true) ⟨none, rfl, rfl, fun c hc => by rw [List.take_zero] at hc; cases hc⟩ ?_ ?_ ?_
    · rintro i σ H2 _ ⟨cv, rfl, rfl, _⟩
      exact SqL.of (sD _ _ _ hC)
    · rintro i x σ H2 hx ⟨cv, rfl, rfl, hw⟩
      obtain ⟨c, hc, rfl⟩ := iv_get hx
      have c169 := hcs c (List.mem_of_getElem? hc)
      have gat : (iv (glist ru))[c]? = some (.int (gAt ru c)) := iv_at (gAt_eq c169)
      have room : (iv (cs.take i)).length < sizeLine := by
        rw [iv_len, List.length_take]
        exact line1000 (by omega)
      refine ⟨_, rfl, _, rfl, G, _, _, _, rfl, rfl, SqL.of (sD _ _ _ hG), atI_nat gat, rfl, _, rfl, ?_⟩
      refine ifB (fun h1 => ?_) fun h1 => ?_
      · have h1' : (gAt ru c == 3) = true := (nat_dec (b := 3)).symm.trans h1
        refine after _ _ ⟨_, rfl, ?_⟩
        rw [take_while hw (fun x hx => by rw [hc] at hx; cases hx; show (!(gAt ru c == 3)) = false; rw [h1']; rfl)]
      · have h1' : (gAt ru c == 3) = false := (nat_dec (b := 3)).symm.trans h1
        refine ⟨_, rfl, tyL upd_same, _, rfl, D, _, _, rfl, rfl, upd_same, room, _, rfl, ?_, take_all hw hc (by show (!(gAt ru c == 3)) = true; rw [h1']; rfl)⟩
        rw [upd_upd, iv_app1, List.take_add_one, hc]
        rfl
    · rintro σ H2 ⟨cv, rfl, rfl, hw⟩
      rw [iv_len, List.take_length] at *
      refine after _ _ ⟨cv, rfl, ?_⟩
      have e : cs.takeWhile (fun c => !(gAt ru c == 3)) = cs := by
        have y := take_while (l := cs) (i := cs.length) (p := fun c => !(gAt ru c == 3)) (by rw [List.take_length]; exact hw) (fun x hx => by rw [List.getElem?_eq_none (Nat.le_refl _)] at hx; cases hx)
        rw [List.take_length] at y
        exact y
      rw [e]
end
end Tf
set_option Elab.async false
set_option linter.all false
set_option maxRecDepth 100000
set_option maxHeartbeats 8000000
/-! A hall is made. -/
namespace Tf
open PySem PySem.Spec PyProof.Rows L2 TfX TfM
section
variable {P : Program} {w : World} {K : PySem.W.Frag} {mg : Str → Option Value} {base : Heap}
inductive All2 {α β : Type} (R : α → β → Prop) : List α → List β → Prop
  | nil : All2 R [] []
  | cons {a : α} {b : β} {l : List α} {m : List β} : R a b → All2 R l m → All2 R (a :: l) (b :: m)
theorem All2.mono {α β : Type} {R R' : α → β → Prop} (h : ∀ a b, R a b → R' a b) {l : List α} {m : List β} (x : All2 R l m) : All2 R' l m := by
  induction x with
  | nil => exact .nil
  | cons r _ ih => exact .cons (h _ _ r) ih
theorem All2.len {α β : Type} {R : α → β → Prop} {l : List α} {m : List β} (x : All2 R l m) : l.length = m.length := by
  induction x with
  | nil => rfl
  | cons _ _ ih => rw [List.length_cons, List.length_cons, ih]
theorem All2.app {α β : Type} {R : α → β → Prop} {l l' : List α} {m m' : List β} (x : All2 R l m) (y : All2 R l' m') : All2 R (l ++ l') (m ++ m') := by
  induction x with
  | nil => exact y
  | cons r _ ih => exact .cons r ih
theorem All2.at {α β : Type} {R : α → β → Prop} {l : List α} {m : List β} (x : All2 R l m) : ∀ {i : Nat} {v : α}, l[i]? = some v → ∃ b, m[i]? = some b ∧ R v b := by
  induction x with
  | nil =>
    intro i v h
    cases h
  | cons r _ ih =>
    intro i v h
    cases i with
    | zero =>
      cases h
      exact ⟨_, rfl, r⟩
    | succ i => exact ih h
theorem All2.by {α β : Type} {R : α → β → Prop} {l : List α} {m : List β} (x : All2 R l m) : ∀ {i : Nat} {b : β}, m[i]? = some b → ∃ v, l[i]? = some v ∧ R v b := by
  induction x with
  | nil =>
    intro i v h
    cases h
  | cons r _ ih =>
    intro i v h
    cases i with
    | zero =>
      cases h
      exact ⟨_, rfl, r⟩
    | succ i => exact ih h
theorem All2.one {α β : Type} {R : α → β → Prop} {a : α} {b : β} (r : R a b) : All2 R [a] [b] := .cons r .nil
/-- a list of numbers -/
def LsI (H : Hp) (v : V) (x : List Nat) : Prop := ∃ a, v = .ref a ∧ H a = some (.lst (iv x))
def TpI (H : Hp) (v : V) (x : Nat × Nat) : Prop := ∃ a, v = .ref a ∧ H a = some (.tup [.int x.1, .int x.2])
/-- a list of pairs -/
def LsP (H : Hp) (v : V) (x : List (Nat × Nat)) : Prop := ∃ a us, v = .ref a ∧ H a = some (.lst us) ∧ All2 (TpI H) us x
/-- a list of lists of numbers -/
def LsL (H : Hp) (v : V) (x : List (List Nat)) : Prop := ∃ a us, v = .ref a ∧ H a = some (.lst us) ∧ All2 (LsI H) us x
theorem LsI.mono {H H' : Hp} (s : Same H H') {v : V} {x : List Nat} (h : LsI H v x) : LsI H' v x := by
  obtain ⟨a, e, h⟩ := h
  exact ⟨a, e, s _ _ h⟩
theorem TpI.mono {H H' : Hp} (s : Same H H') {v : V} {x : Nat × Nat} (h : TpI H v x) : TpI H' v x := by
  obtain ⟨a, e, h⟩ := h
  exact ⟨a, e, s _ _ h⟩
theorem LsP.mono {H H' : Hp} (s : Same H H') {v : V} {x : List (Nat × Nat)} (h : LsP H v x) : LsP H' v x := by
  obtain ⟨a, us, e, h, t⟩ := h
  exact ⟨a, us, e, s _ _ h, t.mono fun _ _ => TpI.mono s⟩
theorem LsL.mono {H H' : Hp} (s : Same H H') {v : V} {x : List (List Nat)} (h : LsL H v x) : LsL H' v x := by
  obtain ⟨a, us, e, h, t⟩ := h
  exact ⟨a, us, e, s _ _ h, t.mono fun _ _ => LsI.mono s⟩
/-! ### what a hall tells -/
def raysL (ru : Tafl.Rules) (c : Nat) : List (List Nat) := [rayN ru c 0, rayN ru c 1, rayN ru c 2, rayN ru c 3]
def besL (ru : Tafl.Rules) (c : Nat) : List Nat := ((raysL ru c).filter fun l => decide (0 < l.length)).map fun l => l.getD 0 0
def parL (ru : Tafl.Rules) (c : Nat) : List (Nat × Nat) := ((raysL ru c).filter fun l => decide (1 < l.length)).map fun l => (l.getD 0 0, l.getD 1 0)
def wayL (ru : Tafl.Rules) (c : Nat) : List (List Nat) := (raysL ru c).map fun l => l.takeWhile (wayB ru)
def kwyL (ru : Tafl.Rules) (c : Nat) : List (List Nat) := (raysL ru c).map (kwayL ru)
def seatN (ru : Tafl.Rules) : Nat := (glist ru).idxOf 1
def cellsL (ru : Tafl.Rules) : List Nat := (List.range 169).filter (onG ru)
def enmL (ru : Tafl.Rules) : List Nat := (glist ru).map (enmN ru)
def goaL (ru : Tafl.Rules) : List Bool := (List.range 169).map fun c => goalB ru c (gAt ru c)
structure HR where
  pc : Addr
  pg : Addr
  pe : Addr
  po : Addr
  pb : Addr
  pp : Addr
  pw : Addr
  pk : Addr
def haF (ru : Tafl.Rules) (r : HR) : List (Str × V) := [("wide", .int ru.wide), ("high", .int ru.high), ("armed", .int (b2n ru.armed)), ("four", .int (b2n ru.four)), ("cells", .ref r.pc), ("ground", .ref r.pg), ("seat", .int (seatN ru)), ("enmity", .ref r.pe), ("goals", .ref r.po),
  ("beside", .ref r.pb), ("pairs", .ref r.pp), ("ways", .ref r.pw), ("king_ways", .ref r.pk)]
structure HallAt (K : PySem.W.Frag) (H : Hp) (p dx : Addr) (ru : Tafl.Rules) (r : HR) : Prop where
  ins : H p = some (.ins (c_Hall K) dx (haF ru r))
  c : H r.pc = some (.lst (iv (cellsL ru)))
  g : H r.pg = some (.lst (iv (glist ru)))
  e : H r.pe = some (.lst (iv (enmL ru)))
  o : H r.po = some (.lst ((goaL ru).map V.bl))
  b : ∃ vs, H r.pb = some (.lst vs) ∧ All2 (LsI H) vs ((List.range 169).map (besL ru))
  p : ∃ vs, H r.pp = some (.lst vs) ∧ All2 (LsP H) vs ((List.range 169).map (parL ru))
  w : ∃ vs, H r.pw = some (.lst vs) ∧ All2 (LsL H) vs ((List.range 169).map (wayL ru))
  k : ∃ vs, H r.pk = some (.lst vs) ∧ All2 (LsL H) vs ((List.range 169).map (kwyL ru))
theorem HallAt.same {H H' : Hp} {p dx : Addr} {ru : Tafl.Rules} {r : HR} (X : HallAt K H p dx ru r) (s : Same H H') : HallAt K H' p dx ru r := by
  obtain ⟨vb, hb, tb⟩ := X.b
  obtain ⟨vp, hp, tp⟩ := X.p
  obtain ⟨vw, hw, tw⟩ := X.w
  obtain ⟨vk, hk, tk⟩ := X.k
  exact ⟨s _ _ X.ins, s _ _ X.c, s _ _ X.g, s _ _ X.e, s _ _ X.o, ⟨vb, s _ _ hb, tb.mono fun _ _ => LsI.mono s⟩, ⟨vp, s _ _ hp, tp.mono fun _ _ => LsP.mono s⟩, ⟨vw, s _ _ hw, tw.mono fun _ _ => LsL.mono s⟩, ⟨vk, s _ _ hk, tk.mono fun _ _ => LsL.mono s⟩⟩
/-! ### lists that grow -/
def Non (G : Hp) (r : HR) : Prop := G r.pb = none ∧ G r.pp = none ∧ G r.pw = none ∧ G r.pk = none
structure HLo (ru : Tafl.Rules) (ib ip iw ik : Nat) (G H : Hp) (r : HR) : Prop where
  sub : Same G H
  non : Non G r
  b : ∃ vs, H r.pb = some (.lst vs) ∧ All2 (LsI G) vs ((List.range ib).map (besL ru))
  p : ∃ vs, H r.pp = some (.lst vs) ∧ All2 (LsP G) vs ((List.range ip).map (parL ru))
  w : ∃ vs, H r.pw = some (.lst vs) ∧ All2 (LsL G) vs ((List.range iw).map (wayL ru))
  k : ∃ vs, H r.pk = some (.lst vs) ∧ All2 (LsL G) vs ((List.range ik).map (kwyL ru))
structure Dis (r : HR) : Prop where
  bp : r.pb ≠ r.pp
  bw : r.pb ≠ r.pw
  bk : r.pb ≠ r.pk
  pw : r.pp ≠ r.pw
  pk : r.pp ≠ r.pk
  wk : r.pw ≠ r.pk
theorem Same.grow {G H H' : Hp} {D : Addr} {o : HO} (s : Same G H) (t : Same H H') (h : H' D = some o) : Same (L2.upd G D o) H' := fun a u hu => by
  by_cases e : a = D
  · rw [e, upd_same] at hu
    cases hu
    rw [e]
    exact h
  · rw [upd_ne e] at hu
    exact t _ _ (s _ _ hu)
theorem HLo.free {ru : Tafl.Rules} {ib ip iw ik : Nat} {G H : Hp} {r : HR} (L : HLo ru ib ip iw ik G H r) {D : Addr} (n : H D = none) : r.pb ≠ D ∧ r.pp ≠ D ∧ r.pw ≠ D ∧ r.pk ≠ D := by
  obtain ⟨v1, h1, _⟩ := L.b
  obtain ⟨v2, h2, _⟩ := L.p
  obtain ⟨v3, h3, _⟩ := L.w
  obtain ⟨v4, h4, _⟩ := L.k
  exact ⟨ne_of_none h1 n, ne_of_none h2 n, ne_of_none h3 n, ne_of_none h4 n⟩
/-- something new is put into both heaps -/
theorem HLo.grow {ru : Tafl.Rules} {ib ip iw ik : Nat} {G H H' : Hp} {r : HR} (L : HLo ru ib ip iw ik G H r) (t : Same H H') {D : Addr} {o : HO} (n : H D = none) (h : H' D = some o) : HLo ru ib ip iw ik (L2.upd G D o) H' r := by
  have sg : Same G (L2.upd G D o) := Same.upd (L.sub.free n)
  obtain ⟨f1, f2, f3, f4⟩ := L.free n
  obtain ⟨v1, h1, t1⟩ := L.b
  obtain ⟨v2, h2, t2⟩ := L.p
  obtain ⟨v3, h3, t3⟩ := L.w
  obtain ⟨v4, h4, t4⟩ := L.k
  obtain ⟨n1, n2, n3, n4⟩ := L.non
  exact ⟨Same.grow L.sub t h, ⟨by rw [upd_ne f1]; exact n1, by rw [upd_ne f2]; exact n2, by rw [upd_ne f3]; exact n3, by rw [upd_ne f4]; exact n4⟩, ⟨v1, t _ _ h1, t1.mono fun _ _ => LsI.mono sg⟩, ⟨v2, t _ _ h2, t2.mono fun _ _ => LsP.mono sg⟩, ⟨v3, t _ _ h3, t3.mono fun _ _ => LsL.mono sg⟩, ⟨v4, t _ _ h4, t4.mono fun _ _ => LsL.mono sg⟩⟩
theorem range_map {α : Type} (f : Nat → α) (i : Nat) : (List.range (i + 1)).map f = (List.range i).map f ++ [f i] := by
  rw [List.range_succ, List.map_append]
  rfl
section
variable {ru : Tafl.Rules} {ib ip iw ik : Nat} {G H : Hp} {r : HR} {D : Addr} {vs : List V}
theorem sub_upd {q : Addr} {o : HO} (s : Same G H) (n : G q = none) : Same G (L2.upd H q o) := fun a u hu => by
  rw [upd_ne (ne_of_none hu n)]
  exact s _ _ hu
theorem HLo.addB (d : Dis r) (L : HLo ru ib ip iw ik G H r) (h : G D = some (.lst (iv (besL ru ib)))) (hv : H r.pb = some (.lst vs)) : HLo ru (ib + 1) ip iw ik G (L2.upd H r.pb (.lst (vs ++ [.ref D]))) r := by
  obtain ⟨v1, h1, t1⟩ := L.b
  rw [hv] at h1
  cases h1
  refine ⟨sub_upd L.sub L.non.1, L.non, ⟨_, upd_same, ?_⟩, ?_, ?_, ?_⟩
  · rw [range_map]
    exact t1.app (.one ⟨D, rfl, h⟩)
  · rw [upd_ne d.bp.symm]
    exact L.p
  · rw [upd_ne d.bw.symm]
    exact L.w
  · rw [upd_ne d.bk.symm]
    exact L.k
theorem HLo.addP (d : Dis r) (L : HLo ru ib ip iw ik G H r) (h : LsP G (.ref D) (parL ru ip)) (hv : H r.pp = some (.lst vs)) : HLo ru ib (ip + 1) iw ik G (L2.upd H r.pp (.lst (vs ++ [.ref D]))) r := by
  obtain ⟨v1, h1, t1⟩ := L.p
  rw [hv] at h1
  cases h1
  refine ⟨sub_upd L.sub L.non.2.1, L.non, ?_, ⟨_, upd_same, ?_⟩, ?_, ?_⟩
  · rw [upd_ne d.bp]
    exact L.b
  · rw [range_map]
    exact t1.app (.one h)
  · rw [upd_ne d.pw.symm]
    exact L.w
  · rw [upd_ne d.pk.symm]
    exact L.k
theorem HLo.addW (d : Dis r) (L : HLo ru ib ip iw ik G H r) (h : LsL G (.ref D) (wayL ru iw)) (hv : H r.pw = some (.lst vs)) : HLo ru ib ip (iw + 1) ik G (L2.upd H r.pw (.lst (vs ++ [.ref D]))) r := by
  obtain ⟨v1, h1, t1⟩ := L.w
  rw [hv] at h1
  cases h1
  refine ⟨sub_upd L.sub L.non.2.2.1, L.non, ?_, ?_, ⟨_, upd_same, ?_⟩, ?_⟩
  · rw [upd_ne d.bw]
    exact L.b
  · rw [upd_ne d.pw]
    exact L.p
  · rw [range_map]
    exact t1.app (.one h)
  · rw [upd_ne d.wk.symm]
    exact L.k
theorem HLo.addK (d : Dis r) (L : HLo ru ib ip iw ik G H r) (h : LsL G (.ref D) (kwyL ru ik)) (hv : H r.pk = some (.lst vs)) : HLo ru ib ip iw (ik + 1) G (L2.upd H r.pk (.lst (vs ++ [.ref D]))) r := by
  obtain ⟨v1, h1, t1⟩ := L.k
  rw [hv] at h1
  cases h1
  refine ⟨sub_upd L.sub L.non.2.2.2, L.non, ?_, ?_, ?_, ⟨_, upd_same, ?_⟩⟩
  · rw [upd_ne d.bk]
    exact L.b
  · rw [upd_ne d.pk]
    exact L.p
  · rw [upd_ne d.wk]
    exact L.w
  · rw [range_map]
    exact t1.app (.one h)
end
theorem But.free {p : Addr} {H H' : Hp} (b : But p H H') (hp : H' p ≠ none) {q : Addr} (n : H' q = none) : q ≠ p ∧ H q = none := by
  have e : q ≠ p := fun e => hp (by rw [← e]; exact n)
  refine ⟨e, ?_⟩
  cases y : H q with
  | none => rfl
  | some o =>
    rw [b q o y e] at n
    cases n
/-! ### the cells in their order -/
theorem sorted_eq : ∀ {a b : List Int}, a.Perm b → a.Pairwise (· ≤ ·) → b.Pairwise (· ≤ ·) → a = b
  | [], b, h, _, _ => (List.nil_perm.mp h).symm
  | x :: l, b, h, ha, hb => by
    cases b with
    | nil => exact absurd h.symm (by simp)
    | cons y m =>
      have hx : x ∈ y :: m := h.subset List.mem_cons_self
      have hy : y ∈ x :: l := h.symm.subset List.mem_cons_self
      have e1 : y ≤ x := by
        rcases List.mem_cons.mp hx with rfl | hx
        · exact Int.le_refl _
        · exact (List.pairwise_cons.mp hb).1 x hx
      have e2 : x ≤ y := by
        rcases List.mem_cons.mp hy with rfl | hy
        · exact Int.le_refl _
        · exact (List.pairwise_cons.mp ha).1 y hy
      have e : x = y := Int.le_antisymm e2 e1
      subst e
      rw [sorted_eq (List.Perm.cons_inv h) (List.pairwise_cons.mp ha).2 (List.pairwise_cons.mp hb).2]
theorem range_sorted (n : Nat) (f : Nat → Bool) : (((List.range n).filter f).map fun c => ((c : Nat) : Int)).Pairwise (· ≤ ·) := by
  rw [List.pairwise_map]
  refine List.Pairwise.imp ?_ ((List.pairwise_lt_range (n := n)).filter f)
  intro a b h
  exact Int.ofNat_le.mpr (Nat.le_of_lt h)
theorem onG_cell {ru : Tafl.Rules} (S : Shaped ru) {x y : Nat} (hx : x < ru.wide) (hy : y < ru.high) : onG ru (Tafl.cellOf x y) = true ∧ Tafl.cellOf x y < 169 := by
  have w13 := S.w13
  have h13 := S.h13
  obtain ⟨m1, m2⟩ := cell_mod (x := x) (y := y) (by omega)
  unfold onG
  rw [m1, m2, decide_eq_true hx, decide_eq_true hy]
  exact ⟨rfl, cell_lt (by omega) (by omega)⟩
theorem nodup_written (ru : Tafl.Rules) : ru.asWritten.Nodup := by
  unfold Tafl.Rules.asWritten
  unfold List.Nodup
  rw [List.pairwise_flatMap]
  refine ⟨fun i _ => ?_, ?_⟩
  · rw [List.pairwise_map]
    refine List.Pairwise.imp ?_ (List.nodup_range (n := ru.wide))
    intro a b h e
    exact h (Prod.mk.inj e).1
  · refine List.Pairwise.imp_of_mem ?_ (List.pairwise_lt_range (n := ru.high))
    intro a b ha hb h x hx y hy e
    obtain ⟨x1, _, rfl⟩ := List.mem_map.mp hx
    obtain ⟨y1, _, rfl⟩ := List.mem_map.mp hy
    have h1 := List.mem_range.mp ha
    have h2 := List.mem_range.mp hb
    have := (Prod.mk.inj e).2
    omega
theorem cells_perm {ru : Tafl.Rules} (S : Shaped ru) : ((TfM.Rules.gT kIx ru).map fun q => q.1).Perm (cellsL ru) := by
  have w13 := S.w13
  unfold TfM.Rules.gT
  rw [List.map_map]
  refine (List.perm_ext_iff_of_nodup ?_ ?_).mpr fun c => ?_
  · show List.Pairwise _ _
    rw [List.pairwise_map]
    refine List.Pairwise.imp_of_mem ?_ (nodup_written ru)
    intro a b ha hb h e
    have ha' := mem_written.mp ha
    have hb' := mem_written.mp hb
    have e' : Tafl.cellOf a.1 a.2 = Tafl.cellOf b.1 b.2 := e
    obtain ⟨m1, m2⟩ := cell_mod (x := a.1) (y := a.2) (by omega)
    obtain ⟨m3, m4⟩ := cell_mod (x := b.1) (y := b.2) (by omega)
    rw [e'] at m1 m2
    exact h (Prod.ext (m1.symm.trans m3) (m2.symm.trans m4))
  · exact (List.nodup_range (n := 169)).filter _
  · unfold cellsL
    rw [List.mem_filter, List.mem_map, List.mem_range]
    constructor
    · rintro ⟨p, hp, rfl⟩
      have hp' := mem_written.mp hp
      have := onG_cell S hp'.1 hp'.2
      exact ⟨this.2, this.1⟩
    · rintro ⟨h1, h2⟩
      unfold onG at h2
      simp only [Bool.and_eq_true, decide_eq_true_eq] at h2
      refine ⟨(c % 13, c / 13), mem_written.mpr h2, ?_⟩
      show Tafl.cellOf (c % 13) (c / 13) = c
      unfold Tafl.cellOf Tafl.STRIDE
      omega
theorem cells_sorted {ru : Tafl.Rules} (S : Shaped ru) {ns : List Int} (h : ns.Perm ((TfM.Rules.gT kIx ru).map fun q => ((q.1 : Nat) : Int))) (hs : ns.Pairwise (· ≤ ·)) : ns.map V.int = iv (cellsL ru) := by
  have e : ns = (cellsL ru).map fun c => ((c : Nat) : Int) := by
    refine sorted_eq (h.trans ?_) hs (range_sorted 169 (onG ru))
    have y := (cells_perm S).map fun c => ((c : Nat) : Int)
    rw [List.map_map] at y
    exact y
  rw [e, List.map_map]
  rfl
theorem ray_in {w h d : Nat} (hw : w ≤ 13) (hh : h ≤ 13) : ∀ (f : Nat) (x y : Int), ∀ c ∈ walkK w h d f x y, c < 169
  | 0, x, y, c, hc => nomatch hc
  | f + 1, x, y, c, hc => by
    unfold walkK at hc
    split at hc
    · rcases List.mem_cons.mp hc with rfl | hc
      · omega
      · exact ray_in hw hh f _ _ c hc
    · cases hc
theorem rays_in {ru : Tafl.Rules} (S : Shaped ru) {c : Nat} {l : List Nat} (h : l ∈ raysL ru c) : (∀ n ∈ l, n < 169) ∧ l.length ≤ 13 := by
  unfold raysL at h
  have key : ∀ d, (∀ n ∈ rayN ru c d, n < 169) ∧ (rayN ru c d).length ≤ 13 := fun d => ⟨ray_in S.w13 S.h13 13 _ _, walk_len 13 _ _⟩
  simp only [List.mem_cons, List.not_mem_nil, or_false] at h
  rcases h with rfl | rfl | rfl | rfl <;> exact key _
end
end Tf
set_option Elab.async false
set_option linter.all false
set_option maxRecDepth 100000
set_option maxHeartbeats 16000000
/-! Hall.__init__. -/
namespace Tf
open PySem PySem.Spec PyProof.Rows L2 TfX TfM
section
variable {P : Program} {w : World} {K : PySem.W.Frag} {mg : Str → Option Value} {base : Heap}
theorem flat_iv (l : List Nat) : (iv l).all flatV = true := by
  unfold iv
  rw [List.all_map, List.all_eq_true]
  intro x _
  rfl
theorem in_iv (n : Nat) : ∀ l : List Nat, inV (.int n) (iv l) = l.contains n
  | [] => rfl
  | a :: l => by
    have ih := in_iv n l
    unfold inV at *
    show (eqV (.int a) (.int n) || List.any (iv l) fun y => eqV y (.int n)) = _
    rw [ih, List.contains_cons]
    congr 1
    show decide ((a : Int) = (n : Int)) = (n == a)
    rw [Bool.eq_iff_iff]
    simp only [decide_eq_true_eq, beq_iff_eq]
    omega
theorem TextAt.but {H H' : Hp} {t dxt : Addr} {ru : Tafl.Rules} {len : Nat} {pg ps p C dx : Addr} {fs : List (Str × V)} (X : TextAt K H t dxt ru len pg ps) (hp : H p = some (.ins C dx fs)) (n : t ≠ p) (s : But p H H') : TextAt K H' t dxt ru len pg ps :=
  ⟨s _ _ X.ins n, X.g.mono (DSame.but hp s), X.s.mono (DSame.but hp s)⟩
section
variable {ru : Tafl.Rules} {ib ip iw ik : Nat} {G H H' : Hp} {r : HR} {D : Addr} {o : HO}
def Off (r : HR) (D : Addr) : Prop := r.pb ≠ D ∧ r.pp ≠ D ∧ r.pw ≠ D ∧ r.pk ≠ D
/-- another list's change -/
theorem HLo.put (L : HLo ru ib ip iw ik G H r) (n : G D = none) (f : Off r D) : HLo ru ib ip iw ik G (L2.upd H D o) r :=
  ⟨sub_upd L.sub n, L.non, by rw [upd_ne f.1]; exact L.b, by rw [upd_ne f.2.1]; exact L.p, by rw [upd_ne f.2.2.1]; exact L.w, by rw [upd_ne f.2.2.2]; exact L.k⟩
/-- what is there is taken to what stays -/
theorem HLo.take (L : HLo ru ib ip iw ik G H r) (n : G D = none) (f : Off r D) (h : H D = some o) : ∃ G2, Same G G2 ∧ HLo ru ib ip iw ik G2 H r ∧ G2 D = some o ∧ ∀ q, q ≠ D → G q = none → G2 q = none := by
  have sg : Same G (L2.upd G D o) := Same.upd n
  obtain ⟨f1, f2, f3, f4⟩ := f
  obtain ⟨v1, h1, t1⟩ := L.b
  obtain ⟨v2, h2, t2⟩ := L.p
  obtain ⟨v3, h3, t3⟩ := L.w
  obtain ⟨v4, h4, t4⟩ := L.k
  obtain ⟨n1, n2, n3, n4⟩ := L.non
  exact ⟨_, sg, ⟨Same.grow L.sub (Same.refl H) h, ⟨by rw [upd_ne f1]; exact n1, by rw [upd_ne f2]; exact n2, by rw [upd_ne f3]; exact n3, by rw [upd_ne f4]; exact n4⟩, ⟨v1, h1, t1.mono fun _ _ => LsI.mono sg⟩, ⟨v2, h2, t2.mono fun _ _ => LsP.mono sg⟩, ⟨v3, h3, t3.mono fun _ _ => LsL.mono sg⟩, ⟨v4, h4, t4.mono fun _ _ => LsL.mono sg⟩⟩, upd_same, fun q hq hn => by rw [upd_ne hq]; exact hn⟩
theorem HLo.same (L : HLo ru ib ip iw ik G H r) (s : Same H H') : HLo ru ib ip iw ik G H' r := by
  obtain ⟨v1, h1, t1⟩ := L.b
  obtain ⟨v2, h2, t2⟩ := L.p
  obtain ⟨v3, h3, t3⟩ := L.w
  obtain ⟨v4, h4, t4⟩ := L.k
  exact ⟨L.sub.trans s, L.non, ⟨v1, s _ _ h1, t1⟩, ⟨v2, s _ _ h2, t2⟩, ⟨v3, s _ _ h3, t3⟩, ⟨v4, s _ _ h4, t4⟩⟩
/-- something new -/
theorem HLo.new (L : HLo ru ib ip iw ik G H r) (s : Same H H') (n : H D = none) (h : H' D = some o) : ∃ G2, Same G G2 ∧ HLo ru ib ip iw ik G2 H' r ∧ G2 D = some o ∧ ∀ q, q ≠ D → G q = none → G2 q = none :=
  (L.same s).take (L.sub.free n) (L.free n) h
theorem HLo.lens (L : HLo ru ib ip iw ik G H r) : (∀ vs, H r.pb = some (.lst vs) → vs.length = ib) ∧ (∀ vs, H r.pp = some (.lst vs) → vs.length = ip) ∧ (∀ vs, H r.pw = some (.lst vs) → vs.length = iw) ∧ (∀ vs, H r.pk = some (.lst vs) → vs.length = ik) := by
  obtain ⟨v1, h1, t1⟩ := L.b
  obtain ⟨v2, h2, t2⟩ := L.p
  obtain ⟨v3, h3, t3⟩ := L.w
  obtain ⟨v4, h4, t4⟩ := L.k
  have l1 := t1.len
  have l2 := t2.len
  have l3 := t3.len
  have l4 := t4.len
  rw [List.length_map, List.length_range] at l1 l2 l3 l4
  refine ⟨fun vs h => ?_, fun vs h => ?_, fun vs h => ?_, fun vs h => ?_⟩
  · rw [h1] at h
    cases h
    exact l1
  · rw [h2] at h
    cases h
    exact l2
  · rw [h3] at h
    cases h
    exact l3
  · rw [h4] at h
    cases h
    exact l4
end
theorem seat_read {H : Hp} {p dx G C : Addr} {fs : List (Str × V)} {ru : Tafl.Rules} {σ : L2.St} {Q : VK} (hC : Cls K C) (hN : NoAttr K C "ground") (h0 : σ[0]? = some (some (.ref p))) (hp : H p = some (.ins C dx fs)) (hl : fs.lookup ("ground" : Str) = some (.ref G)) (hG : H G = some (.lst (iv (glist ru)))) (q : Q (.int (seatN ru)) H) :
    tIf (tTest (tOp (rIn K false) (tC (.int 1)) (tFld K (tVar 0) "ground"))) (tBM K "list" (rIndex K) (tFld K (tVar 0) "ground") (tCons (tC (.int 1)) tNil)) (tC (.int 169)) σ H Q := by
  have e : inV (.int 1) (iv (glist ru)) = (glist ru).contains 1 := in_iv 1 _
  refine ⟨_, h0, p, C, dx, fs, _, rfl, hp, hC, hN, hl, G, _, rfl, .inl (SqL.of hG), rfl, flat_iv _, _, rfl, ?_⟩
  show if inV (.int 1) (iv (glist ru)) = true then _ else _
  rw [e]
  refine ifB (fun h1 => ?_) fun h1 => ?_
  · have hm : 1 ∈ glist ru := List.contains_iff_mem.mp h1
    have hlt : (glist ru).idxOf 1 < (glist ru).length := List.idxOf_lt_length_of_mem hm
    refine ⟨_, h0, p, C, dx, fs, _, rfl, hp, hC, hN, hl, tyL hG, G, _, _, (glist ru).idxOf 1, .int 1, rfl, rfl, SqL.of hG, rfl, flat_iv _, ?_, rfl, ?_, q⟩
    · have y := iv_at (l := glist ru) (i := (glist ru).idxOf 1) (n := 1) (by rw [List.getElem?_eq_getElem hlt, List.getElem_idxOf hlt])
      exact y
    · intro m z hm2 hz
      obtain ⟨n, hn, rfl⟩ := iv_get hz
      show ((n : Int) == 1) = false
      have y := List.not_of_lt_findIdx (p := fun x => x == 1) (xs := glist ru) (i := m) hm2
      have hml : m < (glist ru).length := by omega
      rw [List.getElem?_eq_getElem hml] at hn
      cases hn
      have y2 : ¬ (glist ru)[m] = 1 := by simpa using y
      simp only [beq_eq_false_iff_ne]
      omega
  · have hm : ¬ 1 ∈ glist ru := fun hm => by rw [List.contains_iff_mem.mpr hm] at h1; cases h1
    have e2 : seatN ru = 169 := by
      unfold seatN
      rw [List.idxOf_eq_length hm, glist_len]
    rw [e2] at q
    exact q
def spHallInit (K : PySem.W.Frag) : Sp := fun vs H Q _ => ∃ (p dx t dxt : Addr) (ru : Tafl.Rules) (len : Nat) (pg ps : Addr), vs = [.ref p, .ref t] ∧ H p = some (.ins (c_Hall K) dx []) ∧ TextAt K H t dxt ru len pg ps ∧ Shaped ru ∧
  ∀ Gh H' r, HallAt K Gh p dx ru r → Same Gh H' → (∀ a, H a ≠ none → a ≠ p → Gh a = none) → But p H H' → Q .non H'
def OffH (H : Hp) (p : Addr) (G : Hp) : Prop := ∀ a, H a ≠ none → a ≠ p → G a = none
theorem OffH.step {H G G2 : Hp} {p D : Addr} (o : OffH H p G) (k : ∀ q, q ≠ D → G q = none → G2 q = none) (n : H D = none) : OffH H p G2 := fun a h1 h2 => k a (fun e => h1 (by rw [e]; exact n)) (o a h1 h2)
theorem But.put {H H2 : Hp} {p D : Addr} {o : HO} (b : But p H H2) (n : H D = none) : But p H (L2.upd H2 D o) := fun a u hu na => by
  rw [upd_ne (ne_of_none hu n)]
  exact b a u hu na
theorem ok_Hall_init (T : Txt K mg) : FnOk P w K mg base CX0 3 (a_Hall_init K) T.fd_Hall_init p_Hall_init (spHallInit K) := by
  refine T.F_Hall_init.ok sc_Hall_init (fun vs H Q E h => ?_) (fun cdv A outer s H vs Q E hr h => ⟨_, PSs.nox (pss_cons (ps_fld (pv 0) (pe_fld (pv 1) rfl) rfl)
      (pss_cons (ps_fld (pv 0) (pe_fld (pv 1) rfl) rfl)
      (pss_cons (ps_fld (pv 0) (pe_fld (pv 1) rfl) rfl)
      (pss_cons (ps_fld (pv 0) (pe_fld (pv 1) rfl) rfl)
      (pss_cons (ps_fld (pv 0) (pe_callB cr_sortedI (by rfl) T.m_sorted (by decide +kernel) (pa_cons (pe_lc (own := [("cell", 2), ("what", 4), ("place", 5)]) (g := (gTup K 3 (gCons (gName 2) (gCons (gName 4) (gCons (gName 5) gNil))))) rfl sc_Hall_init.nd (pi_list (pe_fld (pv 1) rfl)) (blkOk_by (own := [("cell", 2), ("what", 4), ("place", 5)]) (N := n_Hall_init) (sc := defScope s_Hall_init) (by decide +kernel)) (fun _ _ _ _ _ => (pg_tup rfl (pgs_cons (pg_name (i := 2) sc_Hall_init.nd rfl (Or.inl rfl)) (pgs_cons (pg_name (i := 4) sc_Hall_init.nd rfl (Or.inl rfl)) (pgs_cons (pg_name (i := 5) sc_Hall_init.nd rfl (Or.inl rfl)) pgs_nil))))) (fun _ _ _ _ _ => pts_nil) (fun _ _ _ _ _ => (pv 2))) pa_nil)) rfl)
      (pss_cons (ps_fld (pv 0) (pe_call (ok_ground_list T) (hr.mono (by decide)) rfl T.g_ground_list T.F_ground_list.kp (b_ground_list T) .nil pass0 (pa_cons (pv 1) pa_nil)) rfl)
      (pss_cons (ps_fld (pv 0) (pe_ifExp (pt_cmpR op_in_seq (pe_glob (v := .int 1) rfl T.c_SEAT ⟨_, rfl⟩) (pe_fld (pv 0) rfl) rfl) (pe_bm PySem.F.plainAttrs_list PySem.F.slot_list_index PySem.F.type_list_index mt_index (pe_fld (pv 0) rfl) (pa_cons (pe_glob (v := .int 1) rfl T.c_SEAT ⟨_, rfl⟩) pa_nil)) (pe_glob (v := .int 169) rfl T.c_NOWHERE ⟨_, rfl⟩)) rfl)
      (pss_cons (ps_fld (pv 0) (pe_lc (own := [("what", 4)]) (g := (gName 4)) rfl sc_Hall_init.nd (pi_list (pe_fld (pv 0) rfl)) (blkOk_by (own := [("what", 4)]) (N := n_Hall_init) (sc := defScope s_Hall_init) (by decide +kernel)) (fun _ _ _ _ _ => (pg_name (i := 4) sc_Hall_init.nd rfl (Or.inl rfl))) (fun _ _ _ _ _ => pts_nil) (fun _ _ _ _ _ => (pe_call (ok_enmity_of T) (hr.mono (by decide)) rfl T.g_enmity_of T.F_enmity_of.kp (b_enmity_of T) .nil pass0 (pa_cons (pv 1) (pa_cons (pv 4) pa_nil))))) rfl)
      (pss_cons (ps_fld (pv 0) (pe_lc (own := [("cell", 2), ("what", 4)]) (g := (gTup K 2 (gCons (gName 2) (gCons (gName 4) gNil)))) rfl sc_Hall_init.nd (pi_enum rfl T.m_enumerate (pa_cons (pe_fld (pv 0) rfl) pa_nil)) (blkOk_by (own := [("cell", 2), ("what", 4)]) (N := n_Hall_init) (sc := defScope s_Hall_init) (by decide +kernel)) (fun _ _ _ _ _ => (pg_tup rfl (pgs_cons (pg_name (i := 2) sc_Hall_init.nd rfl (Or.inl rfl)) (pgs_cons (pg_name (i := 4) sc_Hall_init.nd rfl (Or.inl rfl)) pgs_nil)))) (fun _ _ _ _ _ => pts_nil) (fun _ _ _ _ _ => (pe_call (ok_is_goal T) (hr.mono (by decide)) rfl T.g_is_goal T.F_is_goal.kp (b_is_goal T) .nil pass0 (pa_cons (pv 1) (pa_cons (pv 2) (pa_cons (pv 4) pa_nil)))))) rfl)
      (pss_cons (ps_fld (pv 0) (pe_lst pa_nil) rfl)
      (pss_cons (ps_fld (pv 0) (pe_lst pa_nil) rfl)
      (pss_cons (ps_fld (pv 0) (pe_lst pa_nil) rfl)
      (pss_cons (ps_fld (pv 0) (pe_lst pa_nil) rfl)
      (pss_one (ps_for PassesOwn.never rfl (pi_range1 rfl T.m_range (pa_cons (pe_glob (v := .int 169) rfl T.c_CELLS ⟨_, rfl⟩) pa_nil)) (pg_name (i := 2) sc_Hall_init.nd rfl (Or.inl rfl)) (pss_cons (ps_set (i := 3) sc_Hall_init.nd rfl (Or.inl rfl) (pe_lst (pa_cons (pe_call (ok_ray T) (hr.mono (by decide)) rfl T.g_ray T.F_ray.kp (b_ray T) .nil pass0 (pa_cons (pv 1) (pa_cons (pv 2) (pa_cons pe_int (pa_cons pe_int pa_nil))))) (pa_cons (pe_call (ok_ray T) (hr.mono (by decide)) rfl T.g_ray T.F_ray.kp (b_ray T) .nil pass0 (pa_cons (pv 1) (pa_cons (pv 2) (pa_cons pe_int (pa_cons pe_int pa_nil))))) (pa_cons (pe_call (ok_ray T) (hr.mono (by decide)) rfl T.g_ray T.F_ray.kp (b_ray T) .nil pass0 (pa_cons (pv 1) (pa_cons (pv 2) (pa_cons pe_int (pa_cons (pe_un un_neg pe_int) pa_nil))))) (pa_cons (pe_call (ok_ray T) (hr.mono (by decide)) rfl T.g_ray T.F_ray.kp (b_ray T) .nil pass0 (pa_cons (pv 1) (pa_cons (pv 2) (pa_cons (pe_un un_neg pe_int) (pa_cons pe_int pa_nil))))) pa_nil))))))
      (pss_cons (ps_expr (pe_bm PySem.F.plainAttrs_list PySem.F.slot_list_append PySem.F.type_list_append mt_append (pe_fld (pv 0) rfl) (pa_cons (pe_lc (own := [("cells", 6)]) (g := (gName 6)) rfl sc_Hall_init.nd (pi_list (pv 3)) (blkOk_by (own := [("cells", 6)]) (N := n_Hall_init) (sc := defScope s_Hall_init) (by decide +kernel)) (fun _ _ _ _ _ => (pg_name (i := 6) sc_Hall_init.nd rfl (Or.inl rfl))) (fun _ _ _ _ _ => (pts_one (pt_cmpR op_gt (pe_callB (call_len_seqK (K := K) rfl) (by rfl) T.m_len (by decide +kernel) (pa_cons (pv 6) pa_nil)) pe_int (nomark _)))) (fun _ _ _ _ _ => (pe_ix (ix_listK (K := K) rfl) (pv 6) pe_int (fun _ _ => rfl)))) pa_nil)))
      (pss_cons (ps_expr (pe_bm PySem.F.plainAttrs_list PySem.F.slot_list_append PySem.F.type_list_append mt_append (pe_fld (pv 0) rfl) (pa_cons (pe_lc (own := [("cells", 6)]) (g := (gName 6)) rfl sc_Hall_init.nd (pi_list (pv 3)) (blkOk_by (own := [("cells", 6)]) (N := n_Hall_init) (sc := defScope s_Hall_init) (by decide +kernel)) (fun _ _ _ _ _ => (pg_name (i := 6) sc_Hall_init.nd rfl (Or.inl rfl))) (fun _ _ _ _ _ => (pts_one (pt_cmpR op_gt (pe_callB (call_len_seqK (K := K) rfl) (by rfl) T.m_len (by decide +kernel) (pa_cons (pv 6) pa_nil)) pe_int (nomark _)))) (fun _ _ _ _ _ => (pe_tup (pa_cons (pe_ix (ix_listK (K := K) rfl) (pv 6) pe_int (fun _ _ => rfl)) (pa_cons (pe_ix (ix_listK (K := K) rfl) (pv 6) pe_int (fun _ _ => rfl)) pa_nil))))) pa_nil)))
      (pss_cons (ps_expr (pe_bm PySem.F.plainAttrs_list PySem.F.slot_list_append PySem.F.type_list_append mt_append (pe_fld (pv 0) rfl) (pa_cons (pe_lc (own := [("cells", 6)]) (g := (gName 6)) rfl sc_Hall_init.nd (pi_list (pv 3)) (blkOk_by (own := [("cells", 6)]) (N := n_Hall_init) (sc := defScope s_Hall_init) (by decide +kernel)) (fun _ _ _ _ _ => (pg_name (i := 6) sc_Hall_init.nd rfl (Or.inl rfl))) (fun _ _ _ _ _ => pts_nil) (fun _ _ _ _ _ => (pe_call (ok_way T) (hr.mono (by decide)) rfl T.g_way T.F_way.kp (b_way T) .nil pass0 (pa_cons (pv 1) (pa_cons (pe_fldK (K := K) rfl (pv 0) rfl) (pa_cons (pv 6) pa_nil)))))) pa_nil)))
      (pss_one (ps_expr (pe_bm PySem.F.plainAttrs_list PySem.F.slot_list_append PySem.F.type_list_append mt_append (pe_fld (pv 0) rfl) (pa_cons (pe_lc (own := [("cells", 6)]) (g := (gName 6)) rfl sc_Hall_init.nd (pi_list (pv 3)) (blkOk_by (own := [("cells", 6)]) (N := n_Hall_init) (sc := defScope s_Hall_init) (by decide +kernel)) (fun _ _ _ _ _ => (pg_name (i := 6) sc_Hall_init.nd rfl (Or.inl rfl))) (fun _ _ _ _ _ => pts_nil) (fun _ _ _ _ _ => (pe_call (ok_king_way T) (hr.mono (by decide)) rfl T.g_king_way T.F_king_way.kp (b_king_way T) .nil pass0 (pa_cons (pv 1) (pa_cons (pe_fldK (K := K) rfl (pv 0) rfl) (pa_cons (pv 6) pa_nil)))))) pa_nil))))))))))))))))))))))), ?_⟩)
  · obtain ⟨p, dx, t, dxt, ru, len, pg, ps, rfl, _⟩ := h
    rfl
  · obtain ⟨p, dx, t, dxt, ru, len, pg, ps, rfl, hp, X, S, q⟩ := h
    have ne : t ≠ p := ne_of X.ins hp (by intro z; injection z with z1 z2 z3; cases z3)
    have Xb : ∀ {H'}, But p H H' → TextAt K H' t dxt ru len pg ps := fun b => X.but hp ne b
    refine ⟨_, rfl, t, _, dxt, _, _, rfl, X.ins, T.cl_RulesText, T.na_RulesText_wide, rfl, _, rfl, p, _, dx, [], rfl, hp, T.cl_Hall, T.na_Hall_wide, (by show 0 < 1000; decide), ?_⟩
    generalize hH1 : L2.upd H p _ = H1
    have b1 : But p H H1 := by rw [← hH1]; exact But.upd
    have p1 : H1 p = some (.ins (c_Hall K) dx [("wide", .int ru.wide)]) := by rw [← hH1]; exact upd_same
    refine ⟨_, rfl, t, _, dxt, _, _, rfl, (Xb b1).ins, T.cl_RulesText, T.na_RulesText_high, rfl, _, rfl, p, _, dx, _, rfl, p1, T.cl_Hall, T.na_Hall_high, (by show 1 < 1000; decide), ?_⟩
    generalize hH2 : L2.upd H1 p _ = H2
    have b2 : But p H H2 := by rw [← hH2]; exact b1.trans But.upd
    have p2 : H2 p = some (.ins (c_Hall K) dx [("wide", .int ru.wide), ("high", .int ru.high)]) := by rw [← hH2]; exact upd_same
    refine ⟨_, rfl, t, _, dxt, _, _, rfl, (Xb b2).ins, T.cl_RulesText, T.na_RulesText_armed, rfl, _, rfl, p, _, dx, _, rfl, p2, T.cl_Hall, T.na_Hall_armed, (by show 2 < 1000; decide), ?_⟩
    generalize hH3 : L2.upd H2 p _ = H3
    have b3 : But p H H3 := by rw [← hH3]; exact b2.trans But.upd
    have p3 : H3 p = some (.ins (c_Hall K) dx [("wide", .int ru.wide), ("high", .int ru.high), ("armed", .int (b2n ru.armed))]) := by rw [← hH3]; exact upd_same
    refine ⟨_, rfl, t, _, dxt, _, _, rfl, (Xb b3).ins, T.cl_RulesText, T.na_RulesText_four, rfl, _, rfl, p, _, dx, _, rfl, p3, T.cl_Hall, T.na_Hall_four, (by show 3 < 1000; decide), ?_⟩
    generalize hH4 : L2.upd H3 p _ = H4
    have b4 : But p H H4 := by rw [← hH4]; exact b3.trans But.upd
    have p4 : H4 p = some (.ins (c_Hall K) dx [("wide", .int ru.wide), ("high", .int ru.high), ("armed", .int (b2n ru.armed)), ("four", .int (b2n ru.four))]) := by rw [← hH4]; exact upd_same
    clear hH1 hH2 hH3 hH4 p1 p2 p3 b1 b2 b3
    have X4 := Xb b4
    -- the cells
    obtain ⟨vg, hg, TG⟩ := X4.g.ex
    rw [ground_rows S] at TG
    have hvl : vg.length = (TfM.Rules.gT kIx ru).length := by rw [TG.len, List.length_map]
    have hgl := (gT_len S).1
    refine ⟨_, rfl, t, _, dxt, _, _, rfl, X4.ins, T.cl_RulesText, T.na_RulesText_ground, rfl, pg, rfl, ⟨_, SqL.of hg⟩, fun D nD => ?_⟩
    have sD : ∀ o, Same H4 (L2.upd H4 D o) := fun o => Same.upd nD
    refine lc_list (K := K) (a := pg) (xs := vg) (fun i H2 => H2 = L2.upd H4 D (.lst (((TfM.Rules.gT kIx ru).take i).map fun q => V.int q.1))) rfl (fun i H2 _ e => by rw [e]; exact SqL.of (sD _ _ _ hg)) ?_ ?_
    · rintro i x H2 hx rfl
      obtain ⟨t', a, ht, rfl, ha⟩ := t3_at TG hx
      refine ⟨a, _, rfl, SqT.of (sD _ _ _ ha), rfl, _, _, rfl, _, _, rfl, _, _, rfl, rfl, rfl, ?_⟩
      refine ⟨_, rfl, _, upd_same, ?_, ?_⟩
      · rw [List.length_map, List.length_take]
        exact line1000 (by omega)
      · rw [upd_upd, List.take_add_one, ht, List.map_append]
        rfl
    rintro H5 rfl
    rw [hvl, List.take_length]
    refine ⟨D, (TfM.Rules.gT kIx ru).map fun q => ((q.1 : Nat) : Int), rfl, SqL.of (by rw [upd_same, List.map_map]; rfl), fun ns pc hperm hsort npc => ?_⟩
    rw [cells_sorted S hperm hsort]
    refine ⟨_, rfl, p, _, dx, _, rfl, (sD _).trans (Same.upd npc) _ _ p4, T.cl_Hall, T.na_Hall_cells, (by show 4 < 1000; decide), ?_⟩
    generalize hH5 : L2.upd (L2.upd (L2.upd H4 D _) pc _) p _ = H5
    have b5 : But p H H5 := by rw [← hH5]; exact (b4.same ((sD _).trans (Same.upd npc))).trans But.upd
    have p5 : H5 p = some (.ins (c_Hall K) dx [("wide", .int ru.wide), ("high", .int ru.high), ("armed", .int (b2n ru.armed)), ("four", .int (b2n ru.four)), ("cells", .ref pc)]) := by rw [← hH5]; exact upd_same
    have npp : pc ≠ p := fun e => by
      rw [e] at npc
      rw [sD _ _ _ p4] at npc
      cases npc
    have c5 : H5 pc = some (.lst (iv (cellsL ru))) := by rw [← hH5, upd_ne npp]; exact upd_same
    have fpc : H pc = none := (b4.free (by rw [p4]; exact Option.some_ne_none _) (Same.free (sD _) npc)).2
    clear hH5 hg TG hvl hgl npc
    -- the ground
    refine ⟨_, rfl, t, dxt, ru, len, pg, ps, rfl, Xb b5, S, fun H6 G s6 nG hG => ?_⟩
    refine ⟨_, rfl, p, _, dx, _, rfl, s6 _ _ p5, T.cl_Hall, T.na_Hall_ground, (by show 5 < 1000; decide), ?_⟩
    generalize hH7 : L2.upd H6 p _ = H7
    have b7 : But p H H7 := by rw [← hH7]; exact (b5.same s6).trans But.upd
    have p7 : H7 p = some (.ins (c_Hall K) dx [("wide", .int ru.wide), ("high", .int ru.high), ("armed", .int (b2n ru.armed)), ("four", .int (b2n ru.four)), ("cells", .ref pc), ("ground", .ref G)]) := by rw [← hH7]; exact upd_same
    have c7 : H7 pc = some (.lst (iv (cellsL ru))) := by rw [← hH7, upd_ne npp]; exact s6 _ _ c5
    have nGp : G ≠ p := fun e => by rw [e, p5] at nG; cases nG
    have g7 : H7 G = some (.lst (iv (glist ru))) := by rw [← hH7, upd_ne nGp]; exact hG
    have fG : H G = none := (b5.free (by rw [p5]; exact Option.some_ne_none _) nG).2
    clear hH7 hG nG s6 c5 p5 b5
    -- the seat
    refine seat_read (K := K) T.cl_Hall T.na_Hall_ground rfl p7 rfl g7 ?_
    refine ⟨_, rfl, p, _, dx, _, rfl, p7, T.cl_Hall, T.na_Hall_seat, (by show 6 < 1000; decide), ?_⟩
    generalize hH8 : L2.upd H7 p _ = H8
    have b8 : But p H H8 := by rw [← hH8]; exact b7.trans But.upd
    have p8 : H8 p = some (.ins (c_Hall K) dx [("wide", .int ru.wide), ("high", .int ru.high), ("armed", .int (b2n ru.armed)), ("four", .int (b2n ru.four)), ("cells", .ref pc), ("ground", .ref G), ("seat", .int (seatN ru))]) := by rw [← hH8]; exact upd_same
    have c8 : H8 pc = some (.lst (iv (cellsL ru))) := by rw [← hH8, upd_ne npp]; exact c7
    have g8 : H8 G = some (.lst (iv (glist ru))) := by rw [← hH8, upd_ne nGp]; exact g7
    clear hH8 p7 b7 c7 g7
    -- enmity
    refine ⟨_, rfl, p, _, dx, _, _, rfl, p8, T.cl_Hall, T.na_Hall_ground, rfl, G, rfl, ⟨_, SqL.of g8⟩, fun pe ne8 => ?_⟩
    have sE : ∀ o, Same H8 (L2.upd H8 pe o) := fun o => Same.upd ne8
    refine lc_list (K := K) (a := G) (xs := iv (glist ru)) (fun i H2 => H2 = L2.upd H8 pe (.lst (iv (((glist ru).take i).map (enmN ru))))) rfl (fun i H2 _ e => by rw [e]; exact SqL.of (sE _ _ _ g8)) ?_ ?_
    · rintro i x H2 hx rfl
      obtain ⟨g, hg, rfl⟩ := iv_get hx
      refine ⟨rfl, _, rfl, _, rfl, t, dxt, ru, len, pg, ps, g, rfl, Xb (b8.same (sE _)), _, upd_same, ?_, ?_⟩
      · rw [iv_len, List.length_map, List.length_take, glist_len]
        exact line1000 (by omega)
      · rw [upd_upd, iv_app1, List.take_add_one, hg, List.map_append]
        rfl
    rintro H2 rfl
    rw [iv_len, List.take_length]
    refine ⟨_, rfl, p, _, dx, _, rfl, sE _ _ _ p8, T.cl_Hall, T.na_Hall_enmity, (by show 7 < 1000; decide), ?_⟩
    generalize hH9 : L2.upd (L2.upd H8 pe _) p _ = H9
    have nep : pe ≠ p := fun e => by rw [e, p8] at ne8; cases ne8
    have b9 : But p H H9 := by rw [← hH9]; exact (b8.same (sE _)).trans But.upd
    have p9 : H9 p = some (.ins (c_Hall K) dx [("wide", .int ru.wide), ("high", .int ru.high), ("armed", .int (b2n ru.armed)), ("four", .int (b2n ru.four)), ("cells", .ref pc), ("ground", .ref G), ("seat", .int (seatN ru)), ("enmity", .ref pe)]) := by rw [← hH9]; exact upd_same
    have c9 : H9 pc = some (.lst (iv (cellsL ru))) := by rw [← hH9, upd_ne npp]; exact sE _ _ _ c8
    have g9 : H9 G = some (.lst (iv (glist ru))) := by rw [← hH9, upd_ne nGp]; exact sE _ _ _ g8
    have e9 : H9 pe = some (.lst (iv (enmL ru))) := by rw [← hH9, upd_ne nep]; exact upd_same
    have fpe : H pe = none := (b8.free (by rw [p8]; exact Option.some_ne_none _) ne8).2
    clear hH9 p8 b8 c8 g8 ne8 sE
    -- goals
    refine ⟨_, rfl, p, _, dx, _, _, rfl, p9, T.cl_Hall, T.na_Hall_ground, rfl, G, _, rfl, SqL.of g9, fun po no9 => ?_⟩
    refine lc_it (walk_enum (K := K) (a := G) (xs := iv (glist ru))) (fun i H2 => Same H9 H2 ∧ H2 po = some (.lst (((goaL ru).take i).map V.bl))) ⟨Same.upd no9, upd_same⟩ (fun i H2 _ e => SqL.of (e.1 _ _ g9)) ?_ ?_
    · rintro i x H2 H3 hi ⟨s2, h2⟩ ⟨Tp, xv, yv, rfl, nT, rfl, e1, e2⟩
      cases e1
      obtain ⟨g, hg, rfl⟩ := iv_get e2
      have hi' : i < 169 := by rw [iv_len, glist_len] at hi; exact hi
      have eg : g = gAt ru i := by
        have y := gAt_eq (ru := ru) hi'
        rw [hg] at y
        exact Option.some.inj y
      have s3 : Same H9 (L2.upd H2 Tp (.tup [.int (i : Nat), .int g])) := s2.trans (Same.upd nT)
      have h3 : (L2.upd H2 Tp (.tup [V.int (i : Nat), V.int g])) po = some (.lst (((goaL ru).take i).map V.bl)) := by
        rw [upd_ne (ne_of_none h2 nT)]
        exact h2
      refine ⟨Tp, _, rfl, SqT.of upd_same, rfl, _, _, rfl, _, _, rfl, rfl, rfl, ?_⟩
      refine ⟨_, rfl, _, rfl, _, rfl, t, dxt, ru, len, pg, ps, i, g, rfl, Xb (b9.same s3), _, h3, ?_, ?_⟩
      · rw [List.length_map, List.length_take]
        exact line1000 (by omega)
      · refine ⟨fun a o ho => ?_, ?_⟩
        · rw [upd_ne (ne_of_none ho no9)]
          exact s3 _ _ ho
        · rw [upd_same, List.take_add_one, List.map_append]
          have y : (goaL ru)[i]? = some (goalB ru i (gAt ru i)) := by
            unfold goaL
            rw [List.getElem?_map, List.getElem?_range hi']
            rfl
          rw [y, eg]
          rfl
    rintro H10 ⟨s10, h10⟩
    have e10 : ((goaL ru).take (iv (glist ru)).length).map V.bl = (goaL ru).map V.bl := by
      rw [iv_len, glist_len, List.take_of_length_le]
      unfold goaL
      rw [List.length_map, List.length_range]
      exact Nat.le_refl _
    rw [e10] at h10
    refine ⟨_, rfl, p, _, dx, _, rfl, s10 _ _ p9, T.cl_Hall, T.na_Hall_goals, (by show 8 < 1000; decide), ?_⟩
    generalize hH11 : L2.upd H10 p _ = H11
    have nop : po ≠ p := fun e => by rw [e, p9] at no9; cases no9
    have b11 : But p H H11 := by rw [← hH11]; exact (b9.same s10).trans But.upd
    have p11 : H11 p = some (.ins (c_Hall K) dx [("wide", .int ru.wide), ("high", .int ru.high), ("armed", .int (b2n ru.armed)), ("four", .int (b2n ru.four)), ("cells", .ref pc), ("ground", .ref G), ("seat", .int (seatN ru)), ("enmity", .ref pe), ("goals", .ref po)]) := by rw [← hH11]; exact upd_same
    have c11 : H11 pc = some (.lst (iv (cellsL ru))) := by rw [← hH11, upd_ne npp]; exact s10 _ _ c9
    have g11 : H11 G = some (.lst (iv (glist ru))) := by rw [← hH11, upd_ne nGp]; exact s10 _ _ g9
    have e11 : H11 pe = some (.lst (iv (enmL ru))) := by rw [← hH11, upd_ne nep]; exact s10 _ _ e9
    have o11 : H11 po = some (.lst ((goaL ru).map V.bl)) := by rw [← hH11, upd_ne nop]; exact h10
    have fpo : H po = none := (b9.free (by rw [p9]; exact Option.some_ne_none _) no9).2
    clear hH11 p9 b9 c9 g9 e9 no9 s10 h10 e10
    -- four empty lists
    refine ⟨Nat.zero_le _, fun pb nb => ⟨_, rfl, p, _, dx, _, rfl, Same.upd nb _ _ p11, T.cl_Hall, T.na_Hall_beside, (by show 9 < 1000; decide), ?_⟩⟩
    generalize hHa : L2.upd (L2.upd H11 pb _) p _ = Ha
    have ba : But p (L2.upd H11 pb (.lst [])) Ha := by rw [← hHa]; exact But.upd
    have pa : Ha p = some (.ins (c_Hall K) dx [("wide", .int ru.wide), ("high", .int ru.high), ("armed", .int (b2n ru.armed)), ("four", .int (b2n ru.four)), ("cells", .ref pc), ("ground", .ref G), ("seat", .int (seatN ru)), ("enmity", .ref pe), ("goals", .ref po), ("beside", .ref pb)]) := by rw [← hHa]; exact upd_same
    clear hHa
    refine ⟨Nat.zero_le _, fun pp np => ⟨_, rfl, p, _, dx, _, rfl, Same.upd np _ _ pa, T.cl_Hall, T.na_Hall_pairs, (by show 10 < 1000; decide), ?_⟩⟩
    generalize hHb : L2.upd (L2.upd Ha pp _) p _ = Hb
    have bb : But p (L2.upd Ha pp (.lst [])) Hb := by rw [← hHb]; exact But.upd
    have pb' : Hb p = some (.ins (c_Hall K) dx [("wide", .int ru.wide), ("high", .int ru.high), ("armed", .int (b2n ru.armed)), ("four", .int (b2n ru.four)), ("cells", .ref pc), ("ground", .ref G), ("seat", .int (seatN ru)), ("enmity", .ref pe), ("goals", .ref po), ("beside", .ref pb), ("pairs", .ref pp)]) := by rw [← hHb]; exact upd_same
    clear hHb
    refine ⟨Nat.zero_le _, fun pw nw => ⟨_, rfl, p, _, dx, _, rfl, Same.upd nw _ _ pb', T.cl_Hall, T.na_Hall_ways, (by show 11 < 1000; decide), ?_⟩⟩
    generalize hHc : L2.upd (L2.upd Hb pw _) p _ = Hc
    have bc : But p (L2.upd Hb pw (.lst [])) Hc := by rw [← hHc]; exact But.upd
    have pc' : Hc p = some (.ins (c_Hall K) dx [("wide", .int ru.wide), ("high", .int ru.high), ("armed", .int (b2n ru.armed)), ("four", .int (b2n ru.four)), ("cells", .ref pc), ("ground", .ref G), ("seat", .int (seatN ru)), ("enmity", .ref pe), ("goals", .ref po), ("beside", .ref pb), ("pairs", .ref pp), ("ways", .ref pw)]) := by rw [← hHc]; exact upd_same
    clear hHc
    refine ⟨Nat.zero_le _, fun pk nk => ⟨_, rfl, p, _, dx, _, rfl, Same.upd nk _ _ pc', T.cl_Hall, T.na_Hall_king_ways, (by show 12 < 1000; decide), ?_⟩⟩
    generalize hHd : L2.upd (L2.upd Hc pk _) p _ = Hd
    have bd : But p (L2.upd Hc pk (.lst [])) Hd := by rw [← hHd]; exact But.upd
    have pd : Hd p = some (.ins (c_Hall K) dx (haF ru ⟨pc, G, pe, po, pb, pp, pw, pk⟩)) := by rw [← hHd]; exact upd_same
    clear hHd
    -- the part that stays
    have nbp : pb ≠ p := fun e => by rw [e, p11] at nb; cases nb
    have npp' : pp ≠ p := fun e => by rw [e, pa] at np; cases np
    have nwp : pw ≠ p := fun e => by rw [e, pb'] at nw; cases nw
    have nkp : pk ≠ p := fun e => by rw [e, pc'] at nk; cases nk
    have ba' : But p H11 Ha := Same.but (Same.upd nb) ba
    have bb' : But p Ha Hb := Same.but (Same.upd np) bb
    have bc' : But p Hb Hc := Same.but (Same.upd nw) bc
    have bd' : But p Hc Hd := Same.but (Same.upd nk) bd
    have lba : Ha pb = some (.lst []) := ba _ _ upd_same nbp
    have lpb : Hb pp = some (.lst []) := bb _ _ upd_same npp'
    have lwc : Hc pw = some (.lst []) := bc _ _ upd_same nwp
    have lkd : Hd pk = some (.lst []) := bd _ _ upd_same nkp
    have lbb := bb' _ _ lba nbp
    have lbc := bc' _ _ lbb nbp
    have lbd := bd' _ _ lbc nbp
    have lpc := bc' _ _ lpb npp'
    have lpd := bd' _ _ lpc npp'
    have lwd := bd' _ _ lwc nwp
    have fp : H11 pp = none := (ba'.free (by rw [pa]; exact Option.some_ne_none _) np).2
    have fw : H11 pw = none := ((ba'.trans bb').free (by rw [pb']; exact Option.some_ne_none _) nw).2
    have fk : H11 pk = none := (((ba'.trans bb').trans bc').free (by rw [pc']; exact Option.some_ne_none _) nk).2
    have dis : Dis ⟨pc, G, pe, po, pb, pp, pw, pk⟩ := ⟨ne_of_none lba np, ne_of_none lbb nw, ne_of_none lbc nk, ne_of_none lpb nw, ne_of_none lpc nk, ne_of_none lwc nk⟩
    have hpn : ∀ {H' : Hp} {o : HO}, H' p = some o → H' p ≠ none := fun h y => by rw [h] at y; cases y
    have fpb : H pb = none := (b11.free (hpn p11) nb).2
    have fpp : H pp = none := (b11.free (hpn p11) fp).2
    have fpw : H pw = none := (b11.free (hpn p11) fw).2
    have fpk : H pk = none := (b11.free (hpn p11) fk).2
    have btd : But p H Hd := b11.trans (((ba'.trans bb').trans bc').trans bd')
    have G0e : ∃ G0 : Hp, ∀ a, G0 a = open Classical in if a = p then some (.ins (c_Hall K) dx (haF ru ⟨pc, G, pe, po, pb, pp, pw, pk⟩)) else if H a = none then H11 a else none := ⟨_, fun _ => rfl⟩
    obtain ⟨G0, eG0⟩ := G0e
    have eN : ∀ {a}, a ≠ p → H a = none → G0 a = H11 a := fun {a} h1 h2 => by rw [eG0, if_neg h1, if_pos h2]
    have oG0 : OffH H p G0 := fun a h1 h2 => by rw [eG0, if_neg h2, if_neg h1]
    have pG : G0 p = some (.ins (c_Hall K) dx (haF ru ⟨pc, G, pe, po, pb, pp, pw, pk⟩)) := by rw [eG0, if_pos rfl]
    have cG : G0 pc = some (.lst (iv (cellsL ru))) := by rw [eN npp fpc]; exact c11
    have gG : G0 G = some (.lst (iv (glist ru))) := by rw [eN nGp fG]; exact g11
    have eGe : G0 pe = some (.lst (iv (enmL ru))) := by rw [eN nep fpe]; exact e11
    have oG : G0 po = some (.lst ((goaL ru).map V.bl)) := by rw [eN nop fpo]; exact o11
    have L0 : HLo ru 0 0 0 0 G0 Hd ⟨pc, G, pe, po, pb, pp, pw, pk⟩ := by
      refine ⟨fun a o ho => ?_, ⟨(eN nbp fpb).trans nb, (eN npp' fpp).trans fp, (eN nwp fpw).trans fw, (eN nkp fpk).trans fk⟩, ⟨[], lbd, .nil⟩, ⟨[], lpd, .nil⟩, ⟨[], lwd, .nil⟩, ⟨[], lkd, .nil⟩⟩
      by_cases e : a = p
      · rw [e, pG] at ho
        cases ho
        rw [e]
        exact pd
      · by_cases h0 : H a = none
        · rw [eN e h0] at ho
          exact (((ba'.trans bb').trans bc').trans bd') _ _ ho e
        · rw [oG0 a h0 e] at ho
          cases ho
    clear eG0 eN ba bb bc bd ba' bb' bc' bd' lba lpb lwc lkd lbb lbc lbd lpc lpd lwd fp fw fk p11 c11 g11 e11 o11 b11 pa pb' pc'
    generalize er : (⟨pc, G, pe, po, pb, pp, pw, pk⟩ : HR) = r at *
    have cG : G0 r.pc = some (.lst (iv (cellsL ru))) := by rw [← er]; exact cG
    have gG : G0 r.pg = some (.lst (iv (glist ru))) := by rw [← er]; exact gG
    have eGe : G0 r.pe = some (.lst (iv (enmL ru))) := by rw [← er]; exact eGe
    have oG : G0 r.po = some (.lst ((goaL ru).map V.bl)) := by rw [← er]; exact oG
    have fpb : H r.pb = none := by rw [← er]; exact fpb
    have fpp : H r.pp = none := by rw [← er]; exact fpp
    have fpw : H r.pw = none := by rw [← er]; exact fpw
    have fpk : H r.pk = none := by rw [← er]; exact fpk
    clear er
    refine ⟨_, rfl, by decide, by decide, for_range (fun i σ H' => ∃ (cv rv : Option V) (G' : Hp), σ = [some (.ref p), some (.ref t), cv, rv, none, none, none] ∧ Same G0 G' ∧ OffH H p G' ∧ But p H H' ∧ HLo ru i i i i G' H' r) ⟨none, none, G0, rfl, Same.refl _, oG0, btd, L0⟩ ?_ ?_⟩
    · rintro i σ H1 hi ⟨cv, rv, G1, rfl, s1, o1, bt1, L1⟩
      have hi : i < 169 := hi
      have fr : ∀ {G' H' : Hp} {ib ip iw ik : Nat} {D : Addr}, Same G0 G' → HLo ru ib ip iw ik G' H' r → But p H H' → H' D = none → H D = none := fun s L b n => (b.free (hpn (L.sub _ _ (s _ _ pG))) n).2
      have z0 : (0 : Int) + (i : Nat) = (i : Nat) := Int.zero_add _
      refine ⟨_, rfl, _, rfl, t, dxt, ru, len, pg, ps, i, 0, 0, 1, congrArg (fun z : Int => [V.ref t, V.int z, V.int 0, V.int 1]) z0, rfl, rfl, by decide, hi, S, Xb bt1, fun H2 D2 t2 n2 h2 => ?_⟩
      obtain ⟨G2, s2, L2', g2, k2⟩ := L1.new t2 n2 h2
      have o2 := o1.step k2 (fr s1 L1 bt1 n2)
      have bt2 := bt1.same t2
      have s2' := s1.trans s2
      refine ⟨_, rfl, _, rfl, t, dxt, ru, len, pg, ps, i, 1, 1, 0, congrArg (fun z : Int => [V.ref t, V.int z, V.int 1, V.int 0]) z0, rfl, rfl, by decide, hi, S, Xb bt2, fun H3 D3 t3 n3 h3 => ?_⟩
      obtain ⟨G3, s3, L3, g3, k3⟩ := L2'.new t3 n3 h3
      have o3 := o2.step k3 (fr s2' L2' bt2 n3)
      have bt3 := bt2.same t3
      have s3' := s2'.trans s3
      refine ⟨_, rfl, _, rfl, _, rfl, t, dxt, ru, len, pg, ps, i, 2, 0, -1, congrArg (fun z : Int => [V.ref t, V.int z, V.int 0, V.int (-1)]) z0, rfl, rfl, by decide, hi, S, Xb bt3, fun H4 D4 t4 n4 h4 => ?_⟩
      obtain ⟨G4, s4, L4, g4, k4⟩ := L3.new t4 n4 h4
      have o4 := o3.step k4 (fr s3' L3 bt3 n4)
      have bt4 := bt3.same t4
      have s4' := s3'.trans s4
      refine ⟨_, rfl, _, rfl, _, rfl, t, dxt, ru, len, pg, ps, i, 3, -1, 0, congrArg (fun z : Int => [V.ref t, V.int z, V.int (-1), V.int 0]) z0, rfl, rfl, by decide, hi, S, Xb bt4, fun H5 D5 t5 n5 h5 => ?_⟩
      obtain ⟨G5, s5, L5, g5, k5⟩ := L4.new t5 n5 h5
      have o5 := o4.step k5 (fr s4' L4 bt4 n5)
      have bt5 := bt4.same t5
      have s5' := s4'.trans s5
      refine ⟨(by show 4 ≤ sizeLine; decide), fun R nR => ?_⟩
      obtain ⟨G6, s6, L6, g6, k6⟩ := L5.new (Same.upd nR) nR (upd_same (o := .lst [V.ref D2, V.ref D3, V.ref D4, V.ref D5]))
      have o6 := o5.step k6 (fr s5' L5 bt5 nR)
      have bt6 := bt5.same (Same.upd (o := .lst [V.ref D2, V.ref D3, V.ref D4, V.ref D5]) nR)
      have s6' := s5'.trans s6
      have ar : All2 (LsI G6) [V.ref D2, V.ref D3, V.ref D4, V.ref D5] (raysL ru i) :=
        .cons ⟨D2, rfl, s6 _ _ (s5 _ _ (s4 _ _ (s3 _ _ g2)))⟩ (.cons ⟨D3, rfl, s6 _ _ (s5 _ _ (s4 _ _ g3))⟩ (.cons ⟨D4, rfl, s6 _ _ (s5 _ _ g4)⟩ (.cons ⟨D5, rfl, s6 _ _ g5⟩ .nil)))
      generalize L2.upd H5 R _ = H6 at L6 bt6
      generalize hrl : [V.ref D2, V.ref D3, V.ref D4, V.ref D5] = rl at ar g6
      have rll : rl.length = 4 := by rw [← hrl]; rfl
      clear hrl g2 g3 g4 g5 s2 s3 s4 s5 s6 t2 t3 t4 t5 L1 L2' L3 L4 L5 h2 h3 h4 h5 n2 n3 n4 n5 nR s2' s3' s4' s5' k2 k3 k4 k5 k6 o1 o2 o3 o4 o5 bt1 bt2 bt3 bt4 bt5
      -- beside
      obtain ⟨vb, hvb, _⟩ := L6.b
      have hR6 := L6.sub _ _ g6
      refine ⟨_, rfl, p, _, dx, _, _, rfl, L6.sub _ _ (s6' _ _ pG), T.cl_Hall, T.na_Hall_beside, rfl, tyL hvb, _, rfl, R, rfl, ⟨_, SqL.of hR6⟩, fun D nD => ?_⟩
      refine lc_list (K := K) (a := R) (xs := rl) (fun j H2 => H2 = L2.upd H6 D (.lst (iv ((((raysL ru i).take j).filter fun l => decide (0 < l.length)).map fun l => l.getD 0 0)))) rfl (fun j H2 _ e => by rw [e]; exact SqL.of (Same.upd nD _ _ hR6)) ?_ ?_
      · rintro j x H2 hx rfl
        have hj : j < 4 := by
          have y := (List.getElem?_eq_some_iff.mp hx).1
          omega
        obtain ⟨l, hl, a, rfl, ha⟩ := ar.at hx
        have ha6 : ∀ o, (L2.upd H6 D o) a = some (.lst (iv l)) := fun o => Same.upd nD _ _ (L6.sub _ _ ha)
        have tf := take_fm (p := fun l : List Nat => decide (0 < l.length)) (f := fun l => l.getD 0 0) hl
        refine ⟨rfl, _, rfl, a, _, rfl, .inl (SqL.of (ha6 _)), _, _, rfl, rfl, _, rfl, ?_⟩
        refine ifB (fun h1 => ?_) fun h1 => ?_
        · have y1 : ((iv l).length : Int) > 0 := of_decide_eq_true h1
          rw [iv_len] at y1
          have y2 : 0 < l.length := by omega
          rw [if_pos (decide_eq_true y2)] at tf
          have e0 : (iv l)[0]? = some (.int (l.getD 0 0 : Nat)) := iv_at (by rw [List.getD_eq_getElem?_getD, List.getElem?_eq_getElem y2]; rfl)
          refine ⟨_, rfl, a, _, 0, _, rfl, rfl, SqL.of (ha6 _), atI_nat (j := 0) e0, _, upd_same, ?_, ?_⟩
          · rw [iv_len, List.length_map]
            have z1 := List.length_filter_le (fun l : List Nat => decide (0 < l.length)) ((raysL ru i).take j)
            have z2 : ((raysL ru i).take j).length ≤ 4 := by rw [List.length_take]; omega
            exact line1000 (by omega)
          · rw [upd_upd, iv_app1, tf]
        · have y1 : ¬ ((iv l).length : Int) > 0 := of_decide_eq_false h1
          rw [iv_len] at y1
          rw [if_neg (by simp only [decide_eq_true_eq]; omega), List.append_nil] at tf
          rw [tf]
      rintro H7 rfl
      rw [rll, show (raysL ru i).take 4 = raysL ru i from rfl]
      show tNil _ (L2.upd H6 D (.lst (iv (besL ru i)))) _
      have hvb7 : (L2.upd H6 D (.lst (iv (besL ru i)))) r.pb = some (.lst vb) := Same.upd nD _ _ hvb
      refine ⟨r.pb, vb, _, rfl, rfl, hvb7, line1000 (by rw [L6.lens.1 _ hvb]; omega), ?_⟩
      obtain ⟨G7, s7, L7, g7, k7⟩ := L6.new (Same.upd nD) nD (upd_same (o := .lst (iv (besL ru i))))
      have o7 := o6.step k7 (fr s6' L6 bt6 nD)
      have bt8 := (bt6.same (Same.upd (o := .lst (iv (besL ru i))) nD)).put (o := .lst (vb ++ [.ref D])) fpb
      have L8 := L7.addB dis g7 hvb7
      have s8 := s6'.trans s7
      have ar8 : All2 (LsI G7) rl (raysL ru i) := ar.mono fun _ _ => LsI.mono s7
      have g8 := s7 _ _ g6
      show tSeq _ _ _ _ _
      generalize L2.upd (L2.upd H6 D _) r.pb _ = H8 at L8 bt8
      clear L7 g7 hvb7 hvb nD s6' s7 ar g6 L6 hR6 o6 bt6 k7
      -- pairs
      obtain ⟨vp, hvp, _⟩ := L8.p
      have hR8 := L8.sub _ _ g8
      refine ⟨_, rfl, p, _, dx, _, _, rfl, L8.sub _ _ (s8 _ _ pG), T.cl_Hall, T.na_Hall_pairs, rfl, tyL hvp, _, rfl, R, rfl, ⟨_, SqL.of hR8⟩, fun D nD => ?_⟩
      have off := L8.free nD
      have nDG := L8.sub.free nD
      have fD := fr s8 L8 bt8 nD
      refine lc_list (K := K) (a := R) (xs := rl) (fun j H2 => ∃ G2 us, Same G7 G2 ∧ (OffH H p G2 ∧ But p H H2) ∧ HLo ru (i + 1) i i i G2 H2 r ∧ G2 D = none ∧ H2 D = some (.lst us) ∧ All2 (TpI G2) us ((((raysL ru i).take j).filter fun l => decide (1 < l.length)).map fun l => (l.getD 0 0, l.getD 1 0))) ⟨G7, [], Same.refl _, ⟨o7, bt8.put fD⟩, L8.put nDG off, nDG, upd_same, .nil⟩ (fun j H2 _ e => by obtain ⟨G2, us, s2, _, L2', _⟩ := e; exact SqL.of (L2'.sub _ _ (s2 _ _ g8))) ?_ ?_
      · rintro j x H2 hx ⟨G2, us, s2, ⟨o2, bt2⟩, L2', nG2, hus, TU⟩
        have hj : j < 4 := by
          have y := (List.getElem?_eq_some_iff.mp hx).1
          omega
        obtain ⟨l, hl, a, rfl, ha⟩ := ar8.at hx
        have ha2 : H2 a = some (.lst (iv l)) := L2'.sub _ _ (s2 _ _ ha)
        have tf := take_fm (p := fun l : List Nat => decide (1 < l.length)) (f := fun l => (l.getD 0 0, l.getD 1 0)) hl
        refine ⟨rfl, _, rfl, a, _, rfl, .inl (SqL.of ha2), _, _, rfl, rfl, _, rfl, ?_⟩
        refine ifB (fun h1 => ?_) fun h1 => ?_
        · have y1 : ((iv l).length : Int) > 1 := of_decide_eq_true h1
          rw [iv_len] at y1
          have y2 : 1 < l.length := by omega
          rw [if_pos (decide_eq_true y2)] at tf
          have e0 : (iv l)[0]? = some (.int (l.getD 0 0 : Nat)) := iv_at (by rw [List.getD_eq_getElem?_getD, List.getElem?_eq_getElem (by omega)]; rfl)
          have e1 : (iv l)[1]? = some (.int (l.getD 1 0 : Nat)) := iv_at (by rw [List.getD_eq_getElem?_getD, List.getElem?_eq_getElem y2]; rfl)
          refine ⟨_, rfl, a, _, 0, _, rfl, rfl, SqL.of ha2, atI_nat (j := 0) e0, _, rfl, a, _, 1, _, rfl, rfl, SqL.of ha2, atI_nat (j := 1) e1, (by show 2 ≤ sizeLine; decide), fun tp ntp => ?_⟩
          obtain ⟨G3, s3, L3, g3, k3⟩ := L2'.new (Same.upd ntp) ntp (upd_same (o := .tup [V.int (l.getD 0 0 : Nat), V.int (l.getD 1 0 : Nat)]))
          have nDt := ne_of_none hus ntp
          refine ⟨us, by rw [upd_ne nDt]; exact hus, ?_, ?_⟩
          · rw [TU.len, List.length_map]
            have z1 := List.length_filter_le (fun l : List Nat => decide (1 < l.length)) ((raysL ru i).take j)
            have z2 : ((raysL ru i).take j).length ≤ 4 := by rw [List.length_take]; omega
            exact line1000 (by omega)
          · refine ⟨G3, _, s2.trans s3, ⟨o2.step k3 (fr (s8.trans s2) L2' bt2 ntp), (bt2.same (Same.upd ntp)).put fD⟩, L3.put (k3 D nDt nG2) off, k3 D nDt nG2, upd_same, ?_⟩
            rw [tf]
            exact (TU.mono fun _ _ => TpI.mono s3).app (.one ⟨tp, rfl, g3⟩)
        · have y1 : ¬ ((iv l).length : Int) > 1 := of_decide_eq_false h1
          rw [iv_len] at y1
          rw [if_neg (by simp only [decide_eq_true_eq]; omega), List.append_nil] at tf
          refine ⟨G2, us, s2, ⟨o2, bt2⟩, L2', nG2, hus, ?_⟩
          rw [tf]
          exact TU
      rintro H9 ⟨G9, us, s9, ⟨o9, bt9⟩, L9, nG9, hus, TU⟩
      rw [rll, show (raysL ru i).take 4 = raysL ru i from rfl] at TU
      obtain ⟨vp9, hvp9, _⟩ := L9.p
      obtain ⟨G10, s10, L10, g10, k10⟩ := L9.take nG9 off hus
      have o10 := o9.step k10 fD
      have bt11 := bt9.put (o := .lst (vp9 ++ [.ref D])) fpp
      refine ⟨r.pp, vp9, _, rfl, rfl, hvp9, line1000 (by rw [L9.lens.2.1 _ hvp9]; omega), ?_⟩
      have L11 := L10.addP dis ⟨D, us, rfl, g10, TU.mono fun _ _ => TpI.mono s10⟩ hvp9
      have s11 := s8.trans (s9.trans s10)
      have ar11 : All2 (LsI G10) rl (raysL ru i) := ar8.mono fun _ _ => LsI.mono (s9.trans s10)
      have g11 := (s9.trans s10) _ _ g8
      show tSeq _ _ _ _ _
      generalize L2.upd H9 r.pp _ = H11 at L11 bt11
      clear fD k10 o9 bt9 o7 bt8 L9 L10 g10 hvp9 hvp nD s8 s9 s10 ar8 g8 L8 hR8 hus TU nG9 off nDG
      -- ways
      obtain ⟨vp, hvp, _⟩ := L11.w
      have hR11 := L11.sub _ _ g11
      refine ⟨_, rfl, p, _, dx, _, _, rfl, L11.sub _ _ (s11 _ _ pG), T.cl_Hall, T.na_Hall_ways, rfl, tyL hvp, _, rfl, R, rfl, ⟨_, SqL.of hR11⟩, fun D nD => ?_⟩
      have off := L11.free nD
      have nDG := L11.sub.free nD
      have fD := fr s11 L11 bt11 nD
      refine lc_list (K := K) (a := R) (xs := rl) (fun j H2 => ∃ G2 us, Same G10 G2 ∧ (OffH H p G2 ∧ But p H H2) ∧ HLo ru (i + 1) (i + 1) i i G2 H2 r ∧ G2 D = none ∧ H2 D = some (.lst us) ∧ All2 (LsI G2) us (((raysL ru i).take j).map fun l => l.takeWhile (wayB ru))) ⟨G10, [], Same.refl _, ⟨o10, bt11.put fD⟩, L11.put nDG off, nDG, upd_same, .nil⟩ (fun j H2 _ e => by obtain ⟨G2, us, s2, _, L2', _⟩ := e; exact SqL.of (L2'.sub _ _ (s2 _ _ g11))) ?_ ?_
      · rintro j x H2 hx ⟨G2, us, s2, ⟨o2, bt2⟩, L2', nG2, hus, TU⟩
        have hj : j < 4 := by
          have y := (List.getElem?_eq_some_iff.mp hx).1
          omega
        obtain ⟨l, hl, a, rfl, ha⟩ := ar11.at hx
        have ha2 : H2 a = some (.lst (iv l)) := L2'.sub _ _ (s2 _ _ ha)
        have s0 := s11.trans s2
        have rin := rays_in S (List.mem_of_getElem? hl)
        refine ⟨rfl, _, rfl, _, rfl, p, _, dx, _, _, rfl, L2'.sub _ _ (s0 _ _ pG), T.cl_Hall, T.na_Hall_ground, rfl, _, rfl, t, dxt, ru, len, pg, ps, r.pg, a, l, rfl, Xb bt2, L2'.sub _ _ (s0 _ _ gG), ha2, rin.1, by omega, fun H3 D3 t3 n3 h3 => ?_⟩
        obtain ⟨G3, s3, L3, g3, k3⟩ := L2'.new t3 n3 h3
        have nDt := ne_of_none hus n3
        refine ⟨us, t3 _ _ hus, ?_, ?_⟩
        · rw [TU.len, List.length_map, List.length_take]
          exact line1000 (by omega)
        · refine ⟨G3, _, s2.trans s3, ⟨o2.step k3 (fr s0 L2' bt2 n3), (bt2.same t3).put fD⟩, L3.put (k3 D nDt nG2) off, k3 D nDt nG2, upd_same, ?_⟩
          rw [List.take_add_one, hl, List.map_append]
          exact (TU.mono fun _ _ => LsI.mono s3).app (.one ⟨D3, rfl, g3⟩)
      rintro H9 ⟨G9, us, s9, ⟨o9, bt9⟩, L9, nG9, hus, TU⟩
      rw [rll, show (raysL ru i).take 4 = raysL ru i from rfl] at TU
      obtain ⟨vp9, hvp9, _⟩ := L9.w
      obtain ⟨G12, s10, L10, g10, k10⟩ := L9.take nG9 off hus
      have o12 := o9.step k10 fD
      have bt12 := bt9.put (o := .lst (vp9 ++ [.ref D])) fpw
      refine ⟨r.pw, vp9, _, rfl, rfl, hvp9, line1000 (by rw [L9.lens.2.2.1 _ hvp9]; omega), ?_⟩
      have L12 := L10.addW dis ⟨D, us, rfl, g10, TU.mono fun _ _ => LsI.mono s10⟩ hvp9
      have s12 := s11.trans (s9.trans s10)
      have ar12 : All2 (LsI G12) rl (raysL ru i) := ar11.mono fun _ _ => LsI.mono (s9.trans s10)
      have g12 := (s9.trans s10) _ _ g11
      generalize L2.upd H9 r.pw _ = H12 at L12 bt12
      clear fD k10 o9 bt9 o10 bt11 L9 L10 g10 hvp9 hvp nD s11 s9 s10 ar11 g11 L11 hR11 hus TU nG9 off nDG
      -- king_ways
      obtain ⟨vp, hvp, _⟩ := L12.k
      have hR12 := L12.sub _ _ g12
      refine ⟨_, rfl, p, _, dx, _, _, rfl, L12.sub _ _ (s12 _ _ pG), T.cl_Hall, T.na_Hall_king_ways, rfl, tyL hvp, _, rfl, R, rfl, ⟨_, SqL.of hR12⟩, fun D nD => ?_⟩
      have off := L12.free nD
      have nDG := L12.sub.free nD
      have fD := fr s12 L12 bt12 nD
      refine lc_list (K := K) (a := R) (xs := rl) (fun j H2 => ∃ G2 us, Same G12 G2 ∧ (OffH H p G2 ∧ But p H H2) ∧ HLo ru (i + 1) (i + 1) (i + 1) i G2 H2 r ∧ G2 D = none ∧ H2 D = some (.lst us) ∧ All2 (LsI G2) us (((raysL ru i).take j).map (kwayL ru))) ⟨G12, [], Same.refl _, ⟨o12, bt12.put fD⟩, L12.put nDG off, nDG, upd_same, .nil⟩ (fun j H2 _ e => by obtain ⟨G2, us, s2, _, L2', _⟩ := e; exact SqL.of (L2'.sub _ _ (s2 _ _ g12))) ?_ ?_
      · rintro j x H2 hx ⟨G2, us, s2, ⟨o2, bt2⟩, L2', nG2, hus, TU⟩
        have hj : j < 4 := by
          have y := (List.getElem?_eq_some_iff.mp hx).1
          omega
        obtain ⟨l, hl, a, rfl, ha⟩ := ar12.at hx
        have ha2 : H2 a = some (.lst (iv l)) := L2'.sub _ _ (s2 _ _ ha)
        have s0 := s12.trans s2
        have rin := rays_in S (List.mem_of_getElem? hl)
        refine ⟨rfl, _, rfl, _, rfl, p, _, dx, _, _, rfl, L2'.sub _ _ (s0 _ _ pG), T.cl_Hall, T.na_Hall_ground, rfl, _, rfl, t, dxt, ru, len, pg, ps, r.pg, a, l, rfl, Xb bt2, L2'.sub _ _ (s0 _ _ gG), ha2, rin.1, by omega, fun H3 D3 t3 n3 h3 => ?_⟩
        obtain ⟨G3, s3, L3, g3, k3⟩ := L2'.new t3 n3 h3
        have nDt := ne_of_none hus n3
        refine ⟨us, t3 _ _ hus, ?_, ?_⟩
        · rw [TU.len, List.length_map, List.length_take]
          exact line1000 (by omega)
        · refine ⟨G3, _, s2.trans s3, ⟨o2.step k3 (fr s0 L2' bt2 n3), (bt2.same t3).put fD⟩, L3.put (k3 D nDt nG2) off, k3 D nDt nG2, upd_same, ?_⟩
          rw [List.take_add_one, hl, List.map_append]
          exact (TU.mono fun _ _ => LsI.mono s3).app (.one ⟨D3, rfl, g3⟩)
      rintro H9 ⟨G9, us, s9, ⟨o9, bt9⟩, L9, nG9, hus, TU⟩
      rw [rll, show (raysL ru i).take 4 = raysL ru i from rfl] at TU
      obtain ⟨vp9, hvp9, _⟩ := L9.k
      obtain ⟨G13, s10, L10, g10, k10⟩ := L9.take nG9 off hus
      have o13 := o9.step k10 fD
      have bt13 := bt9.put (o := .lst (vp9 ++ [.ref D])) fpk
      refine ⟨r.pk, vp9, _, rfl, rfl, hvp9, line1000 (by rw [L9.lens.2.2.2 _ hvp9]; omega), ?_⟩
      exact ⟨_, _, G13, rfl, s12.trans (s9.trans s10), o13, bt13, L10.addK dis ⟨D, us, rfl, g10, TU.mono fun _ _ => LsI.mono s10⟩ hvp9⟩
    · rintro σ H1 ⟨cv, rv, G1, rfl, s1, o1, bt1, L1⟩
      have L1 : HLo ru 169 169 169 169 G1 H1 r := L1
      have su := L1.sub
      obtain ⟨v1, h1, t1⟩ := L1.b
      obtain ⟨v2, h2, t2⟩ := L1.p
      obtain ⟨v3, h3, t3⟩ := L1.w
      obtain ⟨v4, h4, t4⟩ := L1.k
      obtain ⟨n1, m2, m3, m4⟩ := L1.non
      have n2 : (L2.upd G1 r.pb (.lst v1)) r.pp = none := by rw [upd_ne dis.bp.symm]; exact m2
      have n3 : (L2.upd (L2.upd G1 r.pb (.lst v1)) r.pp (.lst v2)) r.pw = none := by rw [upd_ne dis.pw.symm, upd_ne dis.bw.symm]; exact m3
      have n4 : (L2.upd (L2.upd (L2.upd G1 r.pb (.lst v1)) r.pp (.lst v2)) r.pw (.lst v3)) r.pk = none := by rw [upd_ne dis.wk.symm, upd_ne dis.pk.symm, upd_ne dis.bk.symm]; exact m4
      have gs : Same (L2.upd (L2.upd (L2.upd (L2.upd G1 r.pb (.lst v1)) r.pp (.lst v2)) r.pw (.lst v3)) r.pk (.lst v4)) H1 := Same.grow (Same.grow (Same.grow (Same.grow su (Same.refl H1) h1) (Same.refl H1) h2) (Same.refl H1) h3) (Same.refl H1) h4
      have sg : Same G1 (L2.upd (L2.upd (L2.upd (L2.upd G1 r.pb (.lst v1)) r.pp (.lst v2)) r.pw (.lst v3)) r.pk (.lst v4)) := ((Same.upd n1).trans (Same.upd n2)).trans ((Same.upd n3).trans (Same.upd n4))
      have s0 := s1.trans sg
      refine q _ H1 r ⟨s0 _ _ pG, s0 _ _ cG, s0 _ _ gG, s0 _ _ eGe, s0 _ _ oG, ⟨v1, ?_, t1.mono fun _ _ => LsI.mono sg⟩, ⟨v2, ?_, t2.mono fun _ _ => LsP.mono sg⟩, ⟨v3, ?_, t3.mono fun _ _ => LsL.mono sg⟩, ⟨v4, upd_same, t4.mono fun _ _ => LsL.mono sg⟩⟩ gs (fun a ha na => ?_) bt1
      · rw [upd_ne dis.bk, upd_ne dis.bw, upd_ne dis.bp, upd_same]
      · rw [upd_ne dis.pk, upd_ne dis.pw, upd_same]
      · rw [upd_ne dis.wk, upd_same]
      · rw [upd_ne (fun e => ha (by rw [e]; exact fpk)), upd_ne (fun e => ha (by rw [e]; exact fpw)), upd_ne (fun e => ha (by rw [e]; exact fpp)), upd_ne (fun e => ha (by rw [e]; exact fpb))]
        exact o1 a ha na
end
end Tf
set_option Elab.async false
set_option linter.all false
set_option maxRecDepth 100000
set_option maxHeartbeats 8000000
/-! Lines. -/
namespace Tf
open PySem PySem.Spec PyProof.Rows L2 TfX TfM
section
variable {P : Program} {w : World} {K : PySem.W.Frag} {mg : Str → Option Value} {base : Heap}
/-- an if whose test gives c and changes nothing -/
theorem ifS_of {t : TT} {A B : TS} {D : Ends} {σ : L2.St} {H : Hp} (c : Bool) (h : ∀ Q : Bool → Hp → Prop, Q c H → t σ H Q) (ha : c = true → A D σ H) (hb : c = false → B D σ H) : tIfS t A B D σ H := by
  refine h _ ?_
  cases c with
  | true => exact ifT rfl (ha rfl)
  | false => exact ifF rfl (hb rfl)
def pT (x : Tafl.Piece × Nat × Nat) : Nat × Nat × Nat := (x.2.1, pIx x.1, x.2.2)
def pTs (l : PL) : List (List Int) := (l.map pT).map t3
def hasK (l : PL) : Bool := l.any fun x => x.1 == .king
theorem pIx_inj {a b : Tafl.Piece} : (pIx a == pIx b) = (a == b) := by
  cases a <;> cases b <;> rfl
def spSigns (K : PySem.W.Frag) : Sp := fun vs H Q _ => ∃ (p dx pl : Addr) (l : PL), vs = [.ref p] ∧ H p = some (.ins (c_Line K) dx [("pieces", .ref pl)]) ∧ LT H pl (pTs l) ∧ l.length ≤ 1000 ∧
  ∀ H', Same H H' → Q (.str (if hasK l = true then "h m" else "h m K")) H'
theorem ok_Line_piece_signs (T : Txt K mg) : FnOk P w K mg base CX0 1 (a_Line_piece_signs K) T.fd_Line_piece_signs p_Line_piece_signs (spSigns K) := by
  refine T.F_Line_piece_signs.ok sc_Line_piece_signs (fun vs H Q E h => ?_) (fun cdv A outer s H vs Q E hr h => ⟨_, PSs.nox (pss_cons (ps_setLc (i := 1) (own := [("cell", 2), ("piece", 3), ("place", 4)]) (g := (gTup K 3 (gCons (gName 2) (gCons (gName 3) (gCons (gName 4) gNil))))) rfl sc_Line_piece_signs.nd rfl rfl (sw_true rfl rfl rfl (by decide +kernel)) (pi_list (pe_fld (pv 0) rfl)) (blkOk_by (own := [("cell", 2), ("piece", 3), ("place", 4)]) (N := n_Line_piece_signs) (sc := defScope s_Line_piece_signs) (by decide +kernel)) (fun _ _ _ _ _ => (pg_tup rfl (pgs_cons (pg_name (i := 2) sc_Line_piece_signs.nd rfl (Or.inl rfl)) (pgs_cons (pg_name (i := 3) sc_Line_piece_signs.nd rfl (Or.inl rfl)) (pgs_cons (pg_name (i := 4) sc_Line_piece_signs.nd rfl (Or.inl rfl)) pgs_nil))))) (fun _ _ _ _ _ => (pts_one (pt_cmpR op_eq (pv 3) (pe_glob (v := .int 3) rfl T.c_KING ⟨_, rfl⟩) (nomark _)))) (fun _ _ _ _ _ => (pv 2)))
      (pss_one (ps_ret (pe_ifExp (pt_cmpR op_eq (pe_callB call_len_seq (by rfl) T.m_len (by decide +kernel) (pa_cons (pv 1) pa_nil)) pe_int (nomark _)) pe_str pe_str)))), ?_⟩)
  · obtain ⟨p, dx, pl, l, rfl, _⟩ := h
    rfl
  · obtain ⟨p, dx, pl, l, rfl, hp, ⟨vs, hl, TT⟩, hlen, q⟩ := h
    refine ⟨_, rfl, p, _, dx, _, _, rfl, hp, T.cl_Line, T.na_Line_pieces, rfl, pl, rfl, ⟨_, SqL.of hl⟩, fun D nD => ?_⟩
    have sD : ∀ o, Same H (L2.upd H D o) := fun o => Same.upd nD
    have hvl : vs.length = l.length := by
      rw [TT.len]
      unfold pTs
      rw [List.length_map, List.length_map]
    refine lc_list (K := K) (a := pl) (xs := vs) (fun i H2 => H2 = L2.upd H D (.lst ((((l.map pT).take i).filter fun q => q.2.1 == 3).map fun q => V.int q.1))) rfl (fun i H2 _ e => by rw [e]; exact SqL.of (sD _ _ _ hl)) ?_ ?_
    · rintro i x H2 hx rfl
      obtain ⟨t, a, ht, rfl, ha⟩ := t3_at TT hx
      refine ⟨a, _, rfl, SqT.of (sD _ _ _ ha), rfl, _, _, rfl, _, _, rfl, _, _, rfl, rfl, rfl, ?_⟩
      refine ⟨_, rfl, rfl, _, rfl, ?_⟩
      rw [show decide (V.int (t.2.1 : Int) = V.int 3) = (t.2.1 == 3) from nat_dec (b := 3)]
      have tf := take_fm (p := fun q : Nat × Nat × Nat => q.2.1 == 3) (f := fun q => V.int q.1) ht
      refine ifB (fun h2 => ?_) fun h2 => ?_
      · rw [if_pos h2] at tf
        refine ⟨_, rfl, _, upd_same, ?_, ?_⟩
        · rw [List.length_map]
          have y1 := List.length_filter_le (fun q : Nat × Nat × Nat => q.2.1 == 3) ((l.map pT).take i)
          have y2 : ((l.map pT).take i).length ≤ l.length := by rw [List.length_take, List.length_map]; omega
          exact line1000 (by omega)
        · rw [upd_upd, tf]
      · rw [h2, if_neg Bool.false_ne_true, List.append_nil] at tf
        rw [tf]
    · rintro H2 rfl
      have e1 : (l.map pT).take vs.length = l.map pT := List.take_of_length_le (by rw [List.length_map]; omega)
      rw [e1]
      refine ⟨_, rfl, D, _, rfl, .inl (SqL.of upd_same), rfl, _, rfl, ?_⟩
      have e2 : ∀ l : PL, decide (V.int (((((l.map pT).filter fun q => q.2.1 == 3).map fun q => V.int q.1).length : Nat) : Int) = V.int 0) = !hasK l := fun l => by
        rw [show (V.int 0) = V.int ((0 : Nat) : Int) from rfl, nat_dec, List.length_map]
        unfold hasK
        induction l with
        | nil => rfl
        | cons a r ih =>
          rw [List.map_cons, List.filter_cons, List.any_cons]
          have e3 : ((pT a).2.1 == 3) = (a.1 == .king) := pIx_inj (b := .king)
          rw [e3]
          cases a.1 == .king
          · rw [if_neg Bool.false_ne_true, ih]
            rfl
          · rw [if_pos rfl]
            rfl
      have q' := q _ (sD (.lst (((l.map pT).filter fun q => q.2.1 == 3).map fun q => V.int q.1)))
      have e2l := e2 l
      show if decide (V.int (((((l.map pT).filter fun q => q.2.1 == 3).map fun q => V.int q.1).length : Nat) : Int) = V.int 0) = true then _ else _
      rw [e2l]
      refine ifB (fun h1 => ?_) fun h1 => ?_
      · rw [if_neg (by intro y; rw [y] at h1; cases h1)] at q'
        exact q'
      · rw [if_pos (by simpa using h1)] at q'
        exact q'
/-! ### choices of a line -/
def lIx : Tafl.Piece → Nat
  | .none => 3
  | .hunter => 0
  | .man => 1
  | .king => 2
theorem lIx_pIx {king : Bool} {x : UInt8} {a : Tafl.Piece} (h : lineSign king x = some a) : pIx a = 1 + lIx a := by
  unfold lineSign at h
  split at h
  · cases h; rfl
  · split at h
    · cases h; rfl
    · split at h
      · cases h; rfl
      · cases h
theorem allW : SignW "h m K" [[104], [109], [75]] (lineSign false) lIx := by
  refine ⟨w_all, fun b k => ?_⟩
  rw [show ([[104], [109], [75]] : List Tafl.Bytes) = ([104, 109, 75] : List UInt8).map fun x => [x] from rfl, single]
  cases hx : b[k]? with
  | none => rfl
  | some x =>
    rw [Option.bind_some]
    dsimp only
    unfold lineSign
    by_cases h2 : x = 104
    · subst h2
      rfl
    by_cases h3 : x = 109
    · subst h3
      rfl
    by_cases h4 : x = 75
    · subst h4
      rfl
    rw [if_neg h2, if_neg h3, if_neg (fun y => h4 y.1)]
    have e : (numbered (([104, 109, 75] : List UInt8).map fun x => [x])).filterMap (fun (w : Nat × Tafl.Bytes) => if w.2.head? = some x then some (w.1, w.2.drop 1) else none) = [] := by
      show [(0, [104]), (1, [109]), (2, [75])].filterMap _ = []
      have n2 : ¬ (some (104 : UInt8) = some x) := fun y => h2 (Option.some.inj y).symm
      have n3 : ¬ (some (109 : UInt8) = some x) := fun y => h3 (Option.some.inj y).symm
      have n4 : ¬ (some (75 : UInt8) = some x) := fun y => h4 (Option.some.inj y).symm
      simp only [List.filterMap_cons, List.head?_cons, n2, n3, n4, if_false, List.filterMap_nil]
    rw [e]
theorem menW : SignW "h m" [[104], [109]] (lineSign true) lIx := by
  refine ⟨w_men, fun b k => ?_⟩
  rw [show ([[104], [109]] : List Tafl.Bytes) = ([104, 109] : List UInt8).map fun x => [x] from rfl, single]
  cases hx : b[k]? with
  | none => rfl
  | some x =>
    rw [Option.bind_some]
    dsimp only
    unfold lineSign
    by_cases h2 : x = 104
    · subst h2
      rfl
    by_cases h3 : x = 109
    · subst h3
      rfl
    rw [if_neg h2, if_neg h3, if_neg (fun y => Bool.noConfusion y.2)]
    have e : (numbered (([104, 109] : List UInt8).map fun x => [x])).filterMap (fun (w : Nat × Tafl.Bytes) => if w.2.head? = some x then some (w.1, w.2.drop 1) else none) = [] := by
      show [(0, [104]), (1, [109])].filterMap _ = []
      have n2 : ¬ (some (104 : UInt8) = some x) := fun y => h2 (Option.some.inj y).symm
      have n3 : ¬ (some (109 : UInt8) = some x) := fun y => h3 (Option.some.inj y).symm
      simp only [List.filterMap_cons, List.head?_cons, n2, n3, if_false, List.filterMap_nil]
    rw [e]
def lWs (k : Bool) : List Tafl.Bytes := if k = true then [[104], [109]] else [[104], [109], [75]]
theorem lineW (k : Bool) : SignW (if k = true then "h m" else "h m K") (lWs k) (lineSign k) lIx := by
  cases k with
  | false => exact allW
  | true => exact menW
/-! ### a row -/
def Two (H H' : Hp) (a b : Addr) : Prop := ∀ c o, H c = some o → c ≠ a → c ≠ b → H' c = some o
theorem Two.refl {H : Hp} {a b : Addr} : Two H H a b := fun _ _ h _ _ => h
theorem Two.trans {H H1 H2 : Hp} {a b : Addr} (x : Two H H1 a b) (y : Two H1 H2 a b) : Two H H2 a b := fun c o h n m => y c o (x c o h n m) n m
theorem Two.same {H H1 : Hp} {a b : Addr} (x : Same H H1) : Two H H1 a b := fun c o h _ _ => x c o h
theorem Two.but {H H1 : Hp} {a b : Addr} (x : But b H H1) : Two H H1 a b := fun c o h _ m => x c o h m
theorem Two.upd {H : Hp} {a b : Addr} {o : HO} : Two H (L2.upd H a o) a b := fun c u h n _ => by rw [upd_ne n]; exact h
theorem Two.free {H H1 : Hp} {a b : Addr} (x : Two H H1 a b) (ha : H1 a ≠ none) (hb : H1 b ≠ none) {d : Addr} (n : H1 d = none) : H d = none := by
  cases y : H d with
  | none => rfl
  | some o =>
    have h1 : d ≠ a := fun e => ha (by rw [← e]; exact n)
    have h2 : d ≠ b := fun e => hb (by rw [← e]; exact n)
    rw [x d o y h1 h2] at n
    cases n
structure RowS (K : PySem.W.Frag) (H : Hp) (p dxp pl r : Addr) (b : Tafl.Bytes) (k : Nat) (t dx : Addr) (l : PL) : Prop where
  ins : H p = some (.ins (c_Line K) dxp [("pieces", .ref pl)])
  rd : RdAt K H r b k t dx
  lt : LT H pl (pTs l)
  ne : t ≠ pl
  pr : p ≠ r
theorem RowS.npl {H : Hp} {p dxp pl r : Addr} {b : Tafl.Bytes} {k : Nat} {t dx : Addr} {l : PL} (R : RowS K H p dxp pl r b k t dx l) : p ≠ pl ∧ r ≠ pl := by
  obtain ⟨vs, h, _⟩ := R.lt.ex
  exact ⟨ne_of R.ins h (by intro z; cases z), ne_of R.rd.ins h (by intro z; cases z)⟩
theorem RowS.read {H H' : Hp} {p dxp pl r : Addr} {b : Tafl.Bytes} {k j : Nat} {t dx : Addr} {l : PL} (R : RowS K H p dxp pl r b k t dx l) (s : But r H H') (rd : RdAt K H' r b j t dx) : RowS K H' p dxp pl r b j t dx l :=
  ⟨s _ _ R.ins R.pr, rd, R.lt.mono (DSame.but R.rd.ins s), R.ne, R.pr⟩
theorem RowS.same {H H' : Hp} {p dxp pl r : Addr} {b : Tafl.Bytes} {k : Nat} {t dx : Addr} {l : PL} (R : RowS K H p dxp pl r b k t dx l) (s : Same H H') : RowS K H' p dxp pl r b k t dx l :=
  ⟨s _ _ R.ins, R.rd.same s, R.lt.mono (DSame.of s), R.ne, R.pr⟩
theorem RowS.some2 {H : Hp} {p dxp pl r : Addr} {b : Tafl.Bytes} {k : Nat} {t dx : Addr} {l : PL} (R : RowS K H p dxp pl r b k t dx l) : H pl ≠ none ∧ H r ≠ none := by
  obtain ⟨vs, h, _⟩ := R.lt.ex
  exact ⟨by rw [h]; exact Option.some_ne_none _, R.rd.some⟩
theorem pTs_app (l : PL) (x : Tafl.Piece × Nat × Nat) : pTs (l ++ [x]) = pTs l ++ [t3 (pT x)] := by
  unfold pTs
  rw [List.map_append, List.map_append]
  rfl
theorem RowS.add {H : Hp} {p dxp pl r : Addr} {b : Tafl.Bytes} {k : Nat} {t dx : Addr} {l : PL} {x : Tafl.Piece × Nat × Nat} {tp : Addr} {vs : List V} (R : RowS K H p dxp pl r b k t dx l) (hv : H pl = some (.lst vs)) (ht : H tp = some (.tup ((t3 (pT x)).map V.int))) : RowS K (L2.upd H pl (.lst (vs ++ [.ref tp]))) p dxp pl r b k t dx (l ++ [x]) := by
  obtain ⟨vs', h, TT⟩ := R.lt.ex
  rw [hv] at h
  cases h
  obtain ⟨n1, n2⟩ := R.npl
  refine ⟨by rw [upd_ne n1]; exact R.ins, ⟨by rw [upd_ne n2]; exact R.rd.ins, by rw [upd_ne R.ne]; exact R.rd.txt⟩, ⟨_, upd_same, ?_⟩, R.ne, R.pr⟩
  rw [pTs_app]
  refine Tups.app (Tups.mono (TSame.lst hv) TT) (Tups.one ⟨tp, rfl, ?_⟩)
  rw [upd_ne (ne_of ht hv (by intro z; cases z))]
  exact ht
def spRow (K : PySem.W.Frag) : Sp := fun vs H Q E => ∃ (p dxp pl r : Addr) (b : Tafl.Bytes) (k : Nat) (t dx : Addr) (l : PL) (wide y f : Nat), vs = [.ref p, .ref r, .int wide, .int y] ∧ RowS K H p dxp pl r b k t dx l ∧ l.length + wide ≤ 900 ∧ wide ≤ 13 ∧ need wide wide y ≤ f ∧
  (∀ q, rrK b wide f wide y false (hasK l) l k = .error q → KE K E H pl r q) ∧
  (∀ f' was l' j, rrK b wide f wide y false (hasK l) l k = rrK b wide f' 0 y was (hasK l') l' j → need wide 0 y ≤ f' → l'.length ≤ l.length + wide → ∀ H', RowS K H' p dxp pl r b j t dx l' → Two H H' pl r → Q .non H')
theorem hasK_app (l : PL) (a : Tafl.Piece) (c k : Nat) : hasK (l ++ [(a, c, k)]) = (hasK l || a == .king) := by
  unfold hasK
  rw [List.any_append, List.any_cons, List.any_nil, Bool.or_false]
theorem ok_Line_read_row (T : Txt K mg) : FnOk P w K mg base (L2N.CX P w) 4 (a_Line_read_row K) T.fd_Line_read_row p_Line_read_row (spRow K) := by
  refine T.F_Line_read_row.ok sc_Line_read_row (fun vs H Q E h => ?_) (fun cdv A outer s H vs Q E hr h => ⟨_, (pss_cons (ps_set (i := 4) sc_Line_read_row.nd rfl (Or.inl rfl) pe_int)
      (pss_cons (ps_set (i := 5) sc_Line_read_row.nd rfl (Or.inl rfl) pe_bl)
      (pss_one (ps_while (passes_of rfl) (pt_cmpR op_lt (pv 4) (pv 2) (nomark _)) (pss_one (ps_if (PW.pt (pw_and (pt_val (pe_call (ok_is_digit T) (hr.mono (by decide)) rfl T.g_is_digit T.F_is_digit.kp (b_is_digit T) .nil pass0 (pa_cons (pe_meth0 (pv 1) T.cl_Reader T.mt_Reader_sign (ok_Reader_sign T) (hr.mono (by decide)) (b_Reader_sign T) .nil pass0) pa_nil))) (pw_and1 (pt_not (pt_val (pv 5)))))) (pss_cons (ps_aug (i := 4) sc_Line_read_row.nd rfl (Or.inl rfl) (pe_meth (pv 1) T.cl_Reader T.mt_Reader_number (ok_Reader_number T) (hr.mono (by decide)) (b_Reader_number T) .nil (L2N.passes_call (L2N.takes_of rfl rfl rfl rfl) (fun _ _ _ _ h => h)) (pa_cons pe_int (pa_cons (pe_op op_sub (pv 2) (pv 4)) pa_nil))) ip_add)
      (pss_one (ps_set (i := 5) sc_Line_read_row.nd rfl (Or.inl rfl) pe_bl))) (pss_cons (ps_set (i := 6) sc_Line_read_row.nd rfl (Or.inl rfl) (pe_fld (pv 1) rfl))
      (pss_cons (ps_set (i := 7) sc_Line_read_row.nd rfl (Or.inl rfl) (pe_op op_add (pe_glob (v := .int 1) rfl T.c_HUNTER ⟨_, rfl⟩) (pe_meth (pv 1) T.cl_Reader T.mt_Reader_choice (ok_Reader_choice T) (hr.mono (by decide)) (b_Reader_choice T) .nil (L2N.passes_call (L2N.takes_of rfl rfl rfl rfl) (fun _ _ _ _ h => h)) (pa_cons (pe_meth0 (pv 0) T.cl_Line T.mt_Line_piece_signs (ok_Line_piece_signs T) (hr.mono (by decide)) (b_Line_piece_signs T) .nil pass0) pa_nil))))
      (pss_cons (ps_expr (pe_bm PySem.F.plainAttrs_list PySem.F.slot_list_append PySem.F.type_list_append mt_append (pe_fld (pv 0) rfl) (pa_cons (pe_tup (pa_cons (pe_op op_add (pe_op op_mul (pe_glob (v := .int 13) rfl T.c_ACROSS ⟨_, rfl⟩) (pv 3)) (pv 4)) (pa_cons (pv 7) (pa_cons (pv 6) pa_nil)))) pa_nil)))
      (pss_cons (ps_aug (i := 4) sc_Line_read_row.nd rfl (Or.inl rfl) pe_int ip_add)
      (pss_one (ps_set (i := 5) sc_Line_read_row.nd rfl (Or.inl rfl) pe_bl)))))))))))), ?_⟩)
  · obtain ⟨p, dxp, pl, r, b, k, t, dx, l, wide, y, f, rfl, _⟩ := h
    rfl
  · obtain ⟨p, dxp, pl, r, b, k, t, dx, l, wide, y, f, rfl, R, hlen, hw, hf, kE, kQ⟩ := h
    refine ⟨fun m σ H' => ∃ (x : Nat) (was : Bool) (pv qv : Option V) (f1 : Nat) (l1 : PL) (k1 : Nat), σ = [some (.ref p), some (.ref r), some (.int wide), some (.int y), some (.int x), some (.bl was), pv, qv] ∧ m = wide - x ∧ x ≤ wide ∧ RowS K H' p dxp pl r b k1 t dx l1 ∧ Two H H' pl r ∧
      rrK b wide f wide y false (hasK l) l k = rrK b wide f1 (wide - x) y was (hasK l1) l1 k1 ∧ need wide (wide - x) y ≤ f1 ∧ l1.length + (wide - x) ≤ l.length + wide, ⟨wide, 0, false, none, none, f, l, k, rfl, rfl, Nat.zero_le _, R, Two.refl, rfl, hf, Nat.le_refl _⟩, ?_⟩
    rintro m σ H1 ⟨x, was, pv, qv, f1, l1, k1, rfl, rfl, hx, R1, s1, e1, hf1, hl1⟩
    refine ⟨_, rfl, _, rfl, _, _, rfl, rfl, _, rfl, ?_⟩
    refine ifB (fun c1 => ?_) fun c1 => ?_
    · have hxw : x < wide := by
        have z : (x : Int) < (wide : Int) := of_decide_eq_true c1
        omega
      obtain ⟨f2, rfl⟩ : ∃ f2, f1 = f2 + 1 := ⟨f1 - 1, by unfold need at hf1; omega⟩
      have hpos : 0 < wide - x := by omega
      refine ⟨fun σ' H' => ∃ m', m' < wide - x ∧ ∃ (x : Nat) (was : Bool) (pv qv : Option V) (f1 : Nat) (l1 : PL) (k1 : Nat), σ' = [some (.ref p), some (.ref r), some (.int wide), some (.int y), some (.int x), some (.bl was), pv, qv] ∧ m' = wide - x ∧ x ≤ wide ∧ RowS K H' p dxp pl r b k1 t dx l1 ∧ Two H H' pl r ∧
        rrK b wide f wide y false (hasK l) l k = rrK b wide f1 (wide - x) y was (hasK l1) l1 k1 ∧ need wide (wide - x) y ≤ f1 ∧ l1.length + (wide - x) ≤ l.length + wide, fun _ _ z => z, ?_⟩
      -- a fault here
      have bad : ∀ q, rrK b wide (f2 + 1) (wide - x) y was (hasK l1) l1 k1 = .error q → GF K E H1 r q := fun q hq d H2 nd s2 hd => by
        have ke := kE q (e1.trans hq)
        exact ke d H2 (s1.free R1.some2.1 R1.some2.2 nd) (fun a o ho n1 n2 => s2 a o (s1 a o ho n1 n2) n2) hd
      refine ifS_of (digI (signI b k1) && !was) (fun Q' q' => ?_) (fun hc => ?_) (fun hc => ?_)
      · refine ⟨_, rfl, r, dx, _, rfl, R1.rd.ins, rfl, r, b, k1, t, dx, rfl, R1.rd, signI b k1, rfl, _, rfl, ?_⟩
        refine ifB (fun h1 => ?_) fun h1 => ?_
        · rw [h1, Bool.true_and] at q'
          exact ⟨_, rfl, _, rfl, q'⟩
        · rw [h1, Bool.false_and] at q'
          exact q'
      · -- a number
        obtain ⟨h1, h2⟩ := Bool.and_eq_true_iff.mp hc
        have hwas : was = false := by simpa using h2
        subst hwas
        obtain ⟨c, hcc, hdig⟩ := dig_sign.mp h1
        have e2 := rr_num (b := b) (wide := wide) (f := f2) (left := wide - x) (rows := y) (king := hasK l1) (l := l1) (k := k1) hpos hcc hdig
        have ez : (wide : Int) - (x : Int) = ((wide - x : Nat) : Int) := by omega
        refine ⟨_, rfl, _, rfl, r, dx, _, rfl, R1.rd.ins, rfl, _, rfl, _, rfl, _, _, rfl, rfl, r, b, k1, t, dx, 1, wide - x, congrArg (fun z : Int => [V.ref r, V.int 1, V.int z]) ez, R1.rd, by omega, fun q hq => bad q ?_, fun v j hv H2 R2 s2 => ?_⟩
        · have y := map_err hq
          rw [num_run (by omega)] at y
          rw [e2, y]
        · obtain ⟨⟨n, j2⟩, y1, y2⟩ := map_ok hv
          cases y2
          rw [num_run (by omega)] at y1
          have hn := run_in y1
          rw [y1] at e2
          dsimp only at e2
          refine ⟨_, _, rfl, rfl, ?_⟩
          refine ⟨wide - (x + n), by omega, x + n, true, pv, qv, f2, l1, j2, ?_, rfl, by omega, R1.read s2 R2, s1.trans (Two.but s2), ?_, ?_, by omega⟩
          · rw [Int.natCast_add]
            rfl
          · rw [e1, e2, Nat.sub_sub]
          · unfold need at hf1 ⊢
            omega
      · -- a piece
        have hs : was = true ∨ ∀ c, b[k1]? = some c → ¬ Tafl.isDigit c = true := by
          cases was with
          | true => exact .inl rfl
          | false =>
            refine .inr fun c hcc hd => ?_
            rw [dig_sign.mpr ⟨c, hcc, hd⟩] at hc
            cases hc
        refine ⟨_, rfl, r, _, dx, _, _, rfl, R1.rd.ins, T.cl_Reader, T.na_Reader_place, rfl, ?_⟩
        refine ⟨_, rfl, r, dx, _, rfl, R1.rd.ins, rfl, _, rfl, p, dxp, _, rfl, R1.ins, rfl, p, dxp, pl, l1, rfl, R1.ins, R1.lt, by omega, fun H2 s2 => ?_⟩
        have R2 := R1.same s2
        have W := lineW (hasK l1)
        refine ⟨r, b, k1, t, dx, _, lWs (hasK l1), rfl, R2.rd, W.words, fun q hq => ?_, fun v j hv H3 R3 s3 => ?_⟩
        · have y := map_err hq
          rw [W.is] at y
          cases ha : (b[k1]?).bind (lineSign (hasK l1)) with
          | some a =>
            rw [ha] at y
            cases y
          | none =>
            rw [ha] at y
            have yq : k1 = q := by injection y
            subst yq
            have g := bad k1 (rr_bad hpos ha hs)
            exact fun d H3 nd s3 hd => g d H3 (s2.free nd) (Same.but s2 s3) hd
        · obtain ⟨⟨n, j2⟩, y1, y2⟩ := map_ok hv
          cases y2
          rw [W.is] at y1
          cases ha : (b[k1]?).bind (lineSign (hasK l1)) with
          | none =>
            rw [ha] at y1
            cases y1
          | some a =>
            rw [ha] at y1
            have yq : (lIx a, k1 + 1) = (n, j2) := by injection y1
            cases yq
            have ep : (1 : Int) + (lIx a : Nat) = (pIx a : Nat) := by
              obtain ⟨c, hcc, hcl⟩ := Option.bind_eq_some_iff.mp ha
              rw [lIx_pIx hcl]
              omega
            have R4 := R2.read s3 R3
            obtain ⟨vs3, hvs3, TT3⟩ := R4.lt.ex
            have hvl : vs3.length = l1.length := by
              rw [TT3.len]
              unfold pTs
              rw [List.length_map, List.length_map]
            refine ⟨_, _, rfl, rfl, ?_⟩
            refine ⟨_, rfl, p, _, dxp, _, _, rfl, R4.ins, T.cl_Line, T.na_Line_pieces, rfl, tyL hvs3, _, rfl, _, _, rfl, rfl, .inl ⟨by decide, by decide⟩, _, rfl, _, _, rfl, rfl, _, rfl, _, rfl, (by show 3 ≤ sizeLine; decide), fun tp ntp => ?_⟩
            have st := Same.upd (H := H3) (o := .tup [V.int ((13 : Int) * (y : Nat) + (x : Nat)), V.int ((1 : Int) + (lIx a : Nat)), V.int (k1 : Nat)]) ntp
            refine ⟨pl, vs3, _, rfl, rfl, st _ _ hvs3, line1000 (by omega), ?_⟩
            refine ⟨_, rfl, _, _, rfl, rfl, ?_⟩
            have R5 := R4.same st
            have et : (13 : Int) * (y : Nat) + (x : Nat) = ((Tafl.cellOf (wide - (wide - x)) y : Nat) : Int) := by
              unfold Tafl.cellOf Tafl.STRIDE
              omega
            have ht : (L2.upd H3 tp (.tup [V.int ((13 : Int) * (y : Nat) + (x : Nat)), V.int ((1 : Int) + (lIx a : Nat)), V.int (k1 : Nat)])) tp = some (.tup ((t3 (pT (a, Tafl.cellOf (wide - (wide - x)) y, k1))).map V.int)) := by
              rw [upd_same, et, ep]
              rfl
            have e2 := rr_piece (b := b) (wide := wide) (f := f2) (left := wide - x) (rows := y) (was := was) (king := hasK l1) (l := l1) (k := k1) hpos ha
            refine ⟨wide - (x + 1), by omega, x + 1, false, _, _, f2, l1 ++ [(a, Tafl.cellOf (wide - (wide - x)) y, k1)], k1 + 1, rfl, rfl, by omega, R5.add (st _ _ hvs3) ht, ?_, ?_, ?_, ?_⟩
            · exact s1.trans ((Two.same s2).trans ((Two.but s3).trans ((Two.same st).trans Two.upd)))
            · rw [e1, e2, hasK_app, Nat.sub_sub]
            · unfold need at hf1 ⊢
              omega
            · rw [List.length_append]
              show l1.length + 1 + (wide - (x + 1)) ≤ _
              omega
    · have z : x = wide := by
        have z : ¬ (x : Int) < (wide : Int) := of_decide_eq_false c1
        omega
      subst z
      rw [Nat.sub_self] at e1 hf1 hl1
      exact kQ f1 was l1 k1 e1 hf1 (by omega) H1 R1 s1
end
end Tf
set_option Elab.async false
set_option linter.all false
set_option maxRecDepth 100000
set_option maxHeartbeats 4000000
/-! Positions: sets of cells and boards. -/
namespace Tf
open TfM
open Tafl (Piece Kind Rules Pos)
/-! ### sets of cells -/
theorem set_fold (c : Nat) : ∀ (l : List Nat) (n : Nat), (l.foldl (fun (n c : Nat) => n ||| 2 ^ c) n).testBit c = (n.testBit c || l.contains c)
  | [], n => by simp
  | a :: l, n => by
    rw [List.foldl_cons, set_fold c l, Nat.testBit_or, Nat.testBit_two_pow, List.contains_cons, Bool.or_assoc]
    congr 2
    rw [Bool.eq_iff_iff]
    simp only [decide_eq_true_eq, beq_iff_eq]
    exact eq_comm
theorem set_bit (l : List Nat) (c : Nat) : (Tafl.setFrom l).testBit c = l.contains c := by
  unfold Tafl.setFrom
  rw [set_fold, Nat.zero_testBit, Bool.false_or]
theorem mem_cellsIn {n c : Nat} : c ∈ Tafl.cellsIn n ↔ c < 192 ∧ n.testBit c = true := by
  unfold Tafl.cellsIn Tafl.GONE
  rw [List.mem_filter, List.mem_range]
/-! ### a line's pieces -/
structure LOk (ru : Rules) (l : PL) : Prop where
  all : ∀ x ∈ l, x.1 ≠ .none ∧ x.2.1 % 13 < ru.wide ∧ x.2.1 / 13 < ru.high
  pw : l.Pairwise fun a b => a.2.1 ≠ b.2.1 ∧ ¬ (a.1 = .king ∧ b.1 = .king)
def Bef (wide left rows c : Nat) : Prop := rows < c / 13 ∨ (c / 13 = rows ∧ c % 13 < wide - left)
theorem sign_some {king : Bool} {x : UInt8} {a : Piece} (h : lineSign king x = some a) : a ≠ .none ∧ (a = .king → king = false) := by
  unfold lineSign at h
  split at h
  · cases h
    exact ⟨by decide, fun y => by cases y⟩
  · split at h
    · cases h
      exact ⟨by decide, fun y => by cases y⟩
    · split at h
      · rename_i hk
        cases h
        exact ⟨by decide, fun _ => hk.2⟩
      · cases h
theorem not_hasK {l : PL} (h : hasK l = false) : ∀ x ∈ l, ¬ x.1 = .king := fun x hx e => by
  unfold hasK at h
  rw [List.any_eq_false] at h
  exact h x hx (by rw [e]; rfl)
theorem rr_inv {ru : Rules} (S : Shaped ru) {b : Tafl.Bytes} : ∀ (f left rows : Nat) (was : Bool) (l : PL) (k : Nat) (l' : PL) (side j : Nat), left ≤ ru.wide → rows < ru.high → LOk ru l → (∀ x ∈ l, Bef ru.wide left rows x.2.1) →
    rrK b ru.wide f left rows was (hasK l) l k = .ok (l', side, j) → LOk ru l' ∧ side < 2
  | 0, left, rows, was, l, k, l', side, j, _, _, _, _, h => by cases h
  | f + 1, left, rows, was, l, k, l', side, j, hl, hr, O, B, h => by
    have w13 := S.w13
    have h13 := S.h13
    by_cases hz : left = 0
    · subst hz
      by_cases hr0 : rows = 0
      · subst hr0
        rw [rr_end] at h
        cases hlit : litK b [32] k with
        | error p =>
          rw [hlit] at h
          cases h
        | ok q =>
          rw [hlit] at h
          dsimp only at h
          split at h
          · have y : (l, 0, q + 1) = (l', side, j) := by injection h
            cases y
            exact ⟨O, by decide⟩
          · split at h
            · have y : (l, 1, q + 1) = (l', side, j) := by injection h
              cases y
              exact ⟨O, by decide⟩
            · cases h
      · rw [rr_next (by omega)] at h
        cases hlit : litK b [47] k with
        | error p =>
          rw [hlit] at h
          cases h
        | ok q =>
          rw [hlit] at h
          refine rr_inv S f ru.wide (rows - 1) false l q l' side j (Nat.le_refl _) (by omega) O (fun x hx => ?_) h
          rcases B x hx with h1 | h1
          · exact .inl (by omega)
          · exact .inl (by omega)
    · have hpos : 0 < left := by omega
      cases ha : (b[k]?).bind (lineSign (hasK l)) with
      | some a =>
        rw [rr_piece hpos ha, ← hasK_app] at h
        obtain ⟨c, hcc, hcl⟩ := Option.bind_eq_some_iff.mp ha
        have hs := sign_some hcl
        obtain ⟨m1, m2⟩ := cell_mod (x := ru.wide - left) (y := rows) (by omega)
        refine rr_inv S f (left - 1) rows false (l ++ [(a, Tafl.cellOf (ru.wide - left) rows, k)]) (k + 1) l' side j (by omega) hr ⟨fun x hx => ?_, ?_⟩ (fun x hx => ?_) h
        · rcases List.mem_append.mp hx with hx | hx
          · exact O.all x hx
          · cases List.mem_singleton.mp hx
            refine ⟨hs.1, ?_, ?_⟩
            · show Tafl.cellOf (ru.wide - left) rows % 13 < ru.wide
              omega
            · show Tafl.cellOf (ru.wide - left) rows / 13 < ru.high
              omega
        · rw [List.pairwise_append]
          refine ⟨O.pw, List.pairwise_singleton _ _, fun x hx y hy => ?_⟩
          cases List.mem_singleton.mp hy
          refine ⟨fun e => ?_, fun e => ?_⟩
          · have e' : x.2.1 = Tafl.cellOf (ru.wide - left) rows := e
            have := B x hx
            rw [e'] at this
            unfold Bef at this
            omega
          · exact not_hasK (hs.2 e.2) x hx e.1
        · rcases List.mem_append.mp hx with hx | hx
          · rcases B x hx with h1 | h1
            · exact .inl h1
            · exact .inr (by omega)
          · cases List.mem_singleton.mp hx
            refine .inr ⟨m2, ?_⟩
            show Tafl.cellOf (ru.wide - left) rows % 13 < _
            omega
      | none =>
        by_cases hw : was = true ∨ ∀ x, b[k]? = some x → ¬ Tafl.isDigit x = true
        · rw [rr_bad hpos ha hw] at h
          cases h
        · have hwas : was = false := by
            cases was with
            | true => exact absurd (.inl rfl) hw
            | false => rfl
          subst hwas
          have hex : ∃ x, b[k]? = some x ∧ Tafl.isDigit x = true := by
            cases hx : b[k]? with
            | none => exact absurd (.inr fun x hx2 => by rw [hx] at hx2; cases hx2) hw
            | some x =>
              by_cases hd : Tafl.isDigit x = true
              · exact ⟨x, rfl, hd⟩
              · exact absurd (.inr fun y hy => by rw [hx] at hy; cases hy; exact hd) hw
          obtain ⟨x, hx, hd⟩ := hex
          rw [rr_num hpos hx hd] at h
          cases hrun : runK b left k with
          | error e =>
            rw [hrun] at h
            cases h
          | ok q =>
            obtain ⟨n, i⟩ := q
            rw [hrun] at h
            have hn := run_in hrun
            refine rr_inv S f (left - n) rows true l i l' side j (by omega) hr O (fun x hx => ?_) h
            rcases B x hx with h1 | h1
            · exact .inl h1
            · exact .inr (by omega)
theorem line_inv {ru : Rules} (S : Shaped ru) {b : Tafl.Bytes} {l : PL} {side : Nat} (h : lineK ru b = .ok (l, side)) : LOk ru l ∧ side < 2 := by
  unfold lineK at h
  cases hr : rrK b ru.wide (2 * Tafl.LINE) ru.wide (ru.high - 1) false false [] 0 with
  | error p =>
    rw [hr] at h
    cases h
  | ok q =>
    obtain ⟨l1, s1, j⟩ := q
    rw [hr] at h
    dsimp only at h
    have h5 := S.h5
    have y := rr_inv S (2 * Tafl.LINE) ru.wide (ru.high - 1) false [] 0 l1 s1 j (Nat.le_refl _) (by omega) ⟨(fun x hx => (by cases hx)), List.Pairwise.nil⟩ (fun x hx => (by cases hx)) hr
    split at h
    · have z : (l1, s1) = (l, side) := by injection h
      cases z
      exact y
    · cases h
/-! ### positions -/
structure Good (ru : Rules) (p : Pos) : Prop where
  kg : p.king = 255 ∨ (p.king < 169 ∧ onG ru p.king = true)
  hk : p.hunters.testBit p.king = false
  mn : p.men.testBit p.king = false
  hm : ∀ c, p.hunters.testBit c = true → p.men.testBit c = false
  ho : ∀ c, p.hunters.testBit c = true → c < 169 ∧ onG ru c = true
  mo : ∀ c, p.men.testBit c = true → c < 169 ∧ onG ru c = true
  sd : p.side < 2
def boardL (p : Pos) : List Nat := (List.range 169).map fun c => pIx (p.on c)
def kingN (p : Pos) : Nat := if p.king = 255 then 169 else p.king
theorem board_at {p : Pos} {c : Nat} (h : c < 169) : (boardL p)[c]? = some (pIx (p.on c)) := by
  unfold boardL
  rw [List.getElem?_map, List.getElem?_range h]
  rfl
theorem board_len (p : Pos) : (boardL p).length = 169 := by
  unfold boardL
  rw [List.length_map, List.length_range]
theorem board_ext {p : Pos} {l : List Nat} (hl : l.length = 169) (h : ∀ c, c < 169 → l[c]? = some (pIx (p.on c))) : l = boardL p := by
  refine List.ext_getElem? fun c => ?_
  by_cases hc : c < 169
  · rw [h c hc, board_at hc]
  · rw [List.getElem?_eq_none (by omega), List.getElem?_eq_none (by rw [board_len]; omega)]
/-- the position of a line's pieces -/
def posL (l : PL) (side : Nat) : Pos := ⟨Tafl.setFrom (l.filterMap fun (x : Piece × Nat × Nat) => if x.1 = .hunter then some x.2.1 else none), Tafl.setFrom (l.filterMap fun (x : Piece × Nat × Nat) => if x.1 = .man then some x.2.1 else none), ((l.find? fun (x : Piece × Nat × Nat) => x.1 == .king).map fun (x : Piece × Nat × Nat) => x.2.1).getD Tafl.TAKEN, side⟩
theorem pos_bit {l : PL} {a : Piece} {c : Nat} : (Tafl.setFrom (l.filterMap fun (x : Piece × Nat × Nat) => if x.1 = a then some x.2.1 else none)).testBit c = true ↔ ∃ x ∈ l, x.1 = a ∧ x.2.1 = c := by
  rw [set_bit, List.contains_iff_mem, List.mem_filterMap]
  constructor
  · rintro ⟨x, hx, h⟩
    split at h
    · rename_i ha
      cases h
      exact ⟨x, hx, ha, rfl⟩
    · cases h
  · rintro ⟨x, hx, h1, h2⟩
    exact ⟨x, hx, by rw [if_pos h1, h2]⟩
theorem pw_mem {α : Type} {R : α → α → Prop} {l : List α} (h : l.Pairwise R) (sy : ∀ a b, R a b → R b a) {x y : α} (hx : x ∈ l) (hy : y ∈ l) (n : x ≠ y) : R x y := by
  induction h with
  | nil => cases hx
  | cons h1 _ ih =>
    rcases List.mem_cons.mp hx with e1 | hx1
    · rcases List.mem_cons.mp hy with e2 | hy1
      · exact absurd (e1.trans e2.symm) n
      · rw [e1]
        exact h1 _ hy1
    · rcases List.mem_cons.mp hy with e2 | hy1
      · rw [e2]
        exact sy _ _ (h1 _ hx1)
      · exact ih hx1 hy1
theorem LOk.cell {ru : Rules} {l : PL} (O : LOk ru l) {x y : Piece × Nat × Nat} (hx : x ∈ l) (hy : y ∈ l) (e : x.2.1 = y.2.1) : x = y := by
  by_cases n : x = y
  · exact n
  · exact absurd e (pw_mem O.pw (fun a b h => ⟨fun e => h.1 e.symm, fun e => h.2 ⟨e.2, e.1⟩⟩) hx hy n).1
theorem LOk.king {ru : Rules} {l : PL} (O : LOk ru l) {x y : Piece × Nat × Nat} (hx : x ∈ l) (hy : y ∈ l) (ex : x.1 = .king) (ey : y.1 = .king) : x = y := by
  by_cases n : x = y
  · exact n
  · exact absurd ⟨ex, ey⟩ (pw_mem O.pw (fun a b h => ⟨fun e => h.1 e.symm, fun e => h.2 ⟨e.2, e.1⟩⟩) hx hy n).2
theorem LOk.lt {ru : Rules} (S : Shaped ru) {l : PL} (O : LOk ru l) {x : Piece × Nat × Nat} (hx : x ∈ l) : x.2.1 < 169 ∧ onG ru x.2.1 = true := by
  obtain ⟨_, h1, h2⟩ := O.all x hx
  have := S.h13
  refine ⟨by omega, ?_⟩
  unfold onG
  rw [decide_eq_true h1, decide_eq_true h2]
  rfl
theorem king_some {ru : Rules} {l : PL} {side : Nat} (O : LOk ru l) {x : Piece × Nat × Nat} (hx : x ∈ l) (e : x.1 = .king) : (posL l side).king = x.2.1 := by
  unfold posL
  dsimp only
  cases hf : l.find? fun (x : Piece × Nat × Nat) => x.1 == .king with
  | none =>
    rw [List.find?_eq_none] at hf
    exact absurd (by rw [e]; rfl) (hf x hx)
  | some y =>
    have hy := List.mem_of_find?_eq_some hf
    have ey : y.1 = .king := by
      have := List.find?_some hf
      exact beq_iff_eq.mp this
    rw [O.king hx hy e ey]
    rfl
theorem king_none {l : PL} {side : Nat} (h : ∀ x ∈ l, ¬ x.1 = .king) : (posL l side).king = 255 := by
  unfold posL
  dsimp only
  have hf : (l.find? fun (x : Piece × Nat × Nat) => x.1 == .king) = none := by
    rw [List.find?_eq_none]
    intro x hx e
    exact h x hx (beq_iff_eq.mp e)
  rw [hf]
  rfl
theorem pos_on {ru : Rules} (S : Shaped ru) {l : PL} {side : Nat} (O : LOk ru l) {x : Piece × Nat × Nat} (hx : x ∈ l) : (posL l side).on x.2.1 = x.1 := by
  unfold Tafl.Pos.on
  have o := (O.all x hx).1
  have bh : (posL l side).hunters.testBit x.2.1 = true ↔ x.1 = .hunter := by
    show (Tafl.setFrom _).testBit _ = true ↔ _
    rw [pos_bit]
    constructor
    · rintro ⟨y, hy, e1, e2⟩
      rw [← O.cell hy hx e2]
      exact e1
    · intro e
      exact ⟨x, hx, e, rfl⟩
  have bm : (posL l side).men.testBit x.2.1 = true ↔ x.1 = .man := by
    show (Tafl.setFrom _).testBit _ = true ↔ _
    rw [pos_bit]
    constructor
    · rintro ⟨y, hy, e1, e2⟩
      rw [← O.cell hy hx e2]
      exact e1
    · intro e
      exact ⟨x, hx, e, rfl⟩
  have bk : (posL l side).king = x.2.1 ↔ x.1 = .king := by
    constructor
    · intro e
      by_cases hk : ∃ y ∈ l, y.1 = .king
      · obtain ⟨y, hy, ey⟩ := hk
        rw [king_some O hy ey] at e
        rw [← O.cell hy hx e]
        exact ey
      · rw [king_none (fun y hy ey => hk ⟨y, hy, ey⟩)] at e
        have := (O.lt S hx).1
        omega
    · exact king_some O hx
  cases h : x.1 with
  | none => exact absurd h o
  | king => rw [if_pos (bk.mpr h)]
  | hunter => rw [if_neg (fun y => by rw [bk.mp y] at h; cases h), if_pos (bh.mpr h)]
  | man => rw [if_neg (fun y => by rw [bk.mp y] at h; cases h), if_neg (fun y => by rw [bh.mp y] at h; cases h), if_pos (bm.mpr h)]
theorem pos_off {ru : Rules} {l : PL} {side c : Nat} (O : LOk ru l) (hc : c < 169) (h : ∀ x ∈ l, ¬ x.2.1 = c) : (posL l side).on c = .none := by
  unfold Tafl.Pos.on
  rw [if_neg, if_neg, if_neg]
  · intro e
    have e : (Tafl.setFrom _).testBit _ = true := e
    rw [pos_bit] at e
    obtain ⟨y, hy, _, e2⟩ := e
    exact h y hy e2
  · intro e
    have e : (Tafl.setFrom _).testBit _ = true := e
    rw [pos_bit] at e
    obtain ⟨y, hy, _, e2⟩ := e
    exact h y hy e2
  · intro e
    by_cases hk : ∃ y ∈ l, y.1 = .king
    · obtain ⟨y, hy, ey⟩ := hk
      rw [king_some O hy ey] at e
      exact h y hy e
    · rw [king_none (fun y hy ey => hk ⟨y, hy, ey⟩)] at e
      omega
theorem pos_good {ru : Rules} (S : Shaped ru) {l : PL} {side : Nat} (O : LOk ru l) (hs : side < 2) : Good ru (posL l side) := by
  have hb : ∀ c, (posL l side).hunters.testBit c = true → ∃ x ∈ l, x.1 = .hunter ∧ x.2.1 = c := fun c h => pos_bit.mp h
  have mb : ∀ c, (posL l side).men.testBit c = true → ∃ x ∈ l, x.1 = .man ∧ x.2.1 = c := fun c h => pos_bit.mp h
  have nb : ∀ (a : Piece), a ≠ .king → ∀ x ∈ l, x.1 = a → x.2.1 = (posL l side).king → False := fun a ha x hx e1 e2 => by
    by_cases hk : ∃ y ∈ l, y.1 = .king
    · obtain ⟨y, hy, ey⟩ := hk
      rw [king_some O hy ey] at e2
      rw [O.cell hx hy e2] at e1
      exact ha (e1.symm.trans ey)
    · rw [king_none (fun y hy ey => hk ⟨y, hy, ey⟩)] at e2
      have := (O.lt S hx).1
      omega
  refine ⟨?_, ?_, ?_, fun c h => ?_, fun c h => ?_, fun c h => ?_, hs⟩
  · by_cases hk : ∃ y ∈ l, y.1 = .king
    · obtain ⟨y, hy, ey⟩ := hk
      rw [king_some O hy ey]
      exact .inr (O.lt S hy)
    · exact .inl (king_none (fun y hy ey => hk ⟨y, hy, ey⟩))
  · rw [← Bool.not_eq_true]
    intro h
    obtain ⟨x, hx, e1, e2⟩ := hb _ h
    exact nb .hunter (by decide) x hx e1 e2
  · rw [← Bool.not_eq_true]
    intro h
    obtain ⟨x, hx, e1, e2⟩ := mb _ h
    exact nb .man (by decide) x hx e1 e2
  · rw [← Bool.not_eq_true]
    intro h2
    obtain ⟨x, hx, e1, e2⟩ := hb _ h
    obtain ⟨y, hy, e3, e4⟩ := mb _ h2
    rw [O.cell hx hy (e2.trans e4.symm)] at e1
    rw [e1] at e3
    cases e3
  · obtain ⟨x, hx, e1, e2⟩ := hb _ h
    rw [← e2]
    exact O.lt S hx
  · obtain ⟨x, hx, e1, e2⟩ := mb _ h
    rw [← e2]
    exact O.lt S hx
theorem kind_eq {ru : Rules} {c : Nat} (hc : c < 169) (h : onG ru c = true) : gAt ru c = kIx (ru.kindAt c) := by
  have y := gAt_eq (ru := ru) hc
  rw [glist_at hc, if_pos h] at y
  have e : ru.isCell c = true := h
  unfold Tafl.Rules.kindAt
  rw [if_pos e]
  exact (Option.some.inj y).symm
theorem ms_eq {p : Piece} {k : Kind} (h : p ≠ .none) : msB p k = Tafl.mayStand p k := by
  cases p with
  | none => exact absurd rfl h
  | _ => rfl
/-- the board that is built -/
def setB (l : PL) : List Nat := l.foldl (fun g x => g.set x.2.1 (pIx x.1)) (List.replicate 169 0)
theorem setB_len (l : PL) : (setB l).length = 169 := by
  unfold setB
  rw [fold_len (f := fun x : Piece × Nat × Nat => x.2.1) (v := fun x => pIx x.1), List.length_replicate]
theorem setB_eq {ru : Rules} (S : Shaped ru) {l : PL} {side : Nat} (O : LOk ru l) : setB l = boardL (posL l side) := by
  refine board_ext (setB_len l) fun c hc => ?_
  unfold setB
  by_cases h : ∃ x ∈ l, x.2.1 = c
  · obtain ⟨x, hx, rfl⟩ := h
    rw [fold_set (f := fun x : Piece × Nat × Nat => x.2.1) (v := fun x => pIx x.1) (x := pIx x.1) l _ (by rw [List.length_replicate]; exact hc) (fun y hy e => by rw [O.cell hy hx e]), if_pos ⟨x, hx, rfl⟩, pos_on S O hx]
  · rw [fold_set (f := fun x : Piece × Nat × Nat => x.2.1) (v := fun x => pIx x.1) (x := 0) l _ (by rw [List.length_replicate]; exact hc) (fun y hy e => absurd ⟨y, hy, e⟩ h), if_neg h, List.getElem?_replicate, if_pos hc, pos_off O hc (fun x hx e => h ⟨x, hx, e⟩)]
    rfl
/-- the king's cell as it is told, one piece after another -/
def lastK (l : PL) : Nat := l.foldl (fun k x => if x.1 = .king then x.2.1 else k) 169
theorem lastK_none : ∀ (l : PL) (k : Nat), (∀ x ∈ l, ¬ x.1 = .king) → l.foldl (fun k x => if x.1 = .king then x.2.1 else k) k = k
  | [], k, _ => rfl
  | x :: l, k, h => by
    rw [List.foldl_cons, if_neg (h x List.mem_cons_self)]
    exact lastK_none l k fun y hy => h y (List.mem_cons_of_mem _ hy)
theorem lastK_some {ru : Rules} : ∀ (l : PL) (k : Nat) (x : Piece × Nat × Nat), LOk ru l → x ∈ l → x.1 = .king → l.foldl (fun k x => if x.1 = .king then x.2.1 else k) k = x.2.1
  | [], k, x, _, hx, _ => by cases hx
  | a :: l, k, x, O, hx, e => by
    have O' : LOk ru l := ⟨fun y hy => O.all y (List.mem_cons_of_mem _ hy), (List.pairwise_cons.mp O.pw).2⟩
    rw [List.foldl_cons]
    by_cases ha : a.1 = .king
    · rw [if_pos ha, lastK_none l _ fun y hy ey => ?_]
      · rw [O.king hx List.mem_cons_self e ha]
      · exact (List.pairwise_cons.mp O.pw).1 y hy |>.2 ⟨ha, ey⟩
    · rw [if_neg ha]
      rcases List.mem_cons.mp hx with rfl | hx
      · exact absurd e ha
      · exact lastK_some l k x O' hx e
theorem lastK_eq {ru : Rules} (S : Shaped ru) {l : PL} {side : Nat} (O : LOk ru l) : lastK l = kingN (posL l side) := by
  unfold kingN lastK
  by_cases hk : ∃ y ∈ l, y.1 = .king
  · obtain ⟨y, hy, ey⟩ := hk
    rw [lastK_some l 169 y O hy ey, king_some O hy ey, if_neg]
    have := (O.lt S hy).1
    omega
  · have hn : ∀ y ∈ l, ¬ y.1 = .king := fun y hy ey => hk ⟨y, hy, ey⟩
    rw [lastK_none l 169 hn, king_none hn, if_pos rfl]
end Tf
set_option Elab.async false
set_option linter.all false
set_option maxRecDepth 100000
set_option maxHeartbeats 8000000
/-! A line. -/
namespace Tf
open PySem PySem.Spec PyProof.Rows L2 TfX TfM
section
variable {P : Program} {w : World} {K : PySem.W.Frag} {mg : Str → Option Value} {base : Heap}
def turnS (x : UInt8) : Option Nat := if x = 104 then some 0 else if x = 107 then some 1 else none
theorem turnW : SignW "h k" [[104], [107]] turnS id := by
  refine ⟨w_turn, fun b k => ?_⟩
  rw [show ([[104], [107]] : List Tafl.Bytes) = ([104, 107] : List UInt8).map fun x => [x] from rfl, single]
  cases hx : b[k]? with
  | none => rfl
  | some x =>
    rw [Option.bind_some]
    dsimp only
    unfold turnS
    by_cases h2 : x = 104
    · subst h2
      rfl
    by_cases h3 : x = 107
    · subst h3
      rfl
    rw [if_neg h2, if_neg h3]
    have e : (numbered (([104, 107] : List UInt8).map fun x => [x])).filterMap (fun (w : Nat × Tafl.Bytes) => if w.2.head? = some x then some (w.1, w.2.drop 1) else none) = [] := by
      show [(0, [104]), (1, [107])].filterMap _ = []
      have n2 : ¬ (some (104 : UInt8) = some x) := fun y => h2 (Option.some.inj y).symm
      have n3 : ¬ (some (107 : UInt8) = some x) := fun y => h3 (Option.some.inj y).symm
      simp only [List.filterMap_cons, List.head?_cons, n2, n3, if_false, List.filterMap_nil]
    rw [e]
def spLine (K : PySem.W.Frag) : Sp := fun vs H Q E => ∃ (p dxp r : Addr) (b : Tafl.Bytes) (t dx : Addr) (ru : Tafl.Rules), vs = [.ref p, .ref r, .int ru.wide, .int ru.high] ∧ H p = some (.ins (c_Line K) dxp []) ∧ RdAt K H r b 0 t dx ∧ Shaped ru ∧
  (∀ q, lineK ru b = .error q → KE K E H p r q) ∧ (∀ l side, lineK ru b = .ok (l, side) → ∀ H' pl, H' p = some (.ins (c_Line K) dxp [("pieces", .ref pl), ("turn", .int side)]) → LT H' pl (pTs l) → l.length ≤ 900 → (∀ a o, H a = some o → a ≠ p → a ≠ r → H' a = some o) → Q .non H')
theorem ok_Line_init (T : Txt K mg) : FnOk P w K mg base (L2N.CX P w) 5 (a_Line_init K) T.fd_Line_init p_Line_init (spLine K) := by
  refine T.F_Line_init.ok sc_Line_init (fun vs H Q E h => ?_) (fun cdv A outer s H vs Q E hr h => ⟨_, (pss_cons (ps_fld (pv 0) (pe_lst pa_nil) rfl)
      (pss_cons (ps_for (passes_of rfl) rfl (pi_range3 rfl T.m_range (pa_cons (pe_op op_sub (pv 3) pe_int) (pa_cons (pe_un un_neg pe_int) (pa_cons (pe_un un_neg pe_int) pa_nil)))) (pg_name (i := 4) sc_Line_init.nd rfl (Or.inl rfl)) (pss_cons (ps_expr (pe_meth (pv 0) T.cl_Line T.mt_Line_read_row (ok_Line_read_row T) (hr.mono (by decide)) (b_Line_read_row T) .nil (L2N.passes_call (L2N.takes_of rfl rfl rfl rfl) (fun _ _ _ _ h => h)) (pa_cons (pv 1) (pa_cons (pv 2) (pa_cons (pv 4) pa_nil)))))
      (pss_one (ps_if (pt_cmpR op_gt (pv 4) pe_int (nomark _)) (pss_one (ps_expr (pe_meth (pv 1) T.cl_Reader T.mt_Reader_word (ok_Reader_word T) (hr.mono (by decide)) (b_Reader_word T) .nil (L2N.passes_call (L2N.takes_of rfl rfl rfl rfl) (fun _ _ _ _ h => h)) (pa_cons pe_str pa_nil)))) pss_nil))))
      (pss_cons (ps_expr (pe_meth (pv 1) T.cl_Reader T.mt_Reader_word (ok_Reader_word T) (hr.mono (by decide)) (b_Reader_word T) .nil (L2N.passes_call (L2N.takes_of rfl rfl rfl rfl) (fun _ _ _ _ h => h)) (pa_cons pe_str pa_nil)))
      (pss_cons (ps_fld (pv 0) (pe_meth (pv 1) T.cl_Reader T.mt_Reader_choice (ok_Reader_choice T) (hr.mono (by decide)) (b_Reader_choice T) .nil (L2N.passes_call (L2N.takes_of rfl rfl rfl rfl) (fun _ _ _ _ h => h)) (pa_cons pe_str pa_nil)) rfl)
      (pss_one (ps_expr (pe_meth0 (pv 1) T.cl_Reader T.mt_Reader_finish (ok_Reader_finish T) (hr.mono (by decide)) (b_Reader_finish T) .nil (L2N.passes_call (L2N.takes_of rfl rfl rfl rfl) (fun _ _ _ _ h => h))))))))), ?_⟩)
  · obtain ⟨p, dxp, r, b, t, dx, ru, rfl, _⟩ := h
    rfl
  · obtain ⟨p, dxp, r, b, t, dx, ru, rfl, hp, R, S, kE, kQ⟩ := h
    have w13 := S.w13
    have h13 := S.h13
    have h5 := S.h5
    have npr : p ≠ r := ne_of hp R.ins (by intro z; injection z with z1 z2 z3; cases z3)
    refine ⟨Nat.zero_le _, fun pl npl => ⟨_, rfl, p, _, dxp, _, rfl, Same.upd npl _ _ hp, T.cl_Line, T.na_Line_pieces, (by show 0 < 1000; decide), ?_⟩⟩
    have nlp : pl ≠ p := fun e => by rw [e, hp] at npl; cases npl
    have nlr : pl ≠ r := fun e => by rw [e, R.ins] at npl; cases npl
    have nlt : t ≠ pl := fun e => by rw [← e, R.txt] at npl; cases npl
    have ntp : t ≠ p := ne_of R.txt hp (by intro z; cases z)
    generalize hH1 : L2.upd (L2.upd H pl _) p _ = H1
    have R1 : RowS K H1 p dxp pl r b 0 t dx [] := by
      rw [← hH1]
      refine ⟨upd_same, ⟨?_, ?_⟩, ⟨[], ?_, .nil⟩, nlt, npr⟩
      · rw [upd_ne (Ne.symm npr), upd_ne (Ne.symm nlr)]
        exact R.ins
      · rw [upd_ne ntp, upd_ne nlt]
        exact R.txt
      · rw [upd_ne nlp]
        exact upd_same
    have s1 : ∀ a o, H a = some o → a ≠ p → H1 a = some o := fun a o ho n => by
      rw [← hH1, upd_ne n, upd_ne (ne_of_none ho npl)]
      exact ho
    have f1 : ∀ d, H1 d = none → H d = none := fun d hd => by
      cases y : H d with
      | none => rfl
      | some o =>
        by_cases e : d = p
        · rw [e, R1.ins] at hd
          cases hd
        · rw [s1 d o y e] at hd
          cases hd
    clear hH1
    -- faults
    have lift : ∀ {H2 : Hp} {q k : Nat} {l : PL}, Two H1 H2 pl r → RowS K H2 p dxp pl r b k t dx l → lineK ru b = .error q → KE K E H2 pl r q := fun {H2 q k l} s2 R2 e d H3 nd s3 hd => by
      refine kE q e d H3 (f1 d (s2.free R2.some2.1 R2.some2.2 nd)) (fun a o ho n1 n2 => ?_) hd
      have na : a ≠ pl := ne_of_none ho npl
      exact s3 a o (s2 a o (s1 a o ho n1) na n2) na n2
    have lift2 : ∀ {H2 : Hp} {q k : Nat} {l : PL}, Two H1 H2 pl r → RowS K H2 p dxp pl r b k t dx l → lineK ru b = .error q → GF K E H2 r q := fun {H2 q k l} s2 R2 e d H3 nd s3 hd => lift s2 R2 e d H3 nd (fun a o ho _ n2 => s3 a o ho n2) hd
    have total : ∀ q, rrK b ru.wide 1024 ru.wide (ru.high - 1) false false [] 0 = .error q → lineK ru b = .error q := fun q hq => by
      unfold lineK
      rw [show 2 * Tafl.LINE = 1024 from rfl, hq]
    dsimp only [gName]
    refine seq_by (fun σ H' => ∃ (yv : Option V) (f : Nat) (was : Bool) (l : PL) (k : Nat), σ = [some (.ref p), some (.ref r), some (.int ru.wide), some (.int ru.high), yv] ∧ RowS K H' p dxp pl r b k t dx l ∧ Two H1 H' pl r ∧ l.length ≤ 169 ∧ rrK b ru.wide 1024 ru.wide (ru.high - 1) false false [] 0 = rrK b ru.wide (f + 1) 0 0 was (hasK l) l k) ?_ fun after => ?_
    · rintro σ H2 ⟨yv, f, was, l, k, rfl, R2, s2, hl, e2⟩
      rw [rr_end] at e2
      refine ⟨_, rfl, r, dx, _, rfl, R2.rd.ins, rfl, r, b, k, t, dx, _, [32], rfl, R2.rd, rfl, fun q hq => lift2 s2 R2 (total q ?_), fun v j hv H3 R3 s3 => ?_⟩
      · have y := map_err hq
        rw [e2, y]
      obtain ⟨j', y1, y2⟩ := map_ok hv
      cases y2
      rw [y1] at e2
      dsimp only at e2
      have R3' := R2.read s3 R3
      have s3' := s2.trans (Two.but s3)
      have W := turnW
      have hW := W.is b j
      refine ⟨_, rfl, r, dx, _, rfl, R3.ins, rfl, r, b, j, t, dx, _, _, rfl, R3, W.words, fun q hq => lift2 s3' R3' (total q ?_), fun v j4 hv H4 R4 s4 => ?_⟩
      · have y := map_err hq
        rw [hW] at y
        cases ha : (b[j]?).bind turnS with
        | some a =>
          rw [ha] at y
          cases y
        | none =>
          rw [ha] at y
          have yq : j = q := by injection y
          rw [e2, ← yq]
          cases hx : b[j]? with
          | none => rfl
          | some x =>
            rw [hx] at ha
            have ha : turnS x = none := ha
            unfold turnS at ha
            rw [if_neg (fun y => by rw [if_pos (Option.some.inj y)] at ha; cases ha), if_neg (fun y => by
              have y := Option.some.inj y
              subst y
              cases ha)]
      obtain ⟨⟨n, j5⟩, y3, y4⟩ := map_ok hv
      cases y4
      have R4' := R3'.read s4 R4
      have s4' := s3'.trans (Two.but s4)
      have e3 : lineK ru b = if b[j5]? = none then .ok (l, n) else .error j5 := by
        unfold lineK
        rw [show 2 * Tafl.LINE = 1024 from rfl, e2]
        rw [hW] at y3
        cases ha : (b[j]?).bind turnS with
        | none =>
          rw [ha] at y3
          cases y3
        | some a =>
          rw [ha] at y3
          have yq : (a, j + 1) = (n, j5) := by injection y3
          cases yq
          cases hx : b[j]? with
          | none =>
            rw [hx] at ha
            cases ha
          | some x =>
            rw [hx] at ha
            have ha : turnS x = some n := ha
            unfold turnS at ha
            by_cases h1 : x = 104
            · rw [if_pos h1] at ha
              cases ha
              rw [h1, if_pos rfl]
            · rw [if_neg h1] at ha
              rw [if_neg (fun y => h1 (Option.some.inj y))]
              by_cases h2 : x = 107
              · rw [if_pos h2] at ha
                cases ha
                rw [h2, if_pos rfl]
              · rw [if_neg h2] at ha
                cases ha
      refine ⟨_, rfl, p, _, dxp, _, rfl, R4'.ins, T.cl_Line, T.na_Line_turn, (by show 1 < 1000; decide), ?_⟩
      obtain ⟨vl, hvl, TT⟩ := R4'.lt.ex
      generalize hH5 : L2.upd H4 p _ = H5
      have p5 : H5 p = some (.ins (c_Line K) dxp [("pieces", .ref pl), ("turn", .int n)]) := by rw [← hH5]; exact upd_same
      have R5 : RdAt K H5 r b j5 t dx := by
        rw [← hH5]
        exact ⟨by rw [upd_ne (Ne.symm npr)]; exact R4.ins, by rw [upd_ne ntp]; exact R4.txt⟩
      have L5 : LT H5 pl (pTs l) := by
        rw [← hH5]
        exact R4'.lt.mono (DSame.ins R4'.ins)
      have s5 : ∀ a o, H a = some o → a ≠ p → a ≠ r → H5 a = some o := fun a o ho n1 n2 => by
        rw [← hH5, upd_ne n1]
        exact s4' a o (s1 a o ho n1) (ne_of_none ho npl) n2
      refine ⟨_, rfl, r, dx, _, rfl, R5.ins, rfl, r, b, j5, t, dx, rfl, R5, fun q hq => ?_, fun v j6 hv H6 R6 s6 => ?_⟩
      · have eq1 : b[j5]? ≠ none ∧ j5 = q := by
          unfold finK at hq
          split at hq
          · cases hq
          · rename_i hn
            exact ⟨hn, by injection hq⟩
        rw [if_neg eq1.1, eq1.2] at e3
        intro d H6 nd s6 hd
        refine kE q e3 d H6 ?_ (fun a o ho n1 n2 => s6 a o (s5 a o ho n1 n2) n2) hd
        cases y : H d with
        | none => rfl
        | some o =>
          by_cases e : d = p
          · rw [e, p5] at nd
            cases nd
          · by_cases e2 : d = r
            · rw [e2, R5.ins] at nd
              cases nd
            · rw [s5 d o y e e2] at nd
              cases nd
      · have eq1 : b[j5]? = none := by
          unfold finK at hv
          split at hv
          · assumption
          · cases hv
        rw [if_pos eq1] at e3
        exact kQ l n e3 H6 pl (s6 _ _ p5 npr) (L5.mono (DSame.but R5.ins s6)) (by omega) fun a o ho n1 n2 => s6 a o (s5 a o ho n1 n2) n2
    · refine ⟨_, rfl, _, _, rfl, rfl, 1, rfl, 1, rfl, _, _, _, ru.high, rfl, ?_, for_rangeC (fun i σ H' => ∃ (yv : Option V) (f : Nat) (was : Bool) (l : PL) (k : Nat), σ = [some (.ref p), some (.ref r), some (.int ru.wide), some (.int ru.high), yv] ∧ RowS K H' p dxp pl r b k t dx l ∧ Two H1 H' pl r ∧ l.length ≤ 13 * i ∧
          (if i = ru.high then rrK b ru.wide 1024 ru.wide (ru.high - 1) false false [] 0 = rrK b ru.wide (f + 1) 0 0 was (hasK l) l k else rrK b ru.wide 1024 ru.wide (ru.high - 1) false false [] 0 = rrK b ru.wide f ru.wide (ru.high - 1 - i) false (hasK l) l k ∧ need ru.wide ru.wide (ru.high - 1 - i) ≤ f)) ?_ ?_ ?_⟩
      · have y := RgC.neg (i := (ru.high : Int) - 1) (j := -1) (by omega) (by omega) (by omega) (by omega)
        have e : ((ru.high : Int) - 1 - -1).toNat = ru.high := by omega
        rw [e] at y
        exact y
      · refine ⟨none, 1024, false, [], 0, rfl, R1, Two.refl, Nat.zero_le _, ?_⟩
        rw [if_neg (by omega)]
        refine ⟨rfl, ?_⟩
        unfold need
        have : (ru.high - 1 - 0) * (ru.wide + 1) ≤ 12 * 14 := Nat.mul_le_mul (by omega) (by omega)
        omega
      · rintro i σ H2 hi ⟨yv, f, was, l, k, rfl, R2, s2, hl, e2⟩
        rw [if_neg (by omega)] at e2
        obtain ⟨e2, hf⟩ := e2
        have ey : (ru.high : Int) - 1 + (i : Nat) * (-1) = ((ru.high - 1 - i : Nat) : Int) := by omega
        refine ⟨_, rfl, p, dxp, _, rfl, R2.ins, rfl, _, rfl, _, rfl, _, rfl, p, dxp, pl, r, b, k, t, dx, l, ru.wide, ru.high - 1 - i, f, congrArg (fun z : Int => [V.ref p, V.ref r, V.int ru.wide, V.int z]) ey, R2, by omega, w13, hf, fun q hq => lift s2 R2 (total q (e2.trans hq)), fun f' was' l' j he hf' hl' H3 R3 s3 => ?_⟩
        have s3' := s2.trans s3
        have e3 := e2.trans he
        obtain ⟨f'', rfl⟩ : ∃ f'', f' = f'' + 1 := ⟨f' - 1, by unfold need at hf'; omega⟩
        refine ⟨_, rfl, _, _, rfl, rfl, _, rfl, ?_⟩
        refine ifB (fun h1 => ?_) fun h1 => ?_
        · have h1' : (ru.high : Int) - 1 + (i : Nat) * (-1) > 0 := of_decide_eq_true h1
          have hpos : 0 < ru.high - 1 - i := by omega
          rw [rr_next hpos] at e3
          refine ⟨_, rfl, r, dx, _, rfl, R3.rd.ins, rfl, r, b, j, t, dx, _, [47], rfl, R3.rd, rfl, fun q hq => lift2 s3' R3 (total q ?_), fun v j4 hv H4 R4 s4 => ?_⟩
          · have y := map_err hq
            rw [e3, y]
          obtain ⟨j', y1, y2⟩ := map_ok hv
          cases y2
          rw [y1] at e3
          dsimp only at e3
          refine ⟨_, f'', was', l', j4, rfl, R3.read s4 R4, s3'.trans (Two.but s4), by omega, ?_⟩
          rw [if_neg (by omega)]
          have e4 : ru.high - 1 - (i + 1) = ru.high - 1 - i - 1 := by omega
          rw [e4]
          refine ⟨e3, ?_⟩
          unfold need at hf' ⊢
          have e5 : (ru.high - 1 - i) * (ru.wide + 1) = (ru.high - 1 - i - 1) * (ru.wide + 1) + (ru.wide + 1) := by
            obtain ⟨n, hn⟩ : ∃ n, ru.high - 1 - i = n + 1 := ⟨ru.high - 1 - i - 1, by omega⟩
            rw [hn, Nat.succ_mul]
            rfl
          omega
        · have h1' : ¬ (ru.high : Int) - 1 + (i : Nat) * (-1) > 0 := of_decide_eq_false h1
          have e0 : ru.high - 1 - i = 0 := by omega
          rw [e0] at e3
          refine ⟨_, f'', was', l', j, rfl, R3, s3', by omega, ?_⟩
          rw [if_pos (by omega)]
          exact e3
      · rintro σ H2 ⟨yv, f, was, l, k, rfl, R2, s2, hl, e2⟩
        rw [if_pos rfl] at e2
        exact after _ _ ⟨yv, f, was, l, k, rfl, R2, s2, by omega, e2⟩
end
end Tf
set_option Elab.async false
set_option linter.all false
set_option maxRecDepth 100000
set_option maxHeartbeats 8000000
/-! read_position. -/
namespace Tf
open PySem PySem.Spec PyProof.Rows L2 TfX TfM
section
variable {P : Program} {w : World} {K : PySem.W.Frag} {mg : Str → Option Value} {base : Heap}
theorem find_at {α : Type} {p : α → Bool} : ∀ {l : List α} {i : Nat} {x : α}, l[i]? = some x → p x = true → (∀ y ∈ l.take i, p y = false) → l.find? p = some x
  | [], i, x, h, _, _ => by cases h
  | a :: l, 0, x, h, hp, _ => by
    cases h
    rw [List.find?_cons, hp]
  | a :: l, i + 1, x, h, hp, hn => by
    rw [List.find?_cons, hn a (by rw [List.take_succ_cons]; exact List.mem_cons_self)]
    exact find_at (i := i) h hp fun y hy => hn y (by rw [List.take_succ_cons]; exact List.mem_cons_of_mem _ hy)
structure PosAt (K : PySem.W.Frag) (H : Hp) (q dx pb : Addr) (p : Tafl.Pos) : Prop where
  ins : H q = some (.ins (c_Position K) dx (posF (.ref pb) (.int (kingN p)) (.int p.side)))
  b : H pb = some (.lst (iv (boardL p)))
theorem PosAt.same {H H' : Hp} {q dx pb : Addr} {p : Tafl.Pos} (X : PosAt K H q dx pb p) (s : Same H H') : PosAt K H' q dx pb p := ⟨s _ _ X.ins, s _ _ X.b⟩
def spReadPos (K : PySem.W.Frag) : Sp := fun vs H Q E => ∃ (h dxh : Addr) (ru : Tafl.Rules) (r : HR) (t : Addr) (b : Tafl.Bytes), vs = [.ref h, .ref t] ∧ HallAt K H h dxh ru r ∧ Shaped ru ∧ H t = some (.lst (bv b)) ∧
  (∀ kd p, ru.readLine b = .error (kd, p) → TFault K (c_LineFault K) E H kd p) ∧ (∀ p, ru.readLine b = .ok p → Good ru p → ∀ H' q dx pb, Same H H' → PosAt K H' q dx pb p → Q (.ref q) H')
theorem ok_read_position (T : Txt K mg) : FnOk P w K mg base (L2.CX P w) 7 (a_read_position K) T.fd_read_position p_read_position (spReadPos K) := by
  refine T.F_read_position.ok sc_read_position (fun vs H Q E h => ?_) (fun cdv A outer s H vs Q E hr h => ⟨_, (pss_cons (ps_try_asR (i := 3) (ts := fun a cls d _ σ H => σ[3]? = some (some (.ref a)) ∧ PySem.W.subIn K cls (.type "BaseException") = some true ∧ tMkO (c_LineFault K) (spErr2 K (c_LineFault K) "kind" "place") [] (tCons (tC (.int 1)) (tCons (tXf a cls d (c_GrammarFault K) "place" (tVar 3)) tNil)) σ H fun cls d H' => E cls d H') rfl rfl (fun _ h => nomatch h) sc_read_position.nd rfl rfl ⟨rfl, by decide, .inl T.gc_GrammarFault⟩ (L2H.passesAt_of rfl) (takes_of rfl rfl rfl rfl) (fun W pn xe tk _ => pss_one (ps_set (i := 2) sc_read_position.nd rfl (Or.inl rfl) (pe_makeS T.mk_Line (ok_Line_init T) (hr.mono (by decide)) rfl T.gc_Line (b_Line_init T) (fun σ => L2N.passAt tk σ) (pa_cons (pe_make T.mk_Reader (ok_Reader_init T) (hr.mono (by decide)) rfl T.gc_Reader (b_Reader_init T) .nil pass0 (pa_cons (pv 1) pa_nil)) (pa_cons (pe_fldK (K := K) rfl (pv 0) rfl) (pa_cons (pe_fldK (K := K) rfl (pv 0) rfl) pa_nil)))))) (fun a oe cls d pn xe hz hf tkS hot => pss_one (ps_raiseHF (i := 3) rfl rfl rfl List.mem_cons_self hz hf tkS (pmk_oxeH T.x_LineFault T.i_LineFault T.ti_LineFault (okH_LineFault_init T) (L2H.RoomH.mono (L2H.roomH_mark hr (some (.ref a))) (by decide)) hot (b_LineFault_init T) pass0 (by rfl) T.gc_LineFault (pa_cons pe_int (pa_cons (PE.nox (pe_xf T.xf_GrammarFault T.nf_GrammarFault_place hz.zc hf (pv 3))) pa_nil))))))
      (pss_cons (ps_set (i := 4) sc_read_position.nd rfl (Or.inl rfl) (pe_op op_rep (pe_lst (pa_cons (pe_glob (v := .int 0) rfl T.c_NOBODY ⟨_, rfl⟩) pa_nil)) (pe_glob (v := .int 169) rfl T.c_CELLS ⟨_, rfl⟩)))
      (pss_cons (ps_set (i := 5) sc_read_position.nd rfl (Or.inl rfl) (pe_glob (v := .int 169) rfl T.c_NOWHERE ⟨_, rfl⟩))
      (pss_cons (ps_for (passes_of rfl) rfl (pi_list (pe_fld (pv 2) rfl)) (pg_tup rfl (pgs_cons (pg_name (i := 6) sc_read_position.nd rfl (Or.inl rfl)) (pgs_cons (pg_name (i := 7) sc_read_position.nd rfl (Or.inl rfl)) (pgs_cons (pg_name (i := 8) sc_read_position.nd rfl (Or.inl rfl)) pgs_nil)))) (pss_cons (ps_if (pt_not (pt_val (pe_call (ok_may_stand T) (hr.mono (by decide)) rfl T.g_may_stand T.F_may_stand.kp (b_may_stand T) .nil pass0 (pa_cons (pe_ix ix_list (pe_fld (pv 0) rfl) (pv 6) (fun _ _ => rfl)) (pa_cons (pv 7) pa_nil))))) (pss_one (ps_raise rfl (takes_of rfl rfl rfl rfl) (pmk_of (L2H.PMk5.pmk (pmk_oxe T.x_LineFault T.i_LineFault T.ti_LineFault (ok_LineFault_init T) (hr.mono (by decide)) (b_LineFault_init T) pass0 (by rfl) T.gc_LineFault (pa_cons pe_int (pa_cons (pv 8) pa_nil))))))) pss_nil)
      (pss_cons (ps_asg (pv 7) (pg_sub (pv 4) (pv 6) set_list))
      (pss_one (ps_if (pt_cmpR op_eq (pv 7) (pe_glob (v := .int 3) rfl T.c_KING ⟨_, rfl⟩) (nomark _)) (pss_one (ps_set (i := 5) sc_read_position.nd rfl (Or.inl rfl) (pv 6))) pss_nil)))))
      (pss_one (ps_ret (pe_make T.mk_Position (ok_Position_init T) (hr.mono (by decide)) rfl T.gc_Position (b_Position_init T) .nil pass0 (pa_cons (pv 4) (pa_cons (pv 5) (pa_cons (pe_fld (pv 2) rfl) pa_nil)))))))))), ?_⟩)
  · obtain ⟨h, dxh, ru, r, t, b, rfl, _⟩ := h
    rfl
  · obtain ⟨h, dxh, ru, r, t, b, rfl, X, S, ht, kE, kQ⟩ := h
    have je : ∀ q, lineK ru b = .error q → ru.readLine b = .error (1, q) := fun q hq => by rw [line_eq, hq]
    refine ⟨_, rfl, fun rd dxr nr ndx ner => ⟨rd, dxr, .ref t, rfl, upd_same, fun H1 hr1 b1 => ⟨rfl, ?_⟩⟩⟩
    have s1 : Same H H1 := made_same nr ndx b1
    have X1 := X.same s1
    refine ⟨_, rfl, h, _, dxh, _, _, rfl, X1.ins, T.cl_Hall, T.na_Hall_wide, rfl, _, rfl, h, _, dxh, _, _, rfl, X1.ins, T.cl_Hall, T.na_Hall_high, rfl, ?_⟩
    refine fun p dxp np ndp nep => ⟨p, dxp, rd, b, t, dxr, ru, rfl, upd_same, ⟨?_, ?_⟩, S, fun q hq d H2 nd bt hd => ?_, fun l side hk H3 pl hp3 L3 hll bt => ⟨rfl, ?_⟩⟩
    · rw [upd_ne (ne_of_none hr1 np), upd_ne (ne_of_none hr1 ndp)]
      exact hr1
    · rw [upd_ne (ne_of_none (s1 _ _ ht) np), upd_ne (ne_of_none (s1 _ _ ht) ndp)]
      exact s1 _ _ ht
    · have s2 : Same H H2 := fun a o ho => bt a o (by rw [upd_ne (ne_of_none (s1 _ _ ho) np), upd_ne (ne_of_none (s1 _ _ ho) ndp)]; exact s1 _ _ ho) (ne_of_none (s1 _ _ ho) np) (ne_of_none ho nr)
      refine ⟨true, T.e_GrammarFault_GrammarFault, fun _ a na => ⟨rfl, T.x_GrammarFault.err, _, rfl, rfl, rfl, d, _, _, rfl, hd, rfl, mk_err2 fun d2 H4 n4 s4 h4 => ?_⟩, fun y => Bool.noConfusion y⟩
      exact kE 1 q (je q hq) d2 H4 (s2.free n4) (s2.trans s4) h4
    · have s3 : Same H H3 := fun a o ho => bt a o (by rw [upd_ne (ne_of_none (s1 _ _ ho) np), upd_ne (ne_of_none (s1 _ _ ho) ndp)]; exact s1 _ _ ho) (ne_of_none (s1 _ _ ho) np) (ne_of_none ho nr)
      clear bt b1 s1 X1
      have lk : ru.readLine b = lineP ru l side := by rw [line_eq, hk]
      obtain ⟨O, hside⟩ := line_inv S hk
      refine ⟨(by show 1 ≤ sizeLine; decide), fun p1 n1 => ?_⟩
      refine ⟨p1, 169, _, rfl, rfl, upd_same, by decide, by decide, by decide, fun D nD => ?_⟩
      generalize hH4 : L2.upd (L2.upd H3 p1 (.lst [V.int 0])) D _ = H4
      have s4 : Same H3 H4 := by
        rw [← hH4]
        exact (Same.upd n1).trans (Same.upd nD)
      have hD : H4 D = some (.lst (iv (List.replicate 169 0))) := by
        rw [← hH4, upd_same]
        congr 2
      have nDH : H3 D = none := Same.free (Same.upd n1) nD
      clear hH4
      obtain ⟨vg, hg, TG⟩ := (L3.mono (DSame.of s4)).ex
      have hvl : vg.length = l.length := by
        rw [TG.len]
        unfold pTs
        rw [List.length_map, List.length_map]
      have sD : ∀ o, Same H3 (L2.upd H4 D o) := fun o c u hc => by
        rw [upd_ne (ne_of_none hc nDH)]
        exact s4 _ _ hc
      have nDg : pl ≠ D := fun e => by
        obtain ⟨v0, h0, _⟩ := L3.ex
        rw [e, nDH] at h0
        cases h0
      refine ⟨_, rfl, p, _, dxp, _, _, rfl, s4 _ _ hp3, T.cl_Line, T.na_Line_pieces, rfl, pl, rfl, ⟨_, SqL.of hg⟩, ?_⟩
      refine for_list (K := K) (a := pl) (xs := vg) (fun i σ H2 => ∃ a1 a2 a3 : Option V, σ = [some (.ref h), some (.ref t), some (.ref p), none, some (.ref D), some (.int (lastK (l.take i))), a1, a2, a3] ∧ H2 = L2.upd H4 D (.lst (iv (setB (l.take i)))) ∧ ∀ x ∈ l.take i, (!Tafl.mayStand x.1 (ru.kindAt x.2.1)) = false) ⟨none, none, none, rfl, ?_, fun x hx => by rw [List.take_zero] at hx; cases hx⟩ ?_ ?_ ?_
      · funext c
        by_cases hc : c = D
        · rw [hc, upd_same, hD]
          rfl
        · rw [upd_ne hc]
      · rintro i σ H2 _ ⟨a1, a2, a3, rfl, rfl, _⟩
        exact SqL.of (by rw [upd_ne nDg]; exact hg)
      · rintro i x σ H2 hx ⟨a1, a2, a3, rfl, rfl, hms⟩
        obtain ⟨t', a, ht', rfl, ha⟩ := t3_at TG hx
        rw [List.getElem?_map] at ht'
        cases hlx : l[i]? with
        | none =>
          rw [hlx] at ht'
          cases ht'
        | some x =>
          rw [hlx] at ht'
          cases ht'
          have hxm := List.mem_of_getElem? hlx
          obtain ⟨c169, con⟩ := O.lt S hxm
          have ha2 : ∀ o, (L2.upd H4 D o) a = some (.tup [.int x.2.1, .int (pIx x.1), .int x.2.2]) := fun o => by
            rw [upd_ne (ne_of ha hD (by intro z; cases z))]
            exact ha
          have X2 := X.same (s3.trans (sD (.lst (iv (setB (l.take i))))))
          have gat : (iv (glist ru))[x.2.1]? = some (.int (kIx (ru.kindAt x.2.1))) := by
            rw [← kind_eq c169 con]
            exact iv_at (gAt_eq c169)
          refine ⟨a, _, rfl, SqT.of (ha2 _), rfl, _, _, rfl, _, _, rfl, _, _, rfl, rfl, ?_⟩
          refine ifS_of (!Tafl.mayStand x.1 (ru.kindAt x.2.1)) (fun Q' q' => ?_) (fun hc => ?_) fun hc => ?_
          · rw [← ms_eq (O.all x hxm).1] at q'
            exact ⟨_, rfl, h, _, dxh, _, _, rfl, X2.ins, T.cl_Hall, T.na_Hall_ground, rfl, _, rfl, r.pg, _, _, _, rfl, rfl, SqL.of X2.g, atI_nat gat, _, rfl, ru.kindAt x.2.1, x.1, rfl, _, rfl, q'⟩
          · refine ⟨_, rfl, mk_err2 fun d H5 n5 s5 h5 => ?_⟩
            have e : ru.readLine b = .error (2, x.2.2) := by
              rw [lk]
              unfold lineP
              rw [find_at hlx hc hms]
            exact kE 2 x.2.2 e d H5 (s3.free (Same.free (sD _) n5)) (s3.trans ((sD _).trans s5)) h5
          · refine ⟨_, rfl, _, rfl, _, rfl, D, _, _, x.2.1, rfl, rfl, upd_same, ?_, ?_⟩
            · rw [iv_len, setB_len]
              unfold ixN
              rw [if_pos (by omega), if_pos (by omega)]
              rfl
            have eb : setB (l.take (i + 1)) = (setB (l.take i)).set x.2.1 (pIx x.1) := by
              unfold setB
              rw [List.take_add_one, hlx, List.foldl_append]
              rfl
            have ek : lastK (l.take (i + 1)) = if x.1 = .king then x.2.1 else lastK (l.take i) := by
              unfold lastK
              rw [List.take_add_one, hlx, List.foldl_append]
              rfl
            have eH : L2.upd (L2.upd H4 D (.lst (iv (setB (l.take i))))) D (.lst ((iv (setB (l.take i))).set x.2.1 (.int (pIx x.1)))) = L2.upd H4 D (.lst (iv (setB (l.take (i + 1))))) := by
              rw [upd_upd, iv_set, eb]
            refine ⟨_, rfl, rfl, _, rfl, ?_⟩
            have ep : decide (V.int (pIx x.1 : Nat) = V.int 3) = (x.1 == .king) := (nat_dec (b := 3)).trans (pIx_inj (b := .king))
            rw [ep]
            refine ifB (fun h1 => ?_) fun h1 => ?_
            · rw [if_pos (beq_iff_eq.mp h1)] at ek
              refine ⟨_, rfl, some (.int x.2.1), some (.int (pIx x.1 : Nat)), some (.int x.2.2), ?_, eH, take_all hms hlx hc⟩
              rw [ek]
              rfl
            · rw [if_neg (fun y => by rw [y] at h1; cases h1)] at ek
              refine ⟨some (.int x.2.1), some (.int (pIx x.1 : Nat)), some (.int x.2.2), ?_, eH, take_all hms hlx hc⟩
              rw [ek]
              rfl
      · rintro σ H2 ⟨a1, a2, a3, rfl, rfl, hms⟩
        rw [hvl, List.take_length] at *
        have e : ru.readLine b = .ok (posL l side) := by
          rw [lk]
          unfold lineP
          have y : (l.find? fun x => !Tafl.mayStand x.1 (ru.kindAt x.2.1)) = none := by
            rw [List.find?_eq_none]
            intro x hx y
            rw [hms x hx] at y
            cases y
          rw [y]
          rfl
        refine ⟨_, rfl, _, rfl, _, rfl, p, _, dxp, _, _, rfl, sD _ _ _ hp3, T.cl_Line, T.na_Line_turn, rfl, fun q dxq nq ndq neq => ⟨q, dxq, _, _, _, rfl, upd_same, fun H5 h5 b5 => ⟨rfl, ?_⟩⟩⟩
        have s5 := made_same nq ndq b5
        refine kQ _ e (pos_good S O hside) H5 q dxq D (s3.trans ((sD _).trans s5)) ⟨?_, ?_⟩
        · rw [h5, lastK_eq S (side := side) O]
          rfl
        · have y := s5 _ _ (upd_same (H := H4) (a := D) (o := .lst (iv (setB l))))
          rw [setB_eq S (side := side) O] at y
          exact y
end
end Tf
set_option Elab.async false
set_option linter.all false
set_option maxRecDepth 100000
set_option maxHeartbeats 4000000
/-! Ways, reach. -/
namespace Tf
open TfM
open Tafl (Piece Kind Rules Pos)
theorem onG_iff {ru : Rules} {c : Nat} : onG ru c = true ↔ c % 13 < ru.wide ∧ c / 13 < ru.high := by
  unfold onG
  rw [Bool.and_eq_true, decide_eq_true_eq, decide_eq_true_eq]
theorem next_eq {ru : Rules} (S : Shaped ru) {c d : Nat} (hd : d < 4) (hc : onG ru c = true) : ru.next d c = if 0 ≤ (c : Int) % 13 + dX d ∧ (c : Int) % 13 + dX d < ru.wide ∧ 0 ≤ (c : Int) / 13 + dY d ∧ (c : Int) / 13 + dY d < ru.high then some (13 * ((c : Int) / 13 + dY d) + ((c : Int) % 13 + dX d)).toNat else none := by
  obtain ⟨h1, h2⟩ := onG_iff.mp hc
  rcases four hd with rfl | rfl | rfl | rfl
  · show (if c / 13 + 1 < ru.high then some (Tafl.cellOf (c % 13) (c / 13 + 1)) else none) = if 0 ≤ (c : Int) % 13 + 0 ∧ (c : Int) % 13 + 0 < ru.wide ∧ 0 ≤ (c : Int) / 13 + 1 ∧ (c : Int) / 13 + 1 < ru.high then some (13 * ((c : Int) / 13 + 1) + ((c : Int) % 13 + 0)).toNat else none
    by_cases h : c / 13 + 1 < ru.high
    · rw [if_pos h, if_pos (by omega)]
      unfold Tafl.cellOf Tafl.STRIDE
      exact congrArg some (by omega)
    · rw [if_neg h, if_neg (by omega)]
  · show (if c % 13 + 1 < ru.wide then some (Tafl.cellOf (c % 13 + 1) (c / 13)) else none) = if 0 ≤ (c : Int) % 13 + 1 ∧ (c : Int) % 13 + 1 < ru.wide ∧ 0 ≤ (c : Int) / 13 + 0 ∧ (c : Int) / 13 + 0 < ru.high then some (13 * ((c : Int) / 13 + 0) + ((c : Int) % 13 + 1)).toNat else none
    by_cases h : c % 13 + 1 < ru.wide
    · rw [if_pos h, if_pos (by omega)]
      unfold Tafl.cellOf Tafl.STRIDE
      exact congrArg some (by omega)
    · rw [if_neg h, if_neg (by omega)]
  · show (if 0 < c / 13 then some (Tafl.cellOf (c % 13) (c / 13 - 1)) else none) = if 0 ≤ (c : Int) % 13 + 0 ∧ (c : Int) % 13 + 0 < ru.wide ∧ 0 ≤ (c : Int) / 13 + -1 ∧ (c : Int) / 13 + -1 < ru.high then some (13 * ((c : Int) / 13 + -1) + ((c : Int) % 13 + 0)).toNat else none
    by_cases h : 0 < c / 13
    · rw [if_pos h, if_pos (by omega)]
      unfold Tafl.cellOf Tafl.STRIDE
      exact congrArg some (by omega)
    · rw [if_neg h, if_neg (by omega)]
  · show (if 0 < c % 13 then some (Tafl.cellOf (c % 13 - 1) (c / 13)) else none) = if 0 ≤ (c : Int) % 13 + -1 ∧ (c : Int) % 13 + -1 < ru.wide ∧ 0 ≤ (c : Int) / 13 + 0 ∧ (c : Int) / 13 + 0 < ru.high then some (13 * ((c : Int) / 13 + 0) + ((c : Int) % 13 + -1)).toNat else none
    by_cases h : 0 < c % 13
    · rw [if_pos h, if_pos (by omega)]
      unfold Tafl.cellOf Tafl.STRIDE
      exact congrArg some (by omega)
    · rw [if_neg h, if_neg (by omega)]
theorem next_some {ru : Rules} (S : Shaped ru) {c d n : Nat} (hd : d < 4) (hc : onG ru c = true) (h : ru.next d c = some n) : onG ru n = true ∧ n < 169 ∧ (n : Int) % 13 = (c : Int) % 13 + dX d ∧ (n : Int) / 13 = (c : Int) / 13 + dY d := by
  have w13 := S.w13
  have h13 := S.h13
  rw [next_eq S hd hc] at h
  split at h
  · rename_i hr
    have e := Option.some.inj h
    obtain ⟨r1, r2, r3, r4⟩ := hr
    generalize (c : Int) % 13 + dX d = x at *
    generalize (c : Int) / 13 + dY d = y at *
    subst e
    refine ⟨onG_iff.mpr ⟨by omega, by omega⟩, by omega, by omega, by omega⟩
  · cases h
def rayF (ru : Rules) (d f c : Nat) : List Nat := walkK ru.wide ru.high d f ((c : Int) % 13 + dX d) ((c : Int) / 13 + dY d)
theorem ray_zero {ru : Rules} {d c : Nat} : rayF ru d 0 c = [] := rfl
theorem ray_none {ru : Rules} (S : Shaped ru) {d f c : Nat} (hd : d < 4) (hc : onG ru c = true) (h : ru.next d c = none) : rayF ru d f c = [] := by
  rw [next_eq S hd hc] at h
  split at h
  · cases h
  · rename_i hn
    exact walk_out hn
theorem ray_some {ru : Rules} (S : Shaped ru) {d f c n : Nat} (hd : d < 4) (hc : onG ru c = true) (h : ru.next d c = some n) : rayF ru d (f + 1) c = n :: rayF ru d f n := by
  have hs := next_some S hd hc h
  rw [next_eq S hd hc] at h
  split at h
  · rename_i hr
    unfold rayF
    rw [walk_in hr, Option.some.inj h, hs.2.2.1, hs.2.2.2]
  · cases h
theorem rayN_eq (ru : Rules) (c d : Nat) : rayN ru c d = rayF ru d 13 c := rfl
/-! ### rays keep apart -/
def Bey (d : Nat) (x y : Int) (n : Nat) : Prop := if d = 0 then (n : Int) % 13 = x ∧ y ≤ (n : Int) / 13 else if d = 1 then (n : Int) / 13 = y ∧ x ≤ (n : Int) % 13 else if d = 2 then (n : Int) % 13 = x ∧ (n : Int) / 13 ≤ y else (n : Int) / 13 = y ∧ (n : Int) % 13 ≤ x
theorem bey_next {d : Nat} {x y : Int} {n : Nat} (hd : d < 4) (h : Bey d (x + dX d) (y + dY d) n) : Bey d x y n := by
  rcases four hd with rfl | rfl | rfl | rfl
  · have h : (n : Int) % 13 = x + 0 ∧ y + 1 ≤ (n : Int) / 13 := h
    exact ⟨by omega, by omega⟩
  · have h : (n : Int) / 13 = y + 0 ∧ x + 1 ≤ (n : Int) % 13 := h
    exact ⟨by omega, by omega⟩
  · have h : (n : Int) % 13 = x + 0 ∧ (n : Int) / 13 ≤ y + -1 := h
    exact ⟨by omega, by omega⟩
  · have h : (n : Int) / 13 = y + 0 ∧ (n : Int) % 13 ≤ x + -1 := h
    exact ⟨by omega, by omega⟩
theorem bey_here {d : Nat} {x y : Int} {n : Nat} (hd : d < 4) (h1 : (n : Int) % 13 = x) (h2 : (n : Int) / 13 = y) : Bey d x y n ∧ ¬ Bey d (x + dX d) (y + dY d) n := by
  rcases four hd with rfl | rfl | rfl | rfl
  · refine ⟨⟨h1, by omega⟩, fun h => ?_⟩
    have h : (n : Int) % 13 = x + 0 ∧ y + 1 ≤ (n : Int) / 13 := h
    omega
  · refine ⟨⟨h2, by omega⟩, fun h => ?_⟩
    have h : (n : Int) / 13 = y + 0 ∧ x + 1 ≤ (n : Int) % 13 := h
    omega
  · refine ⟨⟨h1, by omega⟩, fun h => ?_⟩
    have h : (n : Int) % 13 = x + 0 ∧ (n : Int) / 13 ≤ y + -1 := h
    omega
  · refine ⟨⟨h2, by omega⟩, fun h => ?_⟩
    have h : (n : Int) / 13 = y + 0 ∧ (n : Int) % 13 ≤ x + -1 := h
    omega
theorem walk_bey {w h d : Nat} (hd : d < 4) (hw : w ≤ 13) : ∀ (f : Nat) (x y : Int) (n : Nat), n ∈ walkK w h d f x y → Bey d x y n ∧ n % 13 < w ∧ n / 13 < h
  | 0, x, y, n, hn => by cases hn
  | f + 1, x, y, n, hn => by
    unfold walkK at hn
    split at hn
    · rename_i hr
      rcases List.mem_cons.mp hn with rfl | hn
      · exact ⟨(bey_here hd (by omega) (by omega)).1, by omega, by omega⟩
      · obtain ⟨a, b, c⟩ := walk_bey hd hw f _ _ n hn
        exact ⟨bey_next hd a, b, c⟩
    · cases hn
theorem walk_nodup {w h d : Nat} (hd : d < 4) (hw : w ≤ 13) : ∀ (f : Nat) (x y : Int), (walkK w h d f x y).Nodup
  | 0, x, y => List.nodup_nil
  | f + 1, x, y => by
    unfold walkK
    split
    · rename_i hr
      refine List.nodup_cons.mpr ⟨fun hn => ?_, walk_nodup hd hw f _ _⟩
      exact (bey_here hd (x := x) (y := y) (n := (13 * y + x).toNat) (by omega) (by omega)).2 (walk_bey hd hw f _ _ _ hn).1
    · exact List.nodup_nil
theorem ray_mem {ru : Rules} (S : Shaped ru) {d f c n : Nat} (hd : d < 4) (h : n ∈ rayF ru d f c) : onG ru n = true ∧ n < 169 := by
  obtain ⟨_, h1, h2⟩ := walk_bey hd S.w13 _ _ _ _ h
  have := S.h13
  exact ⟨onG_iff.mpr ⟨h1, h2⟩, by omega⟩
theorem ray_apart {ru : Rules} (S : Shaped ru) {d e f c n : Nat} (hd : d < 4) (he : e < 4) (hde : d ≠ e) (h1 : n ∈ rayF ru d f c) (h2 : n ∈ rayF ru e f c) : False := by
  have a := (walk_bey hd S.w13 _ _ _ _ h1).1
  have b := (walk_bey he S.w13 _ _ _ _ h2).1
  have key : ∀ d, d < 4 → Bey d ((c : Int) % 13 + dX d) ((c : Int) / 13 + dY d) n → (d = 0 ∧ (n : Int) % 13 = (c : Int) % 13 ∧ (n : Int) / 13 > (c : Int) / 13) ∨ (d = 1 ∧ (n : Int) / 13 = (c : Int) / 13 ∧ (n : Int) % 13 > (c : Int) % 13) ∨ (d = 2 ∧ (n : Int) % 13 = (c : Int) % 13 ∧ (n : Int) / 13 < (c : Int) / 13) ∨ (d = 3 ∧ (n : Int) / 13 = (c : Int) / 13 ∧ (n : Int) % 13 < (c : Int) % 13) := fun d hd h => by
    rcases four hd with rfl | rfl | rfl | rfl
    · have h : (n : Int) % 13 = (c : Int) % 13 + 0 ∧ (c : Int) / 13 + 1 ≤ (n : Int) / 13 := h
      exact .inl ⟨rfl, by omega, by omega⟩
    · have h : (n : Int) / 13 = (c : Int) / 13 + 0 ∧ (c : Int) % 13 + 1 ≤ (n : Int) % 13 := h
      exact .inr (.inl ⟨rfl, by omega, by omega⟩)
    · have h : (n : Int) % 13 = (c : Int) % 13 + 0 ∧ (n : Int) / 13 ≤ (c : Int) / 13 + -1 := h
      exact .inr (.inr (.inl ⟨rfl, by omega, by omega⟩))
    · have h : (n : Int) / 13 = (c : Int) / 13 + 0 ∧ (n : Int) % 13 ≤ (c : Int) % 13 + -1 := h
      exact .inr (.inr (.inr ⟨rfl, by omega, by omega⟩))
  have ka := key d hd a
  have kb := key e he b
  omega
/-! ### one seat -/
structure Fine (ru : Rules) : Prop where
  sh : Shaped ru
  one : ∀ c c', onG ru c = true → onG ru c' = true → ru.kindAt c = .seat → ru.kindAt c' = .seat → c = c'
theorem first_nil {l : List (Nat × Nat)} (h : Tafl.firstOf l = none) : l = [] := by
  cases l with
  | nil => rfl
  | cons a r =>
    obtain ⟨z, e, _⟩ := later_fold r a
    have e' : Tafl.firstOf (a :: r) = some z := e
    rw [h] at e'
    cases e'
theorem judge_fine {ru : Rules} {b : Tafl.Bytes} (h : Tafl.judge b = .ok ru) (S : Shaped ru) : Fine ru := by
  refine ⟨S, fun c c' h1 h2 k1 k2 => ?_⟩
  unfold Tafl.judge at h
  cases hg : Tafl.grammar b with
  | error p =>
    rw [hg] at h
    cases h
  | ok r =>
    rw [hg] at h
    dsimp only at h
    cases hf : Tafl.firstOf (Tafl.wrongs b.length r) with
    | some f =>
      rw [hf] at h
      cases h
    | none =>
      rw [hf] at h
      have e : r = ru := by injection h
      subst e
      have hw := first_nil hf
      unfold Tafl.wrongs at hw
      have hs := (List.append_eq_nil_iff.mp hw).1
      have hs2 : r.seats.drop 1 = [] := List.map_eq_nil_iff.mp hs
      have mem : ∀ c, onG r c = true → r.kindAt c = .seat → (c % 13, c / 13) ∈ r.seats := fun c h1 k1 => by
        unfold Tafl.Rules.seats
        refine List.mem_filter.mpr ⟨mem_written.mpr (onG_iff.mp h1), ?_⟩
        have ec : r.isCell c = true := h1
        unfold Tafl.Rules.kindAt at k1
        rw [if_pos ec] at k1
        show (r.kind (c % 13) (c / 13) == Kind.seat) = true
        rw [show r.kind (c % 13) (c / 13) = Kind.seat from k1]
        rfl
      have m1 := mem c h1 k1
      have m2 := mem c' h2 k2
      cases hl : r.seats with
      | nil =>
        rw [hl] at m1
        cases m1
      | cons a t =>
        rw [hl] at m1 m2 hs2
        have ht : t = [] := hs2
        subst ht
        have e1 := List.mem_singleton.mp m1
        have e2 := List.mem_singleton.mp m2
        have e := e1.trans e2.symm
        have := (Prod.mk.inj e).1
        have := (Prod.mk.inj e).2
        omega
theorem kIx_inj {a b : Kind} : (kIx a == kIx b) = (a == b) := by
  cases a <;> cases b <;> rfl
theorem idx_get {l : List Nat} (h : l.idxOf 1 < l.length) : l[l.idxOf 1]? = some 1 := by
  rw [List.getElem?_eq_getElem h, List.getElem_idxOf h]
theorem kway_nil (ru : Rules) : kwayL ru [] = [] := by
  unfold kwayL
  split <;> rfl
theorem seat_iff {ru : Rules} (F : Fine ru) {c : Nat} (hc : c < 169) (ho : onG ru c = true) : ru.kindAt c = .seat ↔ c = seatN ru := by
  have at_ : ∀ {c}, (glist ru)[c]? = some 1 → c < 169 ∧ onG ru c = true ∧ ru.kindAt c = .seat := fun {c} h => by
    have hc : c < 169 := by
      have := (List.getElem?_eq_some_iff.mp h).1
      rw [glist_len] at this
      exact this
    rw [glist_at hc] at h
    by_cases ho : onG ru c = true
    · refine ⟨hc, ho, ?_⟩
      have e := kind_eq hc ho
      have e2 := gAt_eq (ru := ru) hc
      rw [glist_at hc, h] at e2
      rw [← Option.some.inj e2] at e
      cases hk : ru.kindAt c with
      | seat => rfl
      | _ =>
        rw [hk] at e
        cases e
    · rw [if_neg ho] at h
      cases h
  constructor
  · intro hk
    have hm : (glist ru)[c]? = some 1 := by
      rw [gAt_eq hc, kind_eq hc ho, hk]
      rfl
    have hmem : 1 ∈ glist ru := List.mem_of_getElem? hm
    have hlt : seatN ru < (glist ru).length := List.idxOf_lt_length_of_mem hmem
    have hs : (glist ru)[seatN ru]? = some 1 := idx_get hlt
    obtain ⟨_, o2, k2⟩ := at_ hs
    exact F.one c (seatN ru) ho o2 hk k2
  · rintro rfl
    have hlt : seatN ru < (glist ru).length := by rw [glist_len]; exact hc
    have hs : (glist ru)[seatN ru]? = some 1 := idx_get hlt
    exact (at_ hs).2.2
/-! ### ways -/
def emp (p : Pos) (n : Nat) : Bool := p.on n == .none
theorem tw_tw {α : Type} (p q : α → Bool) : ∀ l : List α, (l.takeWhile p).takeWhile q = l.takeWhile fun x => p x && q x
  | [] => rfl
  | a :: l => by
    rw [List.takeWhile_cons, List.takeWhile_cons]
    cases hp : p a
    · rfl
    · rw [if_pos rfl, List.takeWhile_cons]
      cases hq : q a
      · rfl
      · rw [if_pos rfl, Bool.true_and, if_pos rfl, tw_tw p q l]
theorem man_way {ru : Rules} (F : Fine ru) {p : Pos} {d : Nat} (hd : d < 4) : ∀ (f c : Nat), onG ru c = true → ru.manWay p d f c = (((rayF ru d f c).takeWhile (wayB ru)).takeWhile (emp p)).filter fun n => !(n == seatN ru)
  | 0, c, _ => rfl
  | f + 1, c, hc => by
    rw [Tafl.Rules.manWay]
    cases hn : ru.next d c with
    | none =>
      rw [ray_none F.sh hd hc hn]
      rfl
    | some n =>
      obtain ⟨ho, h169, _⟩ := next_some F.sh hd hc hn
      rw [ray_some F.sh hd hc hn]
      have ih := man_way F (p := p) hd f n ho
      have sf := seat_iff F h169 ho
      rw [tw_tw] at ih ⊢
      rw [List.takeWhile_cons]
      dsimp only
      have hg := kind_eq h169 ho
      have hf : ru.free p n = (ru.kindAt n != .wall && emp p n) := rfl
      have hw : wayB ru n = (ru.kindAt n != .wall && (ru.kindAt n != .exit && (ru.kindAt n != .seat || ru.passed))) := by
        unfold wayB
        rw [hg]
        cases ru.kindAt n <;> cases ru.passed <;> rfl
      rw [hf, hw]
      cases hk : ru.kindAt n with
      | wall => rfl
      | exit =>
        cases emp p n <;> rfl
      | seat =>
        have es := sf.mp hk
        cases emp p n with
        | false =>
          cases ru.passed <;> rfl
        | true =>
          cases hp : ru.passed with
          | false => rfl
          | true =>
            show ru.manWay p d f n = _
            rw [ih]
            show _ = ((n :: (rayF ru d f n).takeWhile fun x => wayB ru x && emp p x).filter fun n => !(n == seatN ru))
            rw [List.filter_cons, es]
            simp
      | plain =>
        have es : ¬ n = seatN ru := fun y => by
          have := sf.mpr y
          rw [hk] at this
          cases this
        cases emp p n with
        | false => rfl
        | true =>
          show n :: ru.manWay p d f n = ((n :: (rayF ru d f n).takeWhile fun x => wayB ru x && emp p x).filter fun n => !(n == seatN ru))
          rw [ih, List.filter_cons, if_pos (by simpa using es)]
theorem king_way {ru : Rules} (F : Fine ru) {p : Pos} {d : Nat} (hd : d < 4) : ∀ (f c : Nat), onG ru c = true → ru.kingWay p d f c = (kwayL ru (rayF ru d f c)).takeWhile (emp p)
  | 0, c, _ => by
    rw [Tafl.Rules.kingWay, ray_zero, kway_nil]
    rfl
  | f + 1, c, hc => by
    rw [Tafl.Rules.kingWay]
    cases hn : ru.next d c with
    | none =>
      rw [ray_none F.sh hd hc hn, kway_nil]
      rfl
    | some n =>
      obtain ⟨ho, h169, _⟩ := next_some F.sh hd hc hn
      rw [ray_some F.sh hd hc hn]
      have ih := king_way F (p := p) hd f n ho
      dsimp only
      have hg := kind_eq h169 ho
      have hf : ru.free p n = (ru.kindAt n != .wall && emp p n) := rfl
      have hw : (!(gAt ru n == 3)) = (ru.kindAt n != .wall) := by
        rw [hg]
        cases ru.kindAt n <;> rfl
      unfold kwayL at ih ⊢
      rw [List.takeWhile_cons, hf, hw]
      by_cases hs : ru.slides = true
      · rw [if_pos hs] at ih
        rw [if_pos hs, if_pos hs]
        cases hkw : ru.kindAt n != Kind.wall with
        | false => rfl
        | true =>
          rw [if_pos rfl, List.takeWhile_cons, Bool.true_and]
          cases emp p n with
          | false => rfl
          | true =>
            rw [ih]
            rfl
      · rw [if_neg hs, if_neg hs]
        cases hkw : ru.kindAt n != Kind.wall with
        | false => rfl
        | true =>
          rw [if_pos rfl, List.take_succ_cons, List.take_zero, List.takeWhile_cons, Bool.true_and]
          cases emp p n <;> rfl
theorem filt_true (l : List Nat) : (l.filter fun _ => true) = l := List.filter_eq_self.mpr fun _ _ => rfl
/-- where a piece goes, as the program goes there -/
def goL (ru : Rules) (p : Pos) (k : Bool) (ws : List (List Nat)) : List Nat := ws.flatMap fun l => (l.takeWhile (emp p)).filter fun n => k || !(n == seatN ru)
theorem reach_eq {ru : Rules} (F : Fine ru) {p : Pos} {c : Nat} (hc : onG ru c = true) : ru.reach p c = goL ru p (p.king == c) (if p.king = c then kwyL ru c else wayL ru c) := by
  unfold Tafl.Rules.reach goL Tafl.WAYS
  by_cases hk : p.king = c
  · have e : (p.king == c) = true := beq_iff_eq.mpr hk
    rw [if_pos hk, e]
    unfold kwyL raysL
    simp only [List.flatMap_cons, List.flatMap_nil, List.map_cons, List.map_nil, if_pos hk, Bool.true_or, filt_true, rayN_eq, Tafl.STRIDE]
    rw [king_way F (by decide) 13 c hc, king_way F (by decide) 13 c hc, king_way F (by decide) 13 c hc, king_way F (by decide) 13 c hc]
  · have e : (p.king == c) = false := beq_eq_false_iff_ne.mpr hk
    rw [if_neg hk, e]
    unfold wayL raysL
    simp only [List.flatMap_cons, List.flatMap_nil, List.map_cons, List.map_nil, if_neg hk, Bool.false_or, rayN_eq, Tafl.STRIDE]
    rw [man_way F (by decide) 13 c hc, man_way F (by decide) 13 c hc, man_way F (by decide) 13 c hc, man_way F (by decide) 13 c hc]
/-- one direction -/
def reachD (ru : Rules) (p : Pos) (c d : Nat) : List Nat := if p.king = c then ru.kingWay p d Tafl.STRIDE c else ru.manWay p d Tafl.STRIDE c
theorem reachD_sub {ru : Rules} (F : Fine ru) {p : Pos} {c d : Nat} (hd : d < 4) (hc : onG ru c = true) : (reachD ru p c d).Sublist (rayF ru d 13 c) ∧ ∀ n ∈ reachD ru p c d, p.on n = .none := by
  unfold reachD
  by_cases hk : p.king = c
  · rw [if_pos hk, show Tafl.STRIDE = 13 from rfl, king_way F hd 13 c hc]
    refine ⟨(List.takeWhile_sublist _).trans ?_, fun n hn => ?_⟩
    · unfold kwayL
      split
      · exact List.takeWhile_sublist _
      · exact (List.take_sublist _ _).trans (List.takeWhile_sublist _)
    · have h : ∀ {l : List Nat} {n}, n ∈ l.takeWhile (emp p) → emp p n = true := fun {l n} h => by
        induction l with
        | nil => cases h
        | cons a l ih =>
          rw [List.takeWhile_cons] at h
          split at h
          · rcases List.mem_cons.mp h with rfl | h
            · assumption
            · exact ih h
          · cases h
      exact beq_iff_eq.mp (h hn)
  · rw [if_neg hk, show Tafl.STRIDE = 13 from rfl, man_way F hd 13 c hc]
    refine ⟨List.filter_sublist.trans ((List.takeWhile_sublist _).trans (List.takeWhile_sublist _)), fun n hn => ?_⟩
    have h : ∀ {l : List Nat} {n}, n ∈ l.takeWhile (emp p) → emp p n = true := fun {l n} h => by
      induction l with
      | nil => cases h
      | cons a l ih =>
        rw [List.takeWhile_cons] at h
        split at h
        · rcases List.mem_cons.mp h with rfl | h
          · assumption
          · exact ih h
        · cases h
    exact beq_iff_eq.mp (h (List.mem_filter.mp hn).1)
theorem reach_D (ru : Rules) (p : Pos) (c : Nat) : ru.reach p c = [0, 1, 2, 3].flatMap (reachD ru p c) := rfl
theorem reach_mem {ru : Rules} (F : Fine ru) {p : Pos} {c n : Nat} (hc : onG ru c = true) (h : n ∈ ru.reach p c) : onG ru n = true ∧ n < 169 ∧ p.on n = .none := by
  rw [reach_D] at h
  obtain ⟨d, hd, hn⟩ := List.mem_flatMap.mp h
  have hd4 : d < 4 := by
    simp only [List.mem_cons, List.not_mem_nil, or_false] at hd
    omega
  obtain ⟨s, e⟩ := reachD_sub F (p := p) hd4 hc
  obtain ⟨a, b⟩ := ray_mem F.sh hd4 (s.subset hn)
  exact ⟨a, b, e n hn⟩
theorem reach_nodup {ru : Rules} (F : Fine ru) {p : Pos} {c : Nat} (hc : onG ru c = true) : (ru.reach p c).Nodup := by
  rw [reach_D]
  unfold List.Nodup
  rw [List.pairwise_flatMap]
  refine ⟨fun d hd => ?_, ?_⟩
  · have hd4 : d < 4 := by
      simp only [List.mem_cons, List.not_mem_nil, or_false] at hd
      omega
    exact List.Pairwise.sublist (reachD_sub F hd4 hc).1 (walk_nodup hd4 F.sh.w13 _ _ _)
  · have key : ∀ d e, d < 4 → e < 4 → d ≠ e → ∀ x ∈ reachD ru p c d, ∀ y ∈ reachD ru p c e, x ≠ y := fun d e hd he hde x hx y hy exy => by
      subst exy
      exact ray_apart F.sh hd he hde ((reachD_sub F hd hc).1.subset hx) ((reachD_sub F he hc).1.subset hy)
    refine .cons (fun e he => ?_) (.cons (fun e he => ?_) (.cons (fun e he => ?_) (.cons (fun e he => ?_) .nil)))
    · simp only [List.mem_cons, List.not_mem_nil, or_false] at he
      exact key 0 e (by omega) (by omega) (by omega)
    · simp only [List.mem_cons, List.not_mem_nil, or_false] at he
      exact key 1 e (by omega) (by omega) (by omega)
    · simp only [List.mem_cons, List.not_mem_nil, or_false] at he
      exact key 2 e (by omega) (by omega) (by omega)
    · cases he
/-- sorted, without doubles -/
theorem sort_eq {l : List Nat} (hn : l.Nodup) (h : ∀ x ∈ l, x < 169) {ns : List Int} (hp : ns.Perm (l.map fun c => ((c : Nat) : Int))) (hs : ns.Pairwise (· ≤ ·)) : ns = ((List.range 192).filter fun t => l.contains t).map fun c => ((c : Nat) : Int) := by
  refine sorted_eq (hp.trans (List.Perm.map _ ?_)) hs (range_sorted 192 _)
  refine (List.perm_ext_iff_of_nodup hn (List.nodup_range.filter _)).mpr fun c => ?_
  rw [List.mem_filter, List.mem_range, List.contains_iff_mem]
  exact ⟨fun hc => ⟨by have := h c hc; omega, hc⟩, fun hc => hc.2⟩
theorem reach_len {ru : Rules} (F : Fine ru) {p : Pos} {c : Nat} (hc : onG ru c = true) : (ru.reach p c).length ≤ 52 := by
  rw [reach_D]
  have key : ∀ d, d < 4 → (reachD ru p c d).length ≤ 13 := fun d hd => Nat.le_trans (reachD_sub F hd hc).1.length_le (walk_len 13 _ _)
  have k0 := key 0 (by decide)
  have k1 := key 1 (by decide)
  have k2 := key 2 (by decide)
  have k3 := key 3 (by decide)
  simp only [List.flatMap_cons, List.flatMap_nil, List.length_append, List.length_nil]
  omega
end Tf
set_option Elab.async false
set_option linter.all false
set_option maxRecDepth 100000
set_option maxHeartbeats 8000000
/-! Moves. -/
namespace Tf
open PySem PySem.Spec PyProof.Rows L2 TfX TfM
section
variable {P : Program} {w : World} {K : PySem.W.Frag} {mg : Str → Option Value} {base : Heap}
theorem te_by {t : TE} {σ : L2.St} {H : Hp} {Q : VK} (P : VK) (hQ : ∀ v H', P v H' → Q v H') (h : (∀ v H', P v H' → Q v H') → t σ H Q) : t σ H Q := h hQ
theorem tIf_of {t : TT} {A B : TE} {Q : VK} {σ : L2.St} {H : Hp} (c : Bool) (h : ∀ Q : Bool → Hp → Prop, Q c H → t σ H Q) (ha : c = true → A σ H Q) (hb : c = false → B σ H Q) : tIf t A B σ H Q := by
  refine h _ ?_
  cases c with
  | true => exact ifT rfl (ha rfl)
  | false => exact ifF rfl (hb rfl)
theorem on_king {p : Tafl.Pos} {c : Nat} : (p.on c == .king) = (p.king == c) := by
  unfold Tafl.Pos.on
  by_cases h : p.king = c
  · rw [if_pos h, h]
    simp
  · rw [if_neg h, beq_eq_false_iff_ne.mpr h]
    split
    · rfl
    · split <;> rfl
theorem ways_in {ru : Tafl.Rules} (S : Shaped ru) {c : Nat} {l : List Nat} (h : l ∈ wayL ru c ∨ l ∈ kwyL ru c) : (∀ n ∈ l, n < 169) ∧ l.length ≤ 13 := by
  rcases h with h | h
  · obtain ⟨r, hr, rfl⟩ := List.mem_map.mp h
    have s : (r.takeWhile (wayB ru)).Sublist r := List.takeWhile_sublist _
    obtain ⟨a, b⟩ := rays_in S hr
    exact ⟨fun n hn => a n (s.subset hn), Nat.le_trans s.length_le b⟩
  · obtain ⟨r, hr, rfl⟩ := List.mem_map.mp h
    have s : (kwayL ru r).Sublist r := by
      unfold kwayL
      split
      · exact List.takeWhile_sublist _
      · exact (List.take_sublist _ _).trans (List.takeWhile_sublist _)
    obtain ⟨a, b⟩ := rays_in S hr
    exact ⟨fun n hn => a n (s.subset hn), Nat.le_trans s.length_le b⟩
def spReach (K : PySem.W.Frag) : Sp := fun vs H Q _ => ∃ (h dxh : Addr) (ru : Tafl.Rules) (r : HR) (pb : Addr) (p : Tafl.Pos) (c : Nat), vs = [.ref h, .ref pb, .int c] ∧ HallAt K H h dxh ru r ∧ Fine ru ∧ H pb = some (.lst (iv (boardL p))) ∧ c < 169 ∧ onG ru c = true ∧
  ∀ H' D, Same H H' → H D = none → H' D = some (.lst (iv (ru.reach p c))) → Q (.ref D) H'
theorem emp_ix {p : Tafl.Pos} {n : Nat} : (!decide (V.int ((pIx (p.on n) : Nat) : Int) = V.int 0)) = !emp p n := by
  rw [show decide (V.int ((pIx (p.on n) : Nat) : Int) = V.int 0) = (pIx (p.on n) == 0) from nat_dec (b := 0)]
  unfold emp
  cases p.on n <;> rfl
theorem ok_reach (T : Txt K mg) : FnOk P w K mg base CX0 1 (a_reach K) T.fd_reach p_reach (spReach K) := by
  refine T.F_reach.ok sc_reach (fun vs H Q E h => ?_) (fun cdv A outer s H vs Q E hr h => ⟨_, PSs.nox (pss_cons (ps_set (i := 3) sc_reach.nd rfl (Or.inl rfl) (pe_cmpR op_eq (pe_ix ix_list (pv 1) (pv 2) (fun _ _ => rfl)) (pe_glob (v := .int 3) rfl T.c_KING ⟨_, rfl⟩) (nomark _)))
      (pss_cons (ps_set (i := 4) sc_reach.nd rfl (Or.inl rfl) (pe_ifExp (pt_val (pv 3)) (pe_ix ix_list (pe_fld (pv 0) rfl) (pv 2) (fun _ _ => rfl)) (pe_ix ix_list (pe_fld (pv 0) rfl) (pv 2) (fun _ _ => rfl))))
      (pss_cons (ps_set (i := 5) sc_reach.nd rfl (Or.inl rfl) (pe_lst pa_nil))
      (pss_cons (ps_for PassesOwn.never rfl (pi_list (pv 4)) (pg_name (i := 6) sc_reach.nd rfl (Or.inl rfl)) (pss_one (ps_for PassesOwn.never rfl (pi_list (pv 6)) (pg_name (i := 7) sc_reach.nd rfl (Or.inl rfl)) (pss_cons (ps_if (pt_cmpR op_ne (pe_ix ix_list (pv 1) (pv 7) (fun _ _ => rfl)) (pe_glob (v := .int 0) rfl T.c_NOBODY ⟨_, rfl⟩) (nomark _)) (pss_one ps_break) pss_nil)
      (pss_one (ps_if (PW.pt (pw_or (pt_val (pv 3)) (pw_or1 (pt_cmpR op_ne (pv 7) (pe_fld (pv 0) rfl) (nomark _))))) (pss_one (ps_expr (pe_bm PySem.F.plainAttrs_list PySem.F.slot_list_append PySem.F.type_list_append mt_append (pv 5) (pa_cons (pv 7) pa_nil)))) pss_nil))))))
      (pss_one (ps_ret (pv 5))))))), ?_⟩)
  · obtain ⟨h, dxh, ru, r, pb, p, c, rfl, _⟩ := h
    rfl
  · obtain ⟨h, dxh, ru, r, pb, p, c, rfl, X, F, hb, c169, con, q⟩ := h
    have bat : ∀ {n}, n < 169 → (iv (boardL p))[n]? = some (.int (pIx (p.on n))) := fun hn => iv_at (board_at hn)
    refine ⟨_, rfl, _, rfl, pb, _, _, _, rfl, rfl, SqL.of hb, atI_nat (bat c169), rfl, ?_⟩
    have e1 : decide (V.int ((pIx (p.on c) : Nat) : Int) = V.int 3) = (p.king == c) := ((nat_dec (b := 3)).trans (pIx_inj (b := .king))).trans on_king
    rw [e1]
    generalize hk : (p.king == c) = k
    generalize hws : (if p.king = c then kwyL ru c else wayL ru c) = ws
    have hre := reach_eq F (p := p) con
    rw [hk, hws] at hre
    have win : ∀ l ∈ ws, (∀ n ∈ l, n < 169) ∧ l.length ≤ 13 := fun l hl => by
      rw [← hws] at hl
      split at hl
      · exact ways_in F.sh (.inr hl)
      · exact ways_in F.sh (.inl hl)
    dsimp only [gName]
    show tIf _ _ _ _ _ _
    refine te_by (fun v H' => H' = H ∧ ∃ a us, v = .ref a ∧ H a = some (.lst us) ∧ All2 (LsI H) us ws) ?_ fun after => ?_
    · rintro v H' ⟨rfl, a, us, rfl, ha, TW⟩
      refine ⟨Nat.zero_le _, fun D nD => ?_⟩
      have sD : ∀ o, Same H' (L2.upd H' D o) := fun o => Same.upd nD
      refine ⟨_, rfl, a, rfl, ⟨_, SqL.of (sD _ _ _ ha)⟩, ?_⟩
      refine for_list (K := K) (a := a) (xs := us) (fun i σ H2 => ∃ w1 w2 : Option V, σ = [some (.ref h), some (.ref pb), some (.int c), some (.bl k), some (.ref a), some (.ref D), w1, w2] ∧ H2 = L2.upd H' D (.lst (iv (goL ru p k (ws.take i)))) ∧ (goL ru p k (ws.take i)).length ≤ 13 * i) ⟨none, none, rfl, rfl, Nat.zero_le _⟩ ?_ ?_ ?_
      · rintro i σ H2 _ ⟨w1, w2, rfl, rfl, _⟩
        exact SqL.of (sD _ _ _ ha)
      · rintro i x σ H2 hx ⟨w1, w2, rfl, rfl, hlen⟩
        obtain ⟨l, hl, b, rfl, hlb⟩ := TW.at hx
        have wl := win l (List.mem_of_getElem? hl)
        have hi4 : i < 4 := by
          have y := (List.getElem?_eq_some_iff.mp hl).1
          have z : ws.length = 4 := by
            rw [← hws]
            split <;> rfl
          omega
        have gl : goL ru p k (ws.take (i + 1)) = goL ru p k (ws.take i) ++ (l.takeWhile (emp p)).filter (fun n => k || !(n == seatN ru)) := by
          unfold goL
          rw [List.take_add_one, hl, List.flatMap_append]
          simp
        generalize hacc : goL ru p k (ws.take i) = acc at hlen gl
        rw [gl]
        have fin : ∀ j, (∀ n ∈ l.take j, emp p n = true) → (∀ n, l[j]? = some n → emp p n = false) → ∀ w2 : Option V, ∃ w1 w2' : Option V, [some (V.ref h), some (V.ref pb), some (V.int c), some (V.bl k), some (V.ref a), some (V.ref D), some (V.ref b), w2] = [some (V.ref h), some (V.ref pb), some (V.int c), some (V.bl k), some (V.ref a), some (V.ref D), w1, w2'] ∧
            L2.upd H' D (.lst (iv (acc ++ (l.take j).filter (fun n => k || !(n == seatN ru))))) = L2.upd H' D (.lst (iv (acc ++ (l.takeWhile (emp p)).filter (fun n => k || !(n == seatN ru))))) ∧ (acc ++ (l.takeWhile (emp p)).filter (fun n => k || !(n == seatN ru))).length ≤ 13 * (i + 1) := fun j h1 h2 w2 => by
          refine ⟨_, _, rfl, ?_, ?_⟩
          · rw [take_while h1 h2]
          · rw [List.length_append]
            have y1 := List.length_filter_le (fun n => k || !(n == seatN ru)) (l.takeWhile (emp p))
            have y2 := (List.takeWhile_sublist (p := emp p) (l := l)).length_le
            omega
        refine ⟨_, rfl, b, rfl, ⟨_, SqL.of (sD _ _ _ hlb)⟩, ?_⟩
        refine for_list (K := K) (a := b) (xs := iv l) (fun j σ H2 => ∃ w2 : Option V, σ = [some (.ref h), some (.ref pb), some (.int c), some (.bl k), some (.ref a), some (.ref D), some (.ref b), w2] ∧ H2 = L2.upd H' D (.lst (iv (acc ++ (l.take j).filter (fun n => k || !(n == seatN ru))))) ∧ ∀ n ∈ l.take j, emp p n = true) ⟨w2, rfl, ?_, fun n hn => by rw [List.take_zero] at hn; cases hn⟩ ?_ ?_ ?_
        · rw [List.take_zero, List.filter_nil, List.append_nil]
        · rintro j σ H2 _ ⟨w2, rfl, rfl, _⟩
          exact SqL.of (sD _ _ _ hlb)
        · rintro j x σ H2 hx ⟨w2, rfl, rfl, hem⟩
          obtain ⟨n, hn, rfl⟩ := iv_get hx
          have n169 := wl.1 n (List.mem_of_getElem? hn)
          refine ⟨_, rfl, _, rfl, pb, _, _, _, rfl, rfl, SqL.of (sD _ _ _ hb), atI_nat (bat n169), rfl, _, rfl, ?_⟩
          rw [emp_ix]
          refine ifB (fun h1 => ?_) fun h1 => ?_
          · exact fin j hem (fun m hm => by rw [hn] at hm; cases hm; simpa using h1) _
          · have h1' : emp p n = true := by simpa using h1
            have ft : (l.take (j + 1)).filter (fun n => k || !(n == seatN ru)) = (l.take j).filter (fun n => k || !(n == seatN ru)) ++ if (k || !(n == seatN ru)) = true then [n] else [] := take_filter hn
            have add : (k || !(n == seatN ru)) = true → ∀ σ, σ = [some (V.ref h), some (V.ref pb), some (V.int c), some (V.bl k), some (V.ref a), some (V.ref D), some (V.ref b), some (V.int n)] → tDrop (tBM K "list" rAppend (tVar 5) (tCons (tVar 7) tNil)) { nx := fun σ H2 => ∃ w2 : Option V, σ = [some (.ref h), some (.ref pb), some (.int c), some (.bl k), some (.ref a), some (.ref D), some (.ref b), w2] ∧ H2 = L2.upd H' D (.lst (iv (acc ++ (l.take (j + 1)).filter (fun n => k || !(n == seatN ru))))) ∧ ∀ n ∈ l.take (j + 1), emp p n = true, rt := Q } σ (L2.upd H' D (.lst (iv (acc ++ (l.take j).filter (fun n => k || !(n == seatN ru)))))) := fun hc σ hσ => by
              subst hσ
              refine ⟨_, rfl, tyL upd_same, _, rfl, D, _, _, rfl, rfl, upd_same, ?_, ⟨_, rfl, ?_, take_all hem hn h1'⟩⟩
              · rw [iv_len, List.length_append]
                have y1 := List.length_filter_le (fun n => k || !(n == seatN ru)) (l.take j)
                have y2 : (l.take j).length ≤ 13 := by rw [List.length_take]; omega
                exact line1000 (by omega)
              · rw [upd_upd, iv_app1, ft, if_pos hc, List.append_assoc]
            dsimp only [tNext]
            refine ifS_of (k || !(n == seatN ru)) (fun Q' q' => ?_) (fun hc => ?_) fun hc => ?_
            · refine ⟨_, rfl, _, rfl, ?_⟩
              refine ifB (fun h2 => ?_) fun h2 => ?_
              · have ek : (k || !(n == seatN ru)) = true := by rw [h2, Bool.true_or]
                rw [ek] at q'
                exact q'
              · have ek : (k || !(n == seatN ru)) = !(n == seatN ru) := by rw [h2, Bool.false_or]
                rw [ek] at q'
                refine ⟨_, rfl, _, rfl, h, _, dxh, _, _, rfl, (X.same (sD _)).ins, T.cl_Hall, T.na_Hall_seat, rfl, rfl, _, rfl, ?_⟩
                rw [show decide (V.int (n : Int) = V.int (seatN ru : Nat)) = (n == seatN ru) from nat_dec]
                exact q'
            · have y := add hc _ rfl
              exact y
            · refine ⟨_, rfl, ?_, take_all hem hn h1'⟩
              rw [ft, if_neg (by rw [hc]; exact Bool.false_ne_true), List.append_nil]
        · rintro σ H2 ⟨w2, rfl, rfl, hem⟩
          rw [iv_len] at *
          exact fin l.length hem (fun n hn => by rw [List.getElem?_eq_none (Nat.le_refl _)] at hn; cases hn) w2
      · rintro σ H2 ⟨w1, w2, rfl, rfl, _⟩
        have e2 : ws.take us.length = ws := by rw [TW.len, List.take_length]
        rw [e2, ← hre]
        exact ⟨_, rfl, q _ D (sD _) nD upd_same⟩
    · refine tIf_of k (fun Q' q' => ⟨_, rfl, _, rfl, q'⟩) (fun hc => ?_) fun hc => ?_
      · subst hc
        have hkc : p.king = c := beq_iff_eq.mp hk
        rw [if_pos hkc] at hws
        obtain ⟨vs, hv, TV⟩ := X.k
        obtain ⟨v, hvc, a, us, rfl, ha, TW⟩ := TV.by (i := c) (b := kwyL ru c) (by rw [List.getElem?_map, List.getElem?_range c169]; rfl)
        rw [hws] at TW
        exact ⟨_, rfl, h, _, dxh, _, _, rfl, X.ins, T.cl_Hall, T.na_Hall_king_ways, rfl, _, rfl, r.pk, _, _, _, rfl, rfl, SqL.of hv, atI_nat hvc, after _ _ ⟨rfl, a, us, rfl, ha, TW⟩⟩
      · subst hc
        have hkc : ¬ p.king = c := beq_eq_false_iff_ne.mp hk
        rw [if_neg hkc] at hws
        obtain ⟨vs, hv, TV⟩ := X.w
        obtain ⟨v, hvc, a, us, rfl, ha, TW⟩ := TV.by (i := c) (b := wayL ru c) (by rw [List.getElem?_map, List.getElem?_range c169]; rfl)
        rw [hws] at TW
        exact ⟨_, rfl, h, _, dxh, _, _, rfl, X.ins, T.cl_Hall, T.na_Hall_ways, rfl, _, rfl, r.pw, _, _, _, rfl, rfl, SqL.of hv, atI_nat hvc, after _ _ ⟨rfl, a, us, rfl, ha, TW⟩⟩
end
end Tf
set_option Elab.async false
set_option linter.all false
set_option maxRecDepth 100000
set_option maxHeartbeats 8000000
/-! All moves. -/
namespace Tf
open PySem PySem.Spec PyProof.Rows L2 TfX TfM
section
variable {P : Program} {w : World} {K : PySem.W.Frag} {mg : Str → Option Value} {base : Heap}
def ofB (s : Nat) (x : Tafl.Piece) : Bool := if s = 0 then x == .hunter else (x == .man || x == .king)
def spIsOf : Sp := fun vs H Q _ => ∃ (x : Tafl.Piece) (s : Nat), vs = [.int (pIx x), .int s] ∧ Q (.bl (ofB s x)) H
theorem ok_is_of (T : Txt K mg) : FnOk P w K mg base CX0 1 (a_is_of K) T.fd_is_of p_is_of spIsOf := by
  refine T.F_is_of.ok sc_is_of (fun vs H Q E h => ?_) (fun cdv A outer s H vs Q E hr h => ⟨_, PSs.nox (pss_cons (ps_if (pt_cmpR op_eq (pv 1) (pe_glob (v := .int 0) rfl T.c_HUNTERS_TURN ⟨_, rfl⟩) (nomark _)) (pss_one (ps_ret (pe_cmpR op_eq (pv 0) (pe_glob (v := .int 1) rfl T.c_HUNTER ⟨_, rfl⟩) (nomark _)))) pss_nil)
      (pss_one (ps_ret (pe_or (pe_cmpR op_eq (pv 0) (pe_glob (v := .int 2) rfl T.c_MAN ⟨_, rfl⟩) (nomark _)) (pe_one (pe_cmpR op_eq (pv 0) (pe_glob (v := .int 3) rfl T.c_KING ⟨_, rfl⟩) (nomark _))))))), ?_⟩)
  · obtain ⟨x, s, rfl, _⟩ := h
    rfl
  · obtain ⟨x, s, rfl, q⟩ := h
    unfold ofB at q
    refine ⟨_, rfl, rfl, _, rfl, ?_⟩
    rw [show decide (V.int (s : Nat) = V.int 0) = (s == 0) from nat_dec (b := 0)]
    refine ifB (fun h1 => ?_) fun h1 => ?_
    · rw [if_pos (beq_iff_eq.mp h1)] at q
      refine ⟨_, rfl, rfl, ?_⟩
      rw [show decide (V.int (pIx x : Nat) = V.int 1) = (x == .hunter) from (nat_dec (b := 1)).trans (pIx_inj (b := .hunter))]
      exact q
    · rw [if_neg (beq_eq_false_iff_ne.mp h1)] at q
      refine ⟨_, rfl, rfl, _, rfl, ?_⟩
      rw [show decide (V.int (pIx x : Nat) = V.int 2) = (x == .man) from (nat_dec (b := 2)).trans (pIx_inj (b := .man))]
      refine ifB (fun h2 => ?_) fun h2 => ?_
      · rw [h2, Bool.true_or] at q
        exact q
      · rw [h2, Bool.false_or] at q
        refine ⟨_, rfl, rfl, ?_⟩
        rw [show decide (V.int (pIx x : Nat) = V.int 3) = (x == .king) from (nat_dec (b := 3)).trans (pIx_inj (b := .king))]
        exact q
/-! ### the king's end -/
theorem goal_eq {ru : Tafl.Rules} {c : Nat} (hc : c < 169) (ho : onG ru c = true) : goalB ru c (gAt ru c) = ru.onGoal c := by
  unfold goalB Tafl.Rules.onGoal
  by_cases h : ru.goal = 1
  · rw [if_pos h, if_pos h, kind_eq hc ho]
    cases ru.kindAt c <;> rfl
  · rw [if_neg h, if_neg h]
    unfold edgeB Tafl.Rules.onEdge Tafl.STRIDE
    rw [Bool.or_assoc, Bool.or_assoc]
theorem goal_at {ru : Tafl.Rules} {c : Nat} (hc : c < 169) (ho : onG ru c = true) : ((goaL ru).map V.bl)[c]? = some (.bl (ru.onGoal c)) := by
  unfold goaL
  rw [List.getElem?_map, List.getElem?_map, List.getElem?_range hc]
  show some (V.bl (goalB ru c (gAt ru c))) = _
  rw [goal_eq hc ho]
theorem king_nowhere {ru : Tafl.Rules} {p : Tafl.Pos} (G : Good ru p) : decide (V.int (kingN p : Nat) = V.int 169) = (p.king == 255) := by
  rw [show decide (V.int (kingN p : Nat) = V.int 169) = (kingN p == 169) from nat_dec (b := 169)]
  unfold kingN
  rcases G.kg with h | h
  · rw [if_pos h, h]
    rfl
  · rw [if_neg (by omega), beq_eq_false_iff_ne.mpr (by omega), beq_eq_false_iff_ne.mpr (by omega)]
theorem king_at {ru : Tafl.Rules} {p : Tafl.Pos} (G : Good ru p) (h : (p.king == 255) = false) : kingN p = p.king ∧ p.king < 169 ∧ onG ru p.king = true := by
  have h' := beq_eq_false_iff_ne.mp h
  refine ⟨if_neg h', ?_⟩
  exact G.kg.resolve_left h'
theorem ended_eq (ru : Tafl.Rules) (p : Tafl.Pos) : decide (ru.ended p ≠ 0) = ((p.king == 255) || ru.onGoal p.king) := by
  unfold Tafl.Rules.ended Tafl.TAKEN
  by_cases h : p.king = 255
  · rw [if_pos h, h]
    rfl
  · rw [if_neg h, beq_eq_false_iff_ne.mpr h]
    cases ru.onGoal p.king <;> rfl
def spGone (K : PySem.W.Frag) : Sp := fun vs H Q _ => ∃ (h dxh : Addr) (ru : Tafl.Rules) (r : HR) (q dx pb : Addr) (p : Tafl.Pos), vs = [.ref h, .ref q] ∧ HallAt K H h dxh ru r ∧ PosAt K H q dx pb p ∧ Good ru p ∧ Q (.bl (decide (ru.ended p ≠ 0))) H
theorem ok_king_is_gone (T : Txt K mg) : FnOk P w K mg base CX0 1 (a_king_is_gone K) T.fd_king_is_gone p_king_is_gone (spGone K) := by
  refine T.F_king_is_gone.ok sc_king_is_gone (fun vs H Q E h => ?_) (fun cdv A outer s H vs Q E hr h => ⟨_, PSs.nox (pss_one (ps_ret (pe_or (pe_cmpR op_eq (pe_fld (pv 1) rfl) (pe_glob (v := .int 169) rfl T.c_NOWHERE ⟨_, rfl⟩) (nomark _)) (pe_one (pe_ix ix_list (pe_fld (pv 0) rfl) (pe_fld (pv 1) rfl) (fun _ _ => rfl)))))), ?_⟩)
  · obtain ⟨h, dxh, ru, r, q, dx, pb, p, rfl, _⟩ := h
    rfl
  · obtain ⟨h, dxh, ru, r, q, dx, pb, p, rfl, X, Y, G, k⟩ := h
    rw [ended_eq] at k
    refine ⟨_, rfl, q, _, dx, _, _, rfl, Y.ins, T.cl_Position, T.na_Position_king, rfl, rfl, _, rfl, ?_⟩
    rw [king_nowhere G]
    refine ifB (fun h1 => ?_) fun h1 => ?_
    · rw [h1, Bool.true_or] at k
      exact k
    · rw [h1, Bool.false_or] at k
      obtain ⟨k1, k2, k3⟩ := king_at G h1
      have e : ((goaL ru).map V.bl)[kingN p]? = some (.bl (ru.onGoal p.king)) := by rw [k1]; exact goal_at k2 k3
      exact ⟨_, rfl, h, _, dxh, _, _, rfl, X.ins, T.cl_Hall, T.na_Hall_goals, rfl, _, rfl, q, _, dx, _, _, rfl, Y.ins, T.cl_Position, T.na_Position_king, rfl, r.po, _, _, _, rfl, rfl, SqL.of X.o, atI_nat e, k⟩
/-! ### the side's pieces -/
theorem on_hunter {ru : Tafl.Rules} {p : Tafl.Pos} (G : Good ru p) {c : Nat} : (p.on c == .hunter) = p.hunters.testBit c := by
  unfold Tafl.Pos.on
  by_cases h : p.king = c
  · rw [if_pos h, ← h, G.hk]
    rfl
  · rw [if_neg h]
    cases hb : p.hunters.testBit c
    · rw [if_neg Bool.false_ne_true]
      split <;> rfl
    · rfl
theorem on_man {ru : Tafl.Rules} {p : Tafl.Pos} (G : Good ru p) {c : Nat} : (p.on c == .man) = p.men.testBit c := by
  unfold Tafl.Pos.on
  by_cases h : p.king = c
  · rw [if_pos h, ← h, G.mn]
    rfl
  · rw [if_neg h]
    cases hb : p.hunters.testBit c
    · rw [if_neg Bool.false_ne_true]
      cases hm : p.men.testBit c <;> rfl
    · rw [if_pos rfl, G.hm c hb]
      rfl
theorem range_cut {f : Nat → Bool} (h : ∀ c, c < 192 → f c = true → c < 169) : (List.range 192).filter f = (List.range 169).filter f := by
  have e : List.range 192 = List.range 169 ++ (List.range 23).map fun x => 169 + x := by decide +kernel
  rw [e, List.filter_append]
  have e2 : ((List.range 23).map fun x => 169 + x).filter f = [] := by
    rw [List.filter_eq_nil_iff]
    intro a ha hf
    obtain ⟨x, hx, rfl⟩ := List.mem_map.mp ha
    have hx := List.mem_range.mp hx
    have := h _ (by omega) hf
    omega
  rw [e2, List.append_nil]
theorem own_eq {ru : Tafl.Rules} {p : Tafl.Pos} (G : Good ru p) : p.own = (cellsL ru).filter fun c => ofB p.side (p.on c) := by
  unfold Tafl.Pos.own cellsL
  rw [List.filter_filter]
  by_cases hs : p.side = 0
  · rw [if_pos hs]
    unfold Tafl.cellsIn Tafl.GONE
    rw [range_cut (fun c _ hc => (G.ho c hc).1)]
    refine List.filter_congr fun c hc => ?_
    unfold ofB
    rw [if_pos hs, on_hunter G]
    cases hb : p.hunters.testBit c
    · rfl
    · rw [(G.ho c hb).2]
      rfl
  · rw [if_neg hs]
    unfold Tafl.GONE
    rw [range_cut]
    · refine List.filter_congr fun c hc => ?_
      unfold ofB
      rw [if_neg hs, on_man G, on_king]
      cases hb : p.men.testBit c
      · rw [Bool.false_or, Bool.false_or]
        by_cases hk : p.king = c
        · have hc' := List.mem_range.mp hc
          have ho : onG ru c = true := by
            rcases G.kg with h | h
            · omega
            · rw [← hk]
              exact h.2
          rw [ho, hk, Bool.and_true]
        · rw [beq_eq_false_iff_ne.mpr hk, beq_eq_false_iff_ne.mpr (Ne.symm hk)]
          rfl
      · rw [(G.mo c hb).2]
        rfl
    · intro c hc192 hc
      rcases Bool.or_eq_true_iff.mp hc with h | h
      · exact (G.mo c h).1
      · have e : c = p.king := beq_iff_eq.mp h
        rcases G.kg with h2 | h2
        · omega
        · rw [e]
          exact h2.1
/-! ### moves -/
def srt (l : List Nat) : List Nat := (List.range 192).filter fun t => l.contains t
def mvL (ru : Tafl.Rules) (p : Tafl.Pos) (c : Nat) : List (Nat × Nat) := (srt (ru.reach p c)).map fun t => (c, t)
theorem flat_filter {α β : Type} (f : α → Bool) (g : α → List β) : ∀ l : List α, (l.filter f).flatMap g = l.flatMap fun x => if f x = true then g x else []
  | [] => rfl
  | a :: l => by
    rw [List.filter_cons, List.flatMap_cons]
    by_cases h : f a = true
    · rw [if_pos h, if_pos h, List.flatMap_cons, flat_filter f g l]
    · rw [if_neg h, if_neg h, flat_filter f g l]
      rfl
theorem moves_eq {ru : Tafl.Rules} {p : Tafl.Pos} (G : Good ru p) : ru.moves p = if ru.ended p ≠ 0 then [] else (cellsL ru).flatMap fun c => if ofB p.side (p.on c) = true then mvL ru p c else [] := by
  unfold Tafl.Rules.moves
  by_cases h : ru.ended p ≠ 0
  · rw [if_pos h, if_pos h]
  · rw [if_neg h, if_neg h, own_eq G, flat_filter]
    rfl
theorem TpI.but {H H' : Hp} {D : Addr} {xs : List V} (hD : H D = some (.lst xs)) (b : But D H H') {v : V} {x : Nat × Nat} (h : TpI H v x) : TpI H' v x := by
  obtain ⟨a, e, h⟩ := h
  exact ⟨a, e, b _ _ h (ne_of h hD (by intro z; cases z))⟩
theorem cells_mem {ru : Tafl.Rules} {c : Nat} (h : c ∈ cellsL ru) : c < 169 ∧ onG ru c = true := by
  unfold cellsL at h
  rw [List.mem_filter, List.mem_range] at h
  exact h
theorem cells_len (ru : Tafl.Rules) : (cellsL ru).length ≤ 169 := by
  have y := List.length_filter_le (onG ru) (List.range 169)
  rw [List.length_range] at y
  exact y
theorem srt_len {ru : Tafl.Rules} (F : Fine ru) {p : Tafl.Pos} {c : Nat} (hc : onG ru c = true) : (srt (ru.reach p c)).length ≤ 52 := by
  refine Nat.le_trans (Nat.le_of_eq ?_) (reach_len F (p := p) hc)
  refine List.Perm.length_eq ?_
  refine ((List.perm_ext_iff_of_nodup (reach_nodup F hc) (List.nodup_range.filter _)).mpr fun t => ?_).symm
  rw [List.mem_filter, List.mem_range, List.contains_iff_mem]
  exact ⟨fun hc2 => ⟨by have := (reach_mem F hc hc2).2.1; omega, hc2⟩, fun hc2 => hc2.2⟩
theorem ints_iv {l : List Nat} : (l.map fun c => ((c : Nat) : Int)).map V.int = iv l := by
  rw [List.map_map]
  rfl
def spMoves (K : PySem.W.Frag) : Sp := fun vs H Q _ => ∃ (h dxh : Addr) (ru : Tafl.Rules) (r : HR) (q dx pb : Addr) (p : Tafl.Pos), vs = [.ref h, .ref q] ∧ HallAt K H h dxh ru r ∧ Fine ru ∧ PosAt K H q dx pb p ∧ Good ru p ∧
  ∀ H' D us, Same H H' → H D = none → H' D = some (.lst us) → All2 (TpI H') us (ru.moves p) → (ru.moves p).length ≤ 9000 → Q (.ref D) H'
theorem ok_moves (T : Txt K mg) : FnOk P w K mg base CX0 2 (a_moves K) T.fd_moves p_moves (spMoves K) := by
  refine T.F_moves.ok sc_moves (fun vs H Q E h => ?_) (fun cdv A outer s H vs Q E hr h => ⟨_, PSs.nox (pss_cons (ps_if (pt_val (pe_call (ok_king_is_gone T) (hr.mono (by decide)) rfl T.g_king_is_gone T.F_king_is_gone.kp (b_king_is_gone T) .nil pass0 (pa_cons (pv 0) (pa_cons (pv 1) pa_nil)))) (pss_one (ps_ret (pe_lst pa_nil))) pss_nil)
      (pss_cons (ps_set (i := 2) sc_moves.nd rfl (Or.inl rfl) (pe_lst pa_nil))
      (pss_cons (ps_for PassesOwn.never rfl (pi_list (pe_fld (pv 0) rfl)) (pg_name (i := 3) sc_moves.nd rfl (Or.inl rfl)) (pss_one (ps_if (pt_val (pe_call (ok_is_of T) (hr.mono (by decide)) rfl T.g_is_of T.F_is_of.kp (b_is_of T) .nil pass0 (pa_cons (pe_ix ix_list (pe_fld (pv 1) rfl) (pv 3) (fun _ _ => rfl)) (pa_cons (pe_fld (pv 1) rfl) pa_nil)))) (pss_one (ps_for PassesOwn.never rfl (pi_list (pe_callB cr_sortedI (by rfl) T.m_sorted (by decide +kernel) (pa_cons (pe_call (ok_reach T) (hr.mono (by decide)) rfl T.g_reach T.F_reach.kp (b_reach T) .nil pass0 (pa_cons (pv 0) (pa_cons (pe_fld (pv 1) rfl) (pa_cons (pv 3) pa_nil)))) pa_nil))) (pg_name (i := 4) sc_moves.nd rfl (Or.inl rfl)) (pss_one (ps_expr (pe_bm PySem.F.plainAttrs_list PySem.F.slot_list_append PySem.F.type_list_append mt_append (pv 2) (pa_cons (pe_tup (pa_cons (pv 3) (pa_cons (pv 4) pa_nil))) pa_nil)))))) pss_nil)))
      (pss_one (ps_ret (pv 2)))))), ?_⟩)
  · obtain ⟨h, dxh, ru, r, q, dx, pb, p, rfl, _⟩ := h
    rfl
  · obtain ⟨h, dxh, ru, r, q, dx, pb, p, rfl, X, F, Y, G, k⟩ := h
    rw [moves_eq G] at k
    refine ⟨_, rfl, _, rfl, h, dxh, ru, r, q, dx, pb, p, rfl, X, Y, G, _, rfl, ?_⟩
    refine ifB (fun h1 => ?_) fun h1 => ?_
    · rw [if_pos (of_decide_eq_true h1)] at k
      exact ⟨Nat.zero_le _, fun D nD => k _ D [] (Same.upd nD) nD upd_same .nil (Nat.zero_le _)⟩
    · rw [if_neg (of_decide_eq_false h1)] at k
      have bat : ∀ {n}, n < 169 → (iv (boardL p))[n]? = some (.int (pIx (p.on n))) := fun hn => iv_at (board_at hn)
      generalize hmv : (fun c => if ofB p.side (p.on c) = true then mvL ru p c else []) = mv at k
      have mvT : ∀ c, ofB p.side (p.on c) = true → mv c = mvL ru p c := fun c hc => by rw [← hmv]; exact if_pos hc
      have mvF : ∀ c, ofB p.side (p.on c) = false → mv c = [] := fun c hc => by rw [← hmv]; exact if_neg (by rw [hc]; exact Bool.false_ne_true)
      refine ⟨Nat.zero_le _, fun D nD => ?_⟩
      have s1 : Same H (L2.upd H D (.lst [])) := Same.upd nD
      have X1 := X.same s1
      refine ⟨_, rfl, h, _, dxh, _, _, rfl, X1.ins, T.cl_Hall, T.na_Hall_cells, rfl, r.pc, rfl, ⟨_, SqL.of X1.c⟩, ?_⟩
      refine for_list (K := K) (a := r.pc) (xs := iv (cellsL ru)) (fun i σ H2 => ∃ (cv fv : Option V) (us : List V), σ = [some (.ref h), some (.ref q), some (.ref D), cv, fv] ∧ Same H H2 ∧ H2 D = some (.lst us) ∧ All2 (TpI H2) us (((cellsL ru).take i).flatMap mv) ∧ us.length ≤ 52 * i) ⟨none, none, [], rfl, s1, upd_same, .nil, Nat.zero_le _⟩ ?_ ?_ ?_
      · rintro i σ H2 _ ⟨cv, fv, us, rfl, s2, _⟩
        exact SqL.of (X.same s2).c
      · rintro i x σ H2 hx ⟨cv, fv, us, rfl, s2, hD, TU, hlen⟩
        obtain ⟨c, hc, rfl⟩ := iv_get hx
        obtain ⟨c169, con⟩ := cells_mem (List.mem_of_getElem? hc)
        have hi : i < 169 := by
          have y := (List.getElem?_eq_some_iff.mp hc).1
          have z := cells_len ru
          omega
        have X2 := X.same s2
        have Y2 := Y.same s2
        have fl : ((cellsL ru).take (i + 1)).flatMap mv = ((cellsL ru).take i).flatMap mv ++ mv c := by
          rw [List.take_add_one, hc, List.flatMap_append]
          simp
        refine ⟨_, rfl, q, _, dx, _, _, rfl, Y2.ins, T.cl_Position, T.na_Position_board, rfl, _, rfl, pb, _, _, _, rfl, rfl, SqL.of Y2.b, atI_nat (bat c169), _, rfl, q, _, dx, _, _, rfl, Y2.ins, T.cl_Position, T.na_Position_turn, rfl, p.on c, p.side, rfl, _, rfl, ?_⟩
        refine ifB (fun h2 => ?_) fun h2 => ?_
        · refine ⟨_, rfl, _, rfl, q, _, dx, _, _, rfl, Y2.ins, T.cl_Position, T.na_Position_board, rfl, _, rfl, h, dxh, ru, r, pb, p, c, rfl, X2, F, Y2.b, c169, con, fun H3 D3 s3 n3 h3 => ?_⟩
          refine ⟨D3, (ru.reach p c).map fun c => ((c : Nat) : Int), rfl, SqL.of (by rw [ints_iv]; exact h3), fun ns ps hperm hsort nps => ?_⟩
          have es : ns.map V.int = iv (srt (ru.reach p c)) := by
            rw [sort_eq (reach_nodup F con) (fun x hx => (reach_mem F con hx).2.1) hperm hsort, ints_iv]
            rfl
          rw [es]
          generalize hH4 : L2.upd H3 ps _ = H4
          have s4 : Same H2 H4 := by rw [← hH4]; exact s3.trans (Same.upd nps)
          have hps : H4 ps = some (.lst (iv (srt (ru.reach p c)))) := by rw [← hH4]; exact upd_same
          have nDp : ps ≠ D := fun e => by rw [e, s3 _ _ hD] at nps; cases nps
          clear hH4
          have fl2 := mvT c h2
          refine ⟨ps, rfl, ⟨_, SqL.of hps⟩, ?_⟩
          refine for_list (K := K) (a := ps) (xs := iv (srt (ru.reach p c))) (fun j σ H5 => ∃ (fv : Option V) (us' : List V), σ = [some (.ref h), some (.ref q), some (.ref D), some (.int c), fv] ∧ But D H4 H5 ∧ H5 D = some (.lst us') ∧ All2 (TpI H5) us' (((cellsL ru).take i).flatMap mv ++ ((srt (ru.reach p c)).take j).map fun t => (c, t)) ∧ us'.length ≤ 52 * i + j) ⟨fv, us, rfl, But.refl, s4 _ _ hD, ?_, by omega⟩ ?_ ?_ ?_
          · rw [List.take_zero, List.map_nil, List.append_nil]
            exact TU.mono fun _ _ => TpI.mono s4
          · rintro j σ H5 _ ⟨fv, us', rfl, b5, _⟩
            exact SqL.of (b5 _ _ hps nDp)
          · rintro j x σ H5 hx ⟨fv, us', rfl, b5, hD5, TU5, hlen5⟩
            obtain ⟨t, ht, rfl⟩ := iv_get hx
            have hj : j < 52 := by
              have y := (List.getElem?_eq_some_iff.mp ht).1
              have z := srt_len F (p := p) con
              omega
            refine ⟨_, rfl, tyL hD5, _, rfl, _, rfl, (by show 2 ≤ sizeLine; decide), fun tp ntp => ?_⟩
            have nDt := ne_of_none hD5 ntp
            have hD6 : (L2.upd H5 tp (.tup [.int c, .int t])) D = some (.lst us') := by rw [upd_ne nDt]; exact hD5
            refine ⟨D, us', _, rfl, rfl, hD6, ?_, ?_⟩
            · have y3 : (10000 : Nat) < sizeLine := by decide
              omega
            · refine ⟨_, us' ++ [.ref tp], rfl, ?_, upd_same, ?_, ?_⟩
              · exact (b5.same (Same.upd ntp)).trans But.upd
              · rw [List.take_add_one, ht, List.map_append, ← List.append_assoc]
                refine ((TU5.mono fun _ _ => TpI.mono (Same.upd ntp)).mono fun _ _ => TpI.but hD6 But.upd).app (.one ⟨tp, rfl, ?_⟩)
                rw [upd_ne (Ne.symm nDt), upd_same]
              · rw [List.length_append]
                show us'.length + 1 ≤ _
                omega
          · rintro σ H5 ⟨fv, us', rfl, b5, hD5, TU5, hlen5⟩
            rw [iv_len, List.take_length] at *
            refine ⟨_, _, us', rfl, fun a o ho => ?_, hD5, ?_, ?_⟩
            · exact b5 a o (s4 a o (s2 a o ho)) (ne_of_none ho nD)
            · rw [fl, fl2]
              exact TU5
            · have z := srt_len F (p := p) con
              omega
        · refine ⟨_, _, us, rfl, s2, hD, ?_, by omega⟩
          rw [fl, mvF c h2, List.append_nil]
          exact TU
      · rintro σ H2 ⟨cv, fv, us, rfl, s2, hD, TU, hlen⟩
        rw [iv_len, List.take_length] at *
        refine ⟨_, rfl, k H2 D us s2 nD hD TU ?_⟩
        have z := cells_len ru
        rw [← TU.len]
        omega
/-! ### whether there is one -/
def canB (ru : Tafl.Rules) (p : Tafl.Pos) : Bool := (cellsL ru).any fun c => ofB p.side (p.on c) && decide (0 < (ru.reach p c).length)
def spCan (K : PySem.W.Frag) : Sp := fun vs H Q _ => ∃ (h dxh : Addr) (ru : Tafl.Rules) (r : HR) (q dx pb : Addr) (p : Tafl.Pos), vs = [.ref h, .ref q] ∧ HallAt K H h dxh ru r ∧ Fine ru ∧ PosAt K H q dx pb p ∧
  ∀ H', Same H H' → Q (.bl (canB ru p)) H'
theorem ok_can_move (T : Txt K mg) : FnOk P w K mg base CX0 2 (a_can_move K) T.fd_can_move p_can_move (spCan K) := by
  refine T.F_can_move.ok sc_can_move (fun vs H Q E h => ?_) (fun cdv A outer s H vs Q E hr h => ⟨_, PSs.nox (pss_cons (ps_for PassesOwn.never rfl (pi_list (pe_fld (pv 0) rfl)) (pg_name (i := 2) sc_can_move.nd rfl (Or.inl rfl)) (pss_one (ps_if (PW.pt (pw_and (pt_val (pe_call (ok_is_of T) (hr.mono (by decide)) rfl T.g_is_of T.F_is_of.kp (b_is_of T) .nil pass0 (pa_cons (pe_ix ix_list (pe_fld (pv 1) rfl) (pv 2) (fun _ _ => rfl)) (pa_cons (pe_fld (pv 1) rfl) pa_nil)))) (pw_and1 (pt_cmpR op_gt (pe_callB call_len_seq (by rfl) T.m_len (by decide +kernel) (pa_cons (pe_call (ok_reach T) (hr.mono (by decide)) rfl T.g_reach T.F_reach.kp (b_reach T) .nil pass0 (pa_cons (pv 0) (pa_cons (pe_fld (pv 1) rfl) (pa_cons (pv 2) pa_nil)))) pa_nil)) pe_int (nomark _))))) (pss_one (ps_ret pe_bl)) pss_nil)))
      (pss_one (ps_ret pe_bl))), ?_⟩)
  · obtain ⟨h, dxh, ru, r, q, dx, pb, p, rfl, _⟩ := h
    rfl
  · obtain ⟨h, dxh, ru, r, q, dx, pb, p, rfl, X, F, Y, k⟩ := h
    have bat : ∀ {n}, n < 169 → (iv (boardL p))[n]? = some (.int (pIx (p.on n))) := fun hn => iv_at (board_at hn)
    refine ⟨_, rfl, h, _, dxh, _, _, rfl, X.ins, T.cl_Hall, T.na_Hall_cells, rfl, r.pc, rfl, ⟨_, SqL.of X.c⟩, ?_⟩
    refine for_list (K := K) (a := r.pc) (xs := iv (cellsL ru)) (fun i σ H2 => ∃ cv : Option V, σ = [some (.ref h), some (.ref q), cv] ∧ Same H H2 ∧ ∀ c ∈ (cellsL ru).take i, (ofB p.side (p.on c) && decide (0 < (ru.reach p c).length)) = false) ⟨none, rfl, Same.refl _, fun c hc => by rw [List.take_zero] at hc; cases hc⟩ ?_ ?_ ?_
    · rintro i σ H2 _ ⟨cv, rfl, s2, _⟩
      exact SqL.of (X.same s2).c
    · rintro i x σ H2 hx ⟨cv, rfl, s2, hn⟩
      obtain ⟨c, hc, rfl⟩ := iv_get hx
      have hm := List.mem_of_getElem? hc
      obtain ⟨c169, con⟩ := cells_mem hm
      have X2 := X.same s2
      have Y2 := Y.same s2
      refine ⟨_, rfl, q, _, dx, _, _, rfl, Y2.ins, T.cl_Position, T.na_Position_board, rfl, _, rfl, pb, _, _, _, rfl, rfl, SqL.of Y2.b, atI_nat (bat c169), _, rfl, q, _, dx, _, _, rfl, Y2.ins, T.cl_Position, T.na_Position_turn, rfl, p.on c, p.side, rfl, _, rfl, ?_⟩
      refine ifB (fun h2 => ?_) fun h2 => ?_
      · refine ⟨_, rfl, _, rfl, q, _, dx, _, _, rfl, Y2.ins, T.cl_Position, T.na_Position_board, rfl, _, rfl, h, dxh, ru, r, pb, p, c, rfl, X2, F, Y2.b, c169, con, fun H3 D3 s3 n3 h3 => ?_⟩
        refine ⟨D3, _, rfl, .inl (SqL.of h3), _, _, rfl, rfl, _, rfl, ?_⟩
        refine ifB (fun h4 => ?_) fun h4 => ?_
        · have y : ((iv (ru.reach p c)).length : Int) > 0 := of_decide_eq_true h4
          rw [iv_len] at y
          have e : canB ru p = true := by
            unfold canB
            rw [List.any_eq_true]
            exact ⟨c, hm, by rw [h2, decide_eq_true (by omega)]; rfl⟩
          have k' := k H3 (s2.trans s3)
          rw [e] at k'
          exact k'
        · have y : ¬ ((iv (ru.reach p c)).length : Int) > 0 := of_decide_eq_false h4
          rw [iv_len] at y
          exact ⟨_, rfl, s2.trans s3, take_all hn hc (by rw [decide_eq_false (by omega), Bool.and_false])⟩
      · exact ifF rfl ⟨_, rfl, s2, take_all hn hc (by rw [h2, Bool.false_and])⟩
    · rintro σ H2 ⟨cv, rfl, s2, hn⟩
      rw [iv_len, List.take_length] at hn
      have e : canB ru p = false := by
        unfold canB
        rw [List.any_eq_false]
        intro c hc y
        rw [hn c hc] at y
        cases y
      have k' := k H2 s2
      rw [e] at k'
      exact k'
theorem can_eq {ru : Tafl.Rules} (F : Fine ru) {p : Tafl.Pos} (G : Good ru p) (h : ru.ended p = 0) : (ru.moves p = []) ↔ canB ru p = false := by
  rw [moves_eq G, if_neg (by omega), List.flatMap_eq_nil_iff]
  unfold canB
  rw [List.any_eq_false]
  refine forall_congr' fun c => forall_congr' fun hc => ?_
  obtain ⟨c169, con⟩ := cells_mem hc
  cases hb : ofB p.side (p.on c) with
  | false =>
    rw [if_neg Bool.false_ne_true]
    simp
  | true =>
    rw [if_pos rfl, Bool.true_and]
    unfold mvL
    rw [List.map_eq_nil_iff]
    constructor
    · intro e y
      have hl : 0 < (ru.reach p c).length := of_decide_eq_true y
      have hm : (ru.reach p c)[0] ∈ srt (ru.reach p c) := by
        unfold srt
        rw [List.mem_filter, List.mem_range, List.contains_iff_mem]
        have h0 := List.getElem_mem hl
        exact ⟨by have := (reach_mem F con h0).2.1; omega, h0⟩
      rw [e] at hm
      cases hm
    · intro y
      have hl : ¬ 0 < (ru.reach p c).length := fun z => y (decide_eq_true z)
      have e : ru.reach p c = [] := List.length_eq_zero_iff.mp (by omega)
      rw [e]
      unfold srt
      rw [List.filter_eq_nil_iff]
      intro t _ ht
      cases ht
def spOver (K : PySem.W.Frag) : Sp := fun vs H Q _ => ∃ (h dxh : Addr) (ru : Tafl.Rules) (r : HR) (q dx pb : Addr) (p : Tafl.Pos), vs = [.ref h, .ref q] ∧ HallAt K H h dxh ru r ∧ Fine ru ∧ PosAt K H q dx pb p ∧ Good ru p ∧
  ∀ H', Same H H' → Q (.int (ru.over p)) H'
theorem ok_over (T : Txt K mg) : FnOk P w K mg base CX0 3 (a_over K) T.fd_over p_over (spOver K) := by
  refine T.F_over.ok sc_over (fun vs H Q E h => ?_) (fun cdv A outer s H vs Q E hr h => ⟨_, PSs.nox (pss_cons (ps_if (pt_cmpR op_eq (pe_fld (pv 1) rfl) (pe_glob (v := .int 169) rfl T.c_NOWHERE ⟨_, rfl⟩) (nomark _)) (pss_one (ps_ret (pe_glob (v := .int 1) rfl T.c_KING_TAKEN ⟨_, rfl⟩))) pss_nil)
      (pss_cons (ps_if (pt_val (pe_ix ix_list (pe_fld (pv 0) rfl) (pe_fld (pv 1) rfl) (fun _ _ => rfl))) (pss_one (ps_ret (pe_glob (v := .int 2) rfl T.c_KING_AT_GOAL ⟨_, rfl⟩))) pss_nil)
      (pss_cons (ps_if (pt_not (pt_val (pe_call (ok_can_move T) (hr.mono (by decide)) rfl T.g_can_move T.F_can_move.kp (b_can_move T) .nil pass0 (pa_cons (pv 0) (pa_cons (pv 1) pa_nil))))) (pss_one (ps_ret (pe_glob (v := .int 3) rfl T.c_NO_MOVE ⟨_, rfl⟩))) pss_nil)
      (pss_one (ps_ret (pe_glob (v := .int 0) rfl T.c_GOING_ON ⟨_, rfl⟩)))))), ?_⟩)
  · obtain ⟨h, dxh, ru, r, q, dx, pb, p, rfl, _⟩ := h
    rfl
  · obtain ⟨h, dxh, ru, r, q, dx, pb, p, rfl, X, F, Y, G, k⟩ := h
    have k0 := k H (Same.refl H)
    unfold Tafl.Rules.over at k k0
    refine ⟨_, rfl, q, _, dx, _, _, rfl, Y.ins, T.cl_Position, T.na_Position_king, rfl, rfl, _, rfl, ?_⟩
    rw [king_nowhere G]
    refine ifB (fun h1 => ?_) fun h1 => ?_
    · have e : ru.ended p = 1 := by
        unfold Tafl.Rules.ended Tafl.TAKEN
        rw [if_pos (beq_iff_eq.mp h1)]
      rw [e] at k0
      exact k0
    obtain ⟨k1, k2, k3⟩ := king_at G h1
    have e : ((goaL ru).map V.bl)[kingN p]? = some (.bl (ru.onGoal p.king)) := by rw [k1]; exact goal_at k2 k3
    refine ⟨_, rfl, h, _, dxh, _, _, rfl, X.ins, T.cl_Hall, T.na_Hall_goals, rfl, _, rfl, q, _, dx, _, _, rfl, Y.ins, T.cl_Position, T.na_Position_king, rfl, r.po, _, _, _, rfl, rfl, SqL.of X.o, atI_nat e, _, rfl, ?_⟩
    refine ifB (fun h2 => ?_) fun h2 => ?_
    · have e : ru.ended p = 2 := by
        unfold Tafl.Rules.ended Tafl.TAKEN
        rw [if_neg (beq_eq_false_iff_ne.mp h1), if_pos h2]
      rw [e] at k0
      exact k0
    have e0 : ru.ended p = 0 := by
      unfold Tafl.Rules.ended Tafl.TAKEN
      rw [if_neg (beq_eq_false_iff_ne.mp h1), if_neg (by rw [h2]; exact Bool.false_ne_true)]
    refine ⟨_, rfl, _, rfl, h, dxh, ru, r, q, dx, pb, p, rfl, X, F, Y, fun H2 s2 => ⟨_, rfl, ?_⟩⟩
    have k2 := k H2 s2
    rw [e0, if_neg (by decide)] at k2
    refine ifB (fun h3 => ?_) fun h3 => ?_
    · rw [if_pos ((can_eq F G e0).mpr (by simpa using h3))] at k2
      exact k2
    · rw [if_neg (fun y => by rw [(can_eq F G e0).mp y] at h3; cases h3)] at k2
      exact k2
end
end Tf
set_option Elab.async false
set_option linter.all false
set_option maxRecDepth 100000
set_option maxHeartbeats 4000000
/-! Taking. -/
namespace Tf
open TfM
open Tafl (Piece Kind Rules Pos)
/-! ### neighbours and those behind -/
def nbs (ru : Rules) (c : Nat) (ds : List Nat) : List (Nat × Nat) := ds.filterMap fun d => (ru.next d c).map fun n => (d, n)
def prD (ru : Rules) (c d : Nat) : Option (Nat × Nat) := (ru.next d c).bind fun n => (ru.next d n).map fun b => (n, b)
def prs (ru : Rules) (c : Nat) : List (Nat × Nat) := [0, 1, 2, 3].filterMap (prD ru c)
theorem bes_eq {ru : Rules} (F : Fine ru) {c : Nat} (hc : onG ru c = true) : besL ru c = (ru.neighbours c).map fun m => m.2 := by
  have key : ∀ ds : List Nat, (∀ d ∈ ds, d < 4) → ((ds.map (rayN ru c)).filter fun l => decide (0 < l.length)).map (fun l => l.getD 0 0) = (nbs ru c ds).map fun m => m.2 := fun ds => by
    induction ds with
    | nil => exact fun _ => rfl
    | cons d ds ih =>
      intro h
      have hd := h d List.mem_cons_self
      have ih := ih fun e he => h e (List.mem_cons_of_mem _ he)
      unfold nbs at ih ⊢
      rw [List.map_cons, List.filter_cons, List.filterMap_cons, rayN_eq]
      cases hn : ru.next d c with
      | none =>
        rw [ray_none F.sh hd hc hn, if_neg (by decide)]
        exact ih
      | some n =>
        rw [ray_some F.sh hd hc hn, if_pos (by simp), List.map_cons, ih]
        rfl
  exact key [0, 1, 2, 3] (by decide)
theorem par_eq {ru : Rules} (F : Fine ru) {c : Nat} (hc : onG ru c = true) : parL ru c = prs ru c := by
  have key : ∀ ds : List Nat, (∀ d ∈ ds, d < 4) → ((ds.map (rayN ru c)).filter fun l => decide (1 < l.length)).map (fun l => (l.getD 0 0, l.getD 1 0)) = ds.filterMap (prD ru c) := fun ds => by
    induction ds with
    | nil => exact fun _ => rfl
    | cons d ds ih =>
      intro h
      have hd := h d List.mem_cons_self
      have ih := ih fun e he => h e (List.mem_cons_of_mem _ he)
      rw [List.map_cons, List.filter_cons, List.filterMap_cons, rayN_eq]
      unfold prD at ih ⊢
      cases hn : ru.next d c with
      | none =>
        rw [ray_none F.sh hd hc hn, if_neg (by decide)]
        exact ih
      | some n =>
        have ho := (next_some F.sh hd hc hn).1
        rw [ray_some F.sh hd hc hn, Option.bind_some]
        cases hb : ru.next d n with
        | none =>
          rw [ray_none F.sh hd ho hb, if_neg (by simp)]
          exact ih
        | some b =>
          rw [ray_some F.sh hd ho hb, if_pos (by simp), List.map_cons, ih]
          rfl
  exact key [0, 1, 2, 3] (by decide)
theorem prs_mem {ru : Rules} {c : Nat} {x : Nat × Nat} : x ∈ prs ru c ↔ ∃ d, d < 4 ∧ ru.next d c = some x.1 ∧ ru.next d x.1 = some x.2 := by
  unfold prs prD
  rw [List.mem_filterMap]
  constructor
  · rintro ⟨d, hd, h⟩
    obtain ⟨n, h1, h2⟩ := Option.bind_eq_some_iff.mp h
    obtain ⟨b, h3, rfl⟩ := Option.map_eq_some_iff.mp h2
    refine ⟨d, ?_, h1, h3⟩
    simp only [List.mem_cons, List.not_mem_nil, or_false] at hd
    omega
  · rintro ⟨d, hd, h1, h2⟩
    refine ⟨d, ?_, ?_⟩
    · simp only [List.mem_cons, List.not_mem_nil, or_false]
      omega
    · rw [h1, Option.bind_some, h2]
      rfl
theorem nbs_mem {ru : Rules} {c : Nat} {x : Nat × Nat} : x ∈ ru.neighbours c ↔ x.1 < 4 ∧ ru.next x.1 c = some x.2 := by
  unfold Tafl.Rules.neighbours Tafl.WAYS
  rw [List.mem_filterMap]
  constructor
  · rintro ⟨d, hd, h⟩
    obtain ⟨n, h1, rfl⟩ := Option.map_eq_some_iff.mp h
    refine ⟨?_, h1⟩
    simp only [List.mem_cons, List.not_mem_nil, or_false] at hd
    show d < 4
    omega
  · rintro ⟨hd, h1⟩
    refine ⟨x.1, ?_, by rw [h1]; rfl⟩
    simp only [List.mem_cons, List.not_mem_nil, or_false]
    omega
theorem prs_in {ru : Rules} (F : Fine ru) {c : Nat} (hc : onG ru c = true) {x : Nat × Nat} (h : x ∈ prs ru c) : (onG ru x.1 = true ∧ x.1 < 169) ∧ onG ru x.2 = true ∧ x.2 < 169 := by
  obtain ⟨d, hd, h1, h2⟩ := prs_mem.mp h
  obtain ⟨a1, a2, _⟩ := next_some F.sh hd hc h1
  obtain ⟨b1, b2, _⟩ := next_some F.sh hd a1 h2
  exact ⟨⟨a1, a2⟩, b1, b2⟩
theorem prs_nodup {ru : Rules} (F : Fine ru) {c : Nat} (hc : onG ru c = true) : ((prs ru c).map fun x => x.1).Nodup := by
  unfold List.Nodup
  rw [List.pairwise_map]
  unfold prs
  rw [List.pairwise_filterMap]
  have key : ∀ d e, d < 4 → e < 4 → d ≠ e → ∀ x, prD ru c d = some x → ∀ y, prD ru c e = some y → x.1 ≠ y.1 := fun d e hd he hde x hx y hy exy => by
    unfold prD at hx hy
    obtain ⟨n, h1, h2⟩ := Option.bind_eq_some_iff.mp hx
    obtain ⟨b, h3, rfl⟩ := Option.map_eq_some_iff.mp h2
    obtain ⟨m, h4, h5⟩ := Option.bind_eq_some_iff.mp hy
    obtain ⟨b', h6, rfl⟩ := Option.map_eq_some_iff.mp h5
    have exy : n = m := exy
    subst exy
    refine ray_apart F.sh (f := 13) (c := c) (n := n) hd he hde ?_ ?_
    · rw [ray_some F.sh hd hc h1]
      exact List.mem_cons_self
    · rw [ray_some F.sh he hc h4]
      exact List.mem_cons_self
  refine .cons (fun e he => ?_) (.cons (fun e he => ?_) (.cons (fun e he => ?_) (.cons (fun e he => ?_) .nil)))
  · simp only [List.mem_cons, List.not_mem_nil, or_false] at he
    exact key 0 e (by omega) (by omega) (by omega)
  · simp only [List.mem_cons, List.not_mem_nil, or_false] at he
    exact key 1 e (by omega) (by omega) (by omega)
  · simp only [List.mem_cons, List.not_mem_nil, or_false] at he
    exact key 2 e (by omega) (by omega) (by omega)
  · cases he
theorem prs_len (ru : Rules) (c : Nat) : (prs ru c).length ≤ 4 := by
  unfold prs
  exact List.length_filterMap_le _ _
/-! ### who is taken -/
def cloM (ru : Rules) (q : Pos) (c : Nat) : Bool := q.on c == .hunter || ru.against q true c
def cloH (ru : Rules) (q : Pos) (c : Nat) : Bool := ru.helps false (q.on c) || ru.against q false c
def surB (ru : Rules) (q : Pos) (k : Nat) : Bool := (ru.neighbours k).length == 4 && (ru.neighbours k).all fun m => cloM ru q m.2
def hitH (ru : Rules) (q : Pos) (x : Nat × Nat) : Bool := if (q.on x.1 == .king && ru.four) = true then surB ru q x.1 else (ofB 1 (q.on x.1) && cloM ru q x.2)
def hitK (ru : Rules) (q : Pos) (x : Nat × Nat) : Bool := q.on x.1 == .hunter && cloH ru q x.2
def tkH (ru : Rules) (q : Pos) (t : Nat) : List Nat := ((prs ru t).filter (hitH ru q)).map fun x => x.1
def tkK (ru : Rules) (q : Pos) (t : Nat) : List Nat := if (q.on t == .king && !ru.armed) = true then [] else ((prs ru t).filter (hitK ru q)).map fun x => x.1
theorem tkH_nodup {ru : Rules} (F : Fine ru) {q : Pos} {t : Nat} (ht : onG ru t = true) : (tkH ru q t).Nodup ∧ ∀ x ∈ tkH ru q t, x < 169 := by
  unfold tkH
  refine ⟨List.Pairwise.sublist (List.Sublist.map _ List.filter_sublist) (prs_nodup F ht), fun x hx => ?_⟩
  obtain ⟨y, hy, rfl⟩ := List.mem_map.mp hx
  exact (prs_in F ht (List.mem_filter.mp hy).1).1.2
theorem tkK_nodup {ru : Rules} (F : Fine ru) {q : Pos} {t : Nat} (ht : onG ru t = true) : (tkK ru q t).Nodup ∧ ∀ x ∈ tkK ru q t, x < 169 := by
  unfold tkK
  split
  · exact ⟨List.nodup_nil, fun x hx => by cases hx⟩
  · refine ⟨List.Pairwise.sublist (List.Sublist.map _ List.filter_sublist) (prs_nodup F ht), fun x hx => ?_⟩
    obtain ⟨y, hy, rfl⟩ := List.mem_map.mp hx
    exact (prs_in F ht (List.mem_filter.mp hy).1).1.2
theorem men_mem {ru : Rules} {q : Pos} {b : Bool} {t n : Nat} (h : ¬ (b = false ∧ q.king = t ∧ ru.armed = false)) : n ∈ ru.menTaken q b t ↔ ∃ x ∈ prs ru t, x.1 = n ∧ (q.on n == (if b = true then Piece.man else .hunter)) = true ∧ (ru.helps b (q.on x.2) = true ∨ ru.against q b x.2 = true) := by
  unfold Tafl.Rules.menTaken
  rw [if_neg h, List.mem_filterMap]
  constructor
  · rintro ⟨x, hx, e⟩
    obtain ⟨hd, hn⟩ := nbs_mem.mp hx
    by_cases h1 : (q.on x.2 == (if b = true then Piece.man else .hunter)) = true
    · rw [if_pos h1] at e
      cases hb : ru.next x.1 x.2 with
      | none =>
        rw [hb] at e
        cases e
      | some c =>
        rw [hb] at e
        dsimp only at e
        by_cases h2 : ru.helps b (q.on c) = true ∨ ru.against q b c = true
        · rw [if_pos h2] at e
          have e := Option.some.inj e
          subst e
          exact ⟨(x.2, c), prs_mem.mpr ⟨x.1, hd, hn, hb⟩, rfl, h1, h2⟩
        · rw [if_neg h2] at e
          cases e
    · rw [if_neg h1] at e
      cases e
  · rintro ⟨x, hx, rfl, h1, h2⟩
    obtain ⟨d, hd, e1, e2⟩ := prs_mem.mp hx
    refine ⟨(d, x.1), nbs_mem.mpr ⟨hd, e1⟩, ?_⟩
    dsimp only
    rw [if_pos h1, e2]
    dsimp only
    rw [if_pos h2]
theorem full4 {ru : Rules} {k : Nat} (h : (ru.neighbours k).length = 4) : ∀ d, d < 4 → ∃ b, ru.next d k = some b := by
  unfold Tafl.Rules.neighbours Tafl.WAYS at h
  simp only [List.filterMap_cons, List.filterMap_nil] at h
  intro d hd
  cases h0 : ru.next 0 k <;> cases h1 : ru.next 1 k <;> cases h2 : ru.next 2 k <;> cases h3 : ru.next 3 k <;> rw [h0, h1, h2, h3] at h <;> simp at h
  rcases four hd with rfl | rfl | rfl | rfl
  · exact ⟨_, h0⟩
  · exact ⟨_, h1⟩
  · exact ⟨_, h2⟩
  · exact ⟨_, h3⟩
theorem takesH {ru : Rules} (F : Fine ru) {q : Pos} {t c : Nat} (ht : onG ru t = true) : ((tkH ru q t).contains c) = ((ru.menTaken q true t).contains c || (ru.kingTaken q t && c == q.king)) := by
  rw [Bool.eq_iff_iff, List.contains_iff_mem, Bool.or_eq_true, List.contains_iff_mem, Bool.and_eq_true, beq_iff_eq, men_mem (by rintro ⟨h, _⟩; cases h)]
  unfold tkH
  rw [List.mem_map]
  have kt : ru.kingTaken q t = true ↔ ∃ d n, d < 4 ∧ ru.next d t = some n ∧ n = q.king ∧ (if ru.four = true then surB ru q q.king = true else ∃ b, ru.next d n = some b ∧ cloM ru q b = true) := by
    unfold Tafl.Rules.kingTaken
    rw [List.any_eq_true]
    constructor
    · rintro ⟨x, hx, h⟩
      obtain ⟨hd, hn⟩ := nbs_mem.mp hx
      rw [Bool.and_eq_true, beq_iff_eq] at h
      refine ⟨x.1, x.2, hd, hn, h.1, ?_⟩
      by_cases hf : ru.four = true
      · rw [if_pos hf]
        have h2 := h.2
        rw [if_pos hf] at h2
        exact h2
      · rw [if_neg hf]
        have h2 := h.2
        rw [if_neg hf] at h2
        cases hb : ru.next x.1 x.2 with
        | none =>
          rw [hb] at h2
          cases h2
        | some b =>
          rw [hb] at h2
          exact ⟨b, rfl, h2⟩
    · rintro ⟨d, n, hd, hn, hk, h⟩
      refine ⟨(d, n), nbs_mem.mpr ⟨hd, hn⟩, ?_⟩
      rw [Bool.and_eq_true, beq_iff_eq]
      refine ⟨hk, ?_⟩
      by_cases hf : ru.four = true
      · rw [if_pos hf]
        rw [if_pos hf] at h
        exact h
      · rw [if_neg hf]
        rw [if_neg hf] at h
        obtain ⟨b, hb, hc⟩ := h
        dsimp only
        rw [hb]
        exact hc
  constructor
  · rintro ⟨x, hx, rfl⟩
    obtain ⟨hx, hh⟩ := List.mem_filter.mp hx
    obtain ⟨d, hd, e1, e2⟩ := prs_mem.mp hx
    unfold hitH at hh
    by_cases hk : (q.on x.1 == Piece.king) = true
    · have hkk : q.king = x.1 := beq_iff_eq.mp (on_king.symm.trans hk)
      refine .inr ⟨kt.mpr ⟨d, x.1, hd, e1, hkk.symm, ?_⟩, hkk.symm⟩
      by_cases hf : ru.four = true
      · rw [if_pos hf]
        rw [hk, hf, if_pos (show (true && true) = true from rfl)] at hh
        rw [hkk]
        exact hh
      · rw [if_neg hf]
        rw [if_neg (by rw [hk, Bool.true_and]; exact hf), Bool.and_eq_true] at hh
        exact ⟨x.2, e2, hh.2⟩
    · rw [if_neg (by rw [Bool.and_eq_true]; exact fun y => hk y.1), Bool.and_eq_true] at hh
      refine .inl ⟨x, hx, rfl, ?_, ?_⟩
      · have h1 := hh.1
        unfold ofB at h1
        rw [if_neg (by decide), Bool.or_eq_true] at h1
        exact h1.resolve_right hk
      · have h2 := hh.2
        unfold cloM at h2
        exact Bool.or_eq_true_iff.mp h2
  · rintro (⟨x, hx, rfl, h1, h2⟩ | ⟨hk, rfl⟩)
    · refine ⟨x, List.mem_filter.mpr ⟨hx, ?_⟩, rfl⟩
      have h1 : q.on x.1 = .man := beq_iff_eq.mp h1
      unfold hitH
      rw [h1, if_neg (by rw [show (Piece.man == Piece.king) = false from rfl, Bool.false_and]; exact Bool.false_ne_true), show ofB 1 Piece.man = true from rfl, Bool.true_and]
      unfold cloM
      rcases h2 with h2 | h2
      · have h2 : (q.on x.2 == Piece.hunter) = true := h2
        rw [h2, Bool.true_or]
      · rw [h2, Bool.or_true]
    · obtain ⟨d, n, hd, hn, rfl, h⟩ := kt.mp hk
      have onk : (q.on q.king == Piece.king) = true := on_king.trans (beq_iff_eq.mpr rfl)
      by_cases hf : ru.four = true
      · rw [if_pos hf] at h
        have h4 : (ru.neighbours q.king).length = 4 := by
          unfold surB at h
          exact beq_iff_eq.mp (Bool.and_eq_true_iff.mp h).1
        obtain ⟨b, hb⟩ := full4 h4 d hd
        refine ⟨(q.king, b), List.mem_filter.mpr ⟨prs_mem.mpr ⟨d, hd, hn, hb⟩, ?_⟩, rfl⟩
        unfold hitH
        dsimp only
        rw [onk, hf, if_pos (show (true && true) = true from rfl)]
        exact h
      · rw [if_neg hf] at h
        obtain ⟨b, hb, hc⟩ := h
        refine ⟨(q.king, b), List.mem_filter.mpr ⟨prs_mem.mpr ⟨d, hd, hn, hb⟩, ?_⟩, rfl⟩
        unfold hitH
        dsimp only
        rw [if_neg (by rw [onk, Bool.true_and]; exact hf), hc, Bool.and_true]
        unfold ofB
        rw [if_neg (by decide), onk, Bool.or_true]
theorem takesK {ru : Rules} {q : Pos} {t c : Nat} : ((tkK ru q t).contains c) = (ru.menTaken q false t).contains c := by
  rw [Bool.eq_iff_iff, List.contains_iff_mem, List.contains_iff_mem]
  unfold tkK
  by_cases h : (q.on t == .king && !ru.armed) = true
  · rw [if_pos h]
    rw [Bool.and_eq_true, on_king, beq_iff_eq] at h
    unfold Tafl.Rules.menTaken
    rw [if_pos ⟨rfl, h.1, by simpa using h.2⟩]
  · rw [if_neg h, men_mem (fun y => h (by rw [on_king, y.2.1, y.2.2]; simp)), List.mem_map]
    constructor
    · rintro ⟨x, hx, rfl⟩
      obtain ⟨hx, hh⟩ := List.mem_filter.mp hx
      unfold hitK cloH at hh
      rw [Bool.and_eq_true, Bool.or_eq_true] at hh
      exact ⟨x, hx, rfl, hh.1, hh.2⟩
    · rintro ⟨x, hx, rfl, h1, h2⟩
      refine ⟨x, List.mem_filter.mpr ⟨hx, ?_⟩, rfl⟩
      unfold hitK cloH
      rw [Bool.and_eq_true, Bool.or_eq_true]
      exact ⟨h1, h2⟩
theorem takes_eq {ru : Rules} (F : Fine ru) {p : Pos} {m : Nat × Nat} (hm : onG ru m.2 = true) : ru.takes p m = srt (if p.side = 0 then tkH ru (p.shifted m) m.2 else tkK ru (p.shifted m) m.2) := by
  unfold Tafl.Rules.takes srt Tafl.GONE
  refine List.filter_congr fun c _ => ?_
  by_cases hs : p.side = 0
  · rw [if_pos hs, takesH F hm, hs]
    rfl
  · rw [if_neg hs, takesK, beq_eq_false_iff_ne.mpr hs]
    simp
/-! ### a move -/
structure Legal (ru : Rules) (p : Pos) (m : Nat × Nat) : Prop where
  own : ofB p.side (p.on m.1) = true
  b169 : m.1 < 169
  bon : onG ru m.1 = true
  e169 : m.2 < 169
  eon : onG ru m.2 = true
  emp : p.on m.2 = .none
theorem moves_mem {ru : Rules} (F : Fine ru) {p : Pos} (G : Good ru p) {m : Nat × Nat} (h : m ∈ ru.moves p) : Legal ru p m := by
  rw [moves_eq G] at h
  split at h
  · cases h
  · obtain ⟨c, hc, hm⟩ := List.mem_flatMap.mp h
    obtain ⟨c169, con⟩ := cells_mem hc
    split at hm
    · rename_i ho
      unfold mvL at hm
      obtain ⟨t, ht, rfl⟩ := List.mem_map.mp hm
      unfold srt at ht
      rw [List.mem_filter, List.contains_iff_mem] at ht
      obtain ⟨a, b, e⟩ := reach_mem F con ht.2
      exact ⟨ho, c169, con, b, a, e⟩
    · cases hm
theorem Legal.ne {ru : Rules} {p : Pos} {m : Nat × Nat} (L : Legal ru p m) : m.1 ≠ m.2 := fun e => by
  have h := L.own
  rw [e, L.emp] at h
  unfold ofB at h
  split at h <;> cases h
theorem shift_bits {ru : Rules} {p : Pos} (G : Good ru p) {m : Nat × Nat} (L : Legal ru p m) :
    (∀ c, (p.shifted m).hunters.testBit c = if p.on m.1 = .hunter then (c == m.2 || (p.hunters.testBit c && c != m.1)) else p.hunters.testBit c) ∧
    (∀ c, (p.shifted m).men.testBit c = if p.on m.1 = .man then (c == m.2 || (p.men.testBit c && c != m.1)) else p.men.testBit c) ∧
    ((p.shifted m).king = if p.on m.1 = .king then m.2 else p.king) ∧ (p.shifted m).side = 1 - p.side := by
  have bits : ∀ (n : Nat), (∀ c, n.testBit c = true → c < 169) → ∀ c, (Tafl.setFrom (m.2 :: (Tafl.cellsIn n).filter fun (c : Nat) => c != m.1)).testBit c = (c == m.2 || (n.testBit c && c != m.1)) := fun n hn c => by
    rw [set_bit, List.contains_cons, Bool.eq_iff_iff, Bool.or_eq_true, Bool.or_eq_true, List.contains_iff_mem, List.mem_filter, mem_cellsIn, Bool.and_eq_true]
    constructor
    · rintro (h | ⟨⟨_, h1⟩, h2⟩)
      · exact .inl h
      · exact .inr ⟨h1, h2⟩
    · rintro (h | ⟨h1, h2⟩)
      · exact .inl h
      · exact .inr ⟨⟨by have := hn c h1; omega, h1⟩, h2⟩
  have ownk : (p.on m.1 == Piece.king) = (p.king == m.1) := on_king
  unfold Tafl.Pos.shifted
  by_cases hk : p.king = m.1
  · have e : p.on m.1 = .king := beq_iff_eq.mp (ownk.trans (beq_iff_eq.mpr hk))
    rw [if_pos hk, e]
    exact ⟨fun c => rfl, fun c => rfl, rfl, rfl⟩
  · have e : ¬ p.on m.1 = .king := fun y => hk (beq_iff_eq.mp (ownk.symm.trans (beq_iff_eq.mpr y)))
    rw [if_neg hk]
    have ho := L.own
    unfold ofB at ho
    by_cases hs : p.side = 0
    · rw [if_pos hs] at ho
      have e2 : p.on m.1 = .hunter := beq_iff_eq.mp ho
      rw [if_pos hs, e2]
      exact ⟨fun c => by rw [if_pos rfl]; exact bits _ (fun c h => (G.ho c h).1) c, fun c => rfl, rfl, by rw [hs]⟩
    · rw [if_neg hs] at ho
      have e2 : p.on m.1 = .man := by
        rcases Bool.or_eq_true_iff.mp ho with h | h
        · exact beq_iff_eq.mp h
        · exact absurd (beq_iff_eq.mp h) e
      rw [if_neg hs, e2]
      have := G.sd
      exact ⟨fun c => rfl, fun c => by rw [if_pos rfl]; exact bits _ (fun c h => (G.mo c h).1) c, rfl, by show 0 = 1 - p.side; omega⟩
theorem shift_on {ru : Rules} {p : Pos} (G : Good ru p) {m : Nat × Nat} (L : Legal ru p m) {c : Nat} (hc : c < 169) : (p.shifted m).on c = if c = m.2 then p.on m.1 else if c = m.1 then .none else p.on c := by
  obtain ⟨bh, bm, bk, _⟩ := shift_bits G L
  have ne := L.ne
  have h0 : p.hunters.testBit m.2 = false := by
    rw [← on_hunter G, L.emp]
    rfl
  have m0 : p.men.testBit m.2 = false := by
    rw [← on_man G, L.emp]
    rfl
  have k0 : ¬ p.king = m.2 := fun e => by
    have y := on_king (p := p) (c := m.2)
    rw [L.emp, beq_iff_eq.mpr e] at y
    cases y
  have hn : p.on m.1 ≠ .none := fun e => by
    have h := L.own
    rw [e] at h
    unfold ofB at h
    split at h <;> cases h
  have o1 := on_hunter G (c := m.1)
  have o2 := on_man G (c := m.1)
  have o3 := on_king (p := p) (c := m.1)
  have e : (p.shifted m).on c = if (p.shifted m).king = c then .king else if (p.shifted m).hunters.testBit c = true then .hunter else if (p.shifted m).men.testBit c = true then .man else .none := rfl
  have e2 : p.on c = if p.king = c then .king else if p.hunters.testBit c = true then .hunter else if p.men.testBit c = true then .man else .none := rfl
  rw [e, bh, bm, bk]
  cases hx : p.on m.1 with
  | none => exact absurd hx hn
  | king =>
    rw [hx] at o1 o2 o3
    have h1 : p.king = m.1 := beq_iff_eq.mp o3.symm
    have o1 : p.hunters.testBit m.1 = false := o1.symm
    have o2 : p.men.testBit m.1 = false := o2.symm
    simp only [reduceCtorEq, if_true, if_false]
    by_cases e1 : c = m.2
    · rw [if_pos e1.symm, if_pos e1]
    · rw [if_neg (Ne.symm e1), if_neg e1]
      by_cases e3 : c = m.1
      · rw [if_pos e3, e3, o1, o2]
        rfl
      · rw [if_neg e3, e2, if_neg (show ¬ p.king = c from fun y => e3 (y.symm.trans h1))]
  | hunter =>
    rw [hx] at o1 o2 o3
    have h1 : ¬ p.king = m.1 := beq_eq_false_iff_ne.mp o3.symm
    have o1 : p.hunters.testBit m.1 = true := o1.symm
    have o2 : p.men.testBit m.1 = false := o2.symm
    simp only [reduceCtorEq, if_true, if_false]
    by_cases e1 : c = m.2
    · rw [if_pos e1, if_neg (by rw [e1]; exact k0), e1, beq_self_eq_true, Bool.true_or, if_pos rfl]
    · rw [if_neg e1, beq_eq_false_iff_ne.mpr e1, Bool.false_or]
      by_cases e3 : c = m.1
      · rw [if_pos e3, e3, if_neg h1, o2, o1]
        simp
      · rw [if_neg e3, show (c != m.1) = true by simpa using e3, Bool.and_true, e2]
  | man =>
    rw [hx] at o1 o2 o3
    have h1 : ¬ p.king = m.1 := beq_eq_false_iff_ne.mp o3.symm
    have o1 : p.hunters.testBit m.1 = false := o1.symm
    have o2 : p.men.testBit m.1 = true := o2.symm
    simp only [reduceCtorEq, if_true, if_false]
    by_cases e1 : c = m.2
    · rw [if_pos e1, if_neg (by rw [e1]; exact k0), e1, h0, if_neg Bool.false_ne_true, beq_self_eq_true, Bool.true_or, if_pos rfl]
    · rw [if_neg e1, beq_eq_false_iff_ne.mpr e1, Bool.false_or]
      by_cases e3 : c = m.1
      · rw [if_pos e3, e3, if_neg h1, o2, o1]
        simp
      · rw [if_neg e3, show (c != m.1) = true by simpa using e3, Bool.and_true, e2]
theorem shift_good {ru : Rules} {p : Pos} (G : Good ru p) {m : Nat × Nat} (L : Legal ru p m) : Good ru (p.shifted m) := by
  obtain ⟨bh, bm, bk, bs⟩ := shift_bits G L
  have h0 : p.hunters.testBit m.2 = false := by
    rw [← on_hunter G, L.emp]
    rfl
  have m0 : p.men.testBit m.2 = false := by
    rw [← on_man G, L.emp]
    rfl
  have k0 : ¬ p.king = m.2 := fun e => by
    have y := on_king (p := p) (c := m.2)
    rw [L.emp, beq_iff_eq.mpr e] at y
    cases y
  have kne : ∀ {c}, c = m.2 → ¬ p.king = c := fun e => by rw [e]; exact k0
  refine ⟨?_, ?_, ?_, fun c h => ?_, fun c h => ?_, fun c h => ?_, ?_⟩
  · rw [bk]
    split
    · exact .inr ⟨L.e169, L.eon⟩
    · exact G.kg
  · rw [bh, bk]
    cases hx : p.on m.1 with
    | king =>
      rw [if_neg (by intro y; cases y), if_pos rfl]
      exact h0
    | hunter =>
      rw [if_pos rfl, if_neg (by intro y; cases y), beq_eq_false_iff_ne.mpr k0, G.hk]
      rfl
    | man =>
      rw [if_neg (by intro y; cases y), if_neg (by intro y; cases y)]
      exact G.hk
    | none =>
      rw [if_neg (by intro y; cases y), if_neg (by intro y; cases y)]
      exact G.hk
  · rw [bm, bk]
    cases hx : p.on m.1 with
    | king =>
      rw [if_neg (by intro y; cases y), if_pos rfl]
      exact m0
    | man =>
      rw [if_pos rfl, if_neg (by intro y; cases y), beq_eq_false_iff_ne.mpr k0, G.mn]
      rfl
    | hunter =>
      rw [if_neg (by intro y; cases y), if_neg (by intro y; cases y)]
      exact G.mn
    | none =>
      rw [if_neg (by intro y; cases y), if_neg (by intro y; cases y)]
      exact G.mn
  · rw [bh] at h
    rw [bm]
    cases hx : p.on m.1 with
    | hunter =>
      rw [hx, if_pos rfl] at h
      rw [if_neg (by intro y; cases y)]
      rcases Bool.or_eq_true_iff.mp h with h | h
      · rw [beq_iff_eq.mp h]
        exact m0
      · exact G.hm c (Bool.and_eq_true_iff.mp h).1
    | man =>
      rw [hx, if_neg (by intro y; cases y)] at h
      rw [if_pos rfl, G.hm c h, Bool.false_and, Bool.or_false, beq_eq_false_iff_ne]
      intro e
      rw [e, h0] at h
      cases h
    | king =>
      rw [hx, if_neg (by intro y; cases y)] at h
      rw [if_neg (by intro y; cases y)]
      exact G.hm c h
    | none =>
      rw [hx, if_neg (by intro y; cases y)] at h
      rw [if_neg (by intro y; cases y)]
      exact G.hm c h
  · rw [bh] at h
    split at h
    · rcases Bool.or_eq_true_iff.mp h with h | h
      · rw [beq_iff_eq.mp h]
        exact ⟨L.e169, L.eon⟩
      · exact G.ho c (Bool.and_eq_true_iff.mp h).1
    · exact G.ho c h
  · rw [bm] at h
    split at h
    · rcases Bool.or_eq_true_iff.mp h with h | h
      · rw [beq_iff_eq.mp h]
        exact ⟨L.e169, L.eon⟩
      · exact G.mo c (Bool.and_eq_true_iff.mp h).1
    · exact G.mo c h
  · rw [bs]
    omega
/-- .. and what it takes is gone -/
theorem comes_bits {ru : Rules} {p : Pos} (G : Good ru p) {m : Nat × Nat} (L : Legal ru p m) :
    (∀ c, (ru.comes p m).hunters.testBit c = ((p.shifted m).hunters.testBit c && !(ru.takes p m).contains c)) ∧ (∀ c, (ru.comes p m).men.testBit c = ((p.shifted m).men.testBit c && !(ru.takes p m).contains c)) ∧
    ((ru.comes p m).king = if (ru.takes p m).contains (p.shifted m).king = true then 255 else (p.shifted m).king) ∧ (ru.comes p m).side = 1 - p.side := by
  have Gq := shift_good G L
  have bits : ∀ (n : Nat), (∀ c, n.testBit c = true → c < 169) → ∀ c, (Tafl.setFrom ((Tafl.cellsIn n).filter fun (c : Nat) => !(ru.takes p m).contains c)).testBit c = (n.testBit c && !(ru.takes p m).contains c) := fun n hn c => by
    rw [set_bit, Bool.eq_iff_iff, List.contains_iff_mem, List.mem_filter, mem_cellsIn, Bool.and_eq_true]
    constructor
    · rintro ⟨⟨_, h1⟩, h2⟩
      exact ⟨h1, h2⟩
    · rintro ⟨h1, h2⟩
      exact ⟨⟨by have := hn c h1; omega, h1⟩, h2⟩
  exact ⟨bits _ fun c h => (Gq.ho c h).1, bits _ fun c h => (Gq.mo c h).1, rfl, (shift_bits G L).2.2.2⟩
theorem comes_on {ru : Rules} {p : Pos} (G : Good ru p) {m : Nat × Nat} (L : Legal ru p m) {c : Nat} (hc : c < 169) : (ru.comes p m).on c = if (ru.takes p m).contains c = true then .none else (p.shifted m).on c := by
  obtain ⟨bh, bm, bk, _⟩ := comes_bits G L
  have Gq := shift_good G L
  unfold Tafl.Pos.on
  rw [bh, bm, bk]
  cases ht : (ru.takes p m).contains c with
  | true =>
    rw [if_pos rfl, Bool.not_true, Bool.and_false, Bool.and_false, if_neg, if_neg Bool.false_ne_true, if_neg Bool.false_ne_true]
    intro e
    split at e
    · omega
    · rename_i hn
      rw [e] at hn
      exact hn ht
  | false =>
    rw [if_neg Bool.false_ne_true, Bool.not_false, Bool.and_true, Bool.and_true]
    by_cases hk : (p.shifted m).king = c
    · rw [if_pos hk, if_pos]
      rw [hk, ht, if_neg Bool.false_ne_true]
    · rw [if_neg hk, if_neg]
      intro e
      split at e
      · omega
      · exact hk e
theorem comes_good {ru : Rules} {p : Pos} (G : Good ru p) {m : Nat × Nat} (L : Legal ru p m) : Good ru (ru.comes p m) := by
  obtain ⟨bh, bm, bk, bs⟩ := comes_bits G L
  have Gq := shift_good G L
  have out : ∀ n : Nat, (∀ c, n.testBit c = true → c < 169) → n.testBit 255 = false := fun n hn => by
    rw [← Bool.not_eq_true]
    intro h
    have := hn _ h
    omega
  refine ⟨?_, ?_, ?_, fun c h => ?_, fun c h => ?_, fun c h => ?_, ?_⟩
  · rw [bk]
    split
    · exact .inl rfl
    · exact Gq.kg
  · rw [bh, bk]
    split
    · rw [out _ fun c h => (Gq.ho c h).1]
      rfl
    · rw [Gq.hk]
      rfl
  · rw [bm, bk]
    split
    · rw [out _ fun c h => (Gq.mo c h).1]
      rfl
    · rw [Gq.mn]
      rfl
  · rw [bh] at h
    rw [bm, Gq.hm c (Bool.and_eq_true_iff.mp h).1]
    rfl
  · rw [bh] at h
    exact Gq.ho c (Bool.and_eq_true_iff.mp h).1
  · rw [bm] at h
    exact Gq.mo c (Bool.and_eq_true_iff.mp h).1
  · rw [bs]
    omega
end Tf
set_option Elab.async false
set_option linter.all false
set_option maxRecDepth 100000
set_option maxHeartbeats 8000000
/-! Taking: the defs. -/
namespace Tf
open PySem PySem.Spec PyProof.Rows L2 TfX TfM
section
variable {P : Program} {w : World} {K : PySem.W.Frag} {mg : Str → Option Value} {base : Heap}
structure HB (K : PySem.W.Frag) (H : Hp) (h dxh : Addr) (ru : Tafl.Rules) (r : HR) (pb : Addr) (q : Tafl.Pos) : Prop where
  x : HallAt K H h dxh ru r
  f : Fine ru
  b : H pb = some (.lst (iv (boardL q)))
theorem HB.same {H H' : Hp} {h dxh : Addr} {ru : Tafl.Rules} {r : HR} {pb : Addr} {q : Tafl.Pos} (B : HB K H h dxh ru r pb q) (s : Same H H') : HB K H' h dxh ru r pb q := ⟨B.x.same s, B.f, s _ _ B.b⟩
theorem bat {q : Tafl.Pos} {n : Nat} (hn : n < 169) : (iv (boardL q))[n]? = some (.int (pIx (q.on n))) := iv_at (board_at hn)
theorem gat {ru : Tafl.Rules} {c : Nat} (hc : c < 169) (ho : onG ru c = true) : (iv (glist ru))[c]? = some (.int (kIx (ru.kindAt c))) := by
  rw [← kind_eq hc ho]
  exact iv_at (gAt_eq hc)
theorem eat {ru : Tafl.Rules} {c : Nat} (hc : c < 169) (ho : onG ru c = true) : (iv (enmL ru))[c]? = some (.int (enmN ru (kIx (ru.kindAt c)))) := by
  refine iv_at ?_
  unfold enmL
  rw [List.getElem?_map, gAt_eq hc, kind_eq hc ho]
  rfl
theorem isP {x : Tafl.Piece} (y : Tafl.Piece) {n : Nat} (h : n = pIx y) : decide (V.int (pIx x : Nat) = V.int (n : Nat)) = (x == y) := by
  subst h
  exact nat_dec.trans pIx_inj
theorem isK {x : Tafl.Kind} (y : Tafl.Kind) {n : Nat} (h : n = kIx y) : decide (V.int (kIx x : Nat) = V.int (n : Nat)) = (x == y) := by
  subst h
  exact nat_dec.trans kIx_inj
theorem is1 {b : Bool} : decide (V.int (b2n b) = V.int 1) = b := by cases b <;> rfl
theorem is0 {b : Bool} : decide (V.int (b2n b) = V.int 0) = !b := by cases b <;> rfl
theorem hate {e : Nat} (h : e < 4) (men : Bool) : (!decide (V.int (Builtin.bitAnd (e : Nat) (if men = true then 2 else 1)) = V.int 0)) = Tafl.hates e men := by
  rcases four h with rfl | rfl | rfl | rfl <;> cases men <;> rfl
def spAgainst (K : PySem.W.Frag) : Sp := fun vs H Q _ => ∃ (h dxh : Addr) (ru : Tafl.Rules) (r : HR) (pb : Addr) (q : Tafl.Pos) (c : Nat) (men : Bool), vs = [.ref h, .ref pb, .int c, .int (if men = true then 2 else 1)] ∧ HB K H h dxh ru r pb q ∧ c < 169 ∧ onG ru c = true ∧ Q (.bl (ru.against q men c)) H
theorem ok_against (T : Txt K mg) : FnOk P w K mg base CX0 1 (a_against K) T.fd_against p_against (spAgainst K) := by
  refine T.F_against.ok sc_against (fun vs H Q E h => ?_) (fun cdv A outer s H vs Q E hr h => ⟨_, PSs.nox (pss_cons (ps_if (PW.pt (pw_and (pt_cmpR op_eq (pe_ix ix_list (pe_fld (pv 0) rfl) (pv 2) (fun _ _ => rfl)) (pe_glob (v := .int 1) rfl T.c_SEAT ⟨_, rfl⟩) (nomark _)) (pw_and1 (pt_cmpR op_ne (pe_ix ix_list (pv 1) (pv 2) (fun _ _ => rfl)) (pe_glob (v := .int 0) rfl T.c_NOBODY ⟨_, rfl⟩) (nomark _))))) (pss_one (ps_ret pe_bl)) pss_nil)
      (pss_one (ps_ret (pe_cmpR op_ne (pe_op op_and (pe_ix ix_list (pe_fld (pv 0) rfl) (pv 2) (fun _ _ => rfl)) (pv 3)) pe_int (nomark _))))), ?_⟩)
  · obtain ⟨h, dxh, ru, r, pb, q, c, men, rfl, _⟩ := h
    rfl
  · obtain ⟨h, dxh, ru, r, pb, q, c, men, rfl, B, c169, con, k⟩ := h
    have X := B.x
    unfold Tafl.Rules.against at k
    refine ifS_of (ru.kindAt c == .seat && !emp q c) (fun Q' q' => ?_) (fun hc => ?_) fun hc => ?_
    · refine ⟨_, rfl, h, _, dxh, _, _, rfl, X.ins, T.cl_Hall, T.na_Hall_ground, rfl, _, rfl, r.pg, _, _, _, rfl, rfl, SqL.of X.g, atI_nat (gat c169 con), rfl, _, rfl, ?_⟩
      rw [show decide (V.int (kIx (ru.kindAt c) : Nat) = V.int 1) = (ru.kindAt c == .seat) from isK .seat rfl]
      refine ifB (fun h1 => ?_) fun h1 => ?_
      · rw [h1, Bool.true_and] at q'
        refine ⟨_, rfl, _, rfl, pb, _, _, _, rfl, rfl, SqL.of B.b, atI_nat (bat c169), rfl, _, rfl, ?_⟩
        rw [emp_ix]
        exact q'
      · rw [h1, Bool.false_and] at q'
        exact q'
    · obtain ⟨h1, h2⟩ := Bool.and_eq_true_iff.mp hc
      have h1 : ru.kindAt c = .seat := beq_iff_eq.mp h1
      have h2 : (q.on c == .none) = false := by simpa [emp] using h2
      rw [h1] at k
      dsimp only at k
      rw [h2, Bool.false_and] at k
      exact k
    · refine ⟨_, rfl, h, _, dxh, _, _, rfl, X.ins, T.cl_Hall, T.na_Hall_enmity, rfl, _, rfl, r.pe, _, _, _, rfl, rfl, SqL.of X.e, atI_nat (eat c169 con), _, rfl, _, _, rfl, rfl, rfl, ?_⟩
      have e4 : enmN ru (kIx (ru.kindAt c)) < 4 := by
        unfold enmN
        split
        · exact B.f.sh.seat
        · split
          · exact B.f.sh.exits
          · decide
      have hh := hate e4 men
      show Q (.bl (!decide (V.int (Builtin.bitAnd (enmN ru (kIx (ru.kindAt c)) : Nat) (if men = true then 2 else 1)) = V.int 0))) H
      rw [hh]
      cases hk : ru.kindAt c with
      | plain =>
        rw [hk] at k
        have e : Tafl.hates (enmN ru (kIx .plain)) men = false := by cases men <;> rfl
        rw [e]
        exact k
      | wall =>
        rw [hk] at k
        have e : Tafl.hates (enmN ru (kIx .wall)) men = false := by cases men <;> rfl
        rw [e]
        exact k
      | exit =>
        rw [hk] at k
        exact k
      | seat =>
        rw [hk] at k hc
        dsimp only at k
        have h2 : (q.on c == .none) = true := by
          have y : emp q c = true := by simpa using hc
          exact y
        rw [h2, Bool.true_and] at k
        exact k
def spCloH (K : PySem.W.Frag) : Sp := fun vs H Q _ => ∃ (h dxh : Addr) (ru : Tafl.Rules) (r : HR) (pb : Addr) (q : Tafl.Pos) (c : Nat), vs = [.ref h, .ref pb, .int c] ∧ HB K H h dxh ru r pb q ∧ c < 169 ∧ onG ru c = true ∧ Q (.bl (cloH ru q c)) H
theorem ok_closes_on_hunter (T : Txt K mg) : FnOk P w K mg base CX0 2 (a_closes_on_hunter K) T.fd_closes_on_hunter p_closes_on_hunter (spCloH K) := by
  refine T.F_closes_on_hunter.ok sc_closes_on_hunter (fun vs H Q E h => ?_) (fun cdv A outer s H vs Q E hr h => ⟨_, PSs.nox (pss_cons (ps_if (PW.pt (pw_or (pt_cmpR op_eq (pe_ix ix_list (pv 1) (pv 2) (fun _ _ => rfl)) (pe_glob (v := .int 2) rfl T.c_MAN ⟨_, rfl⟩) (nomark _)) (pw_or1 (PW.pt (pw_and (pt_cmpR op_eq (pe_ix ix_list (pv 1) (pv 2) (fun _ _ => rfl)) (pe_glob (v := .int 3) rfl T.c_KING ⟨_, rfl⟩) (nomark _)) (pw_and1 (pt_cmpR op_eq (pe_fld (pv 0) rfl) pe_int (nomark _)))))))) (pss_one (ps_ret pe_bl)) pss_nil)
      (pss_one (ps_ret (pe_call (ok_against T) (hr.mono (by decide)) rfl T.g_against T.F_against.kp (b_against T) .nil pass0 (pa_cons (pv 0) (pa_cons (pv 1) (pa_cons (pv 2) (pa_cons (pe_glob (v := .int 1) rfl T.c_HUNTER ⟨_, rfl⟩) pa_nil)))))))), ?_⟩)
  · obtain ⟨h, dxh, ru, r, pb, q, c, rfl, _⟩ := h
    rfl
  · obtain ⟨h, dxh, ru, r, pb, q, c, rfl, B, c169, con, k⟩ := h
    have X := B.x
    unfold cloH at k
    refine ifS_of (ru.helps false (q.on c)) (fun Q' q' => ?_) (fun hc => ?_) fun hc => ?_
    · unfold Tafl.Rules.helps at q'
      rw [if_neg Bool.false_ne_true] at q'
      refine ⟨_, rfl, _, rfl, pb, _, _, _, rfl, rfl, SqL.of B.b, atI_nat (bat c169), rfl, _, rfl, ?_⟩
      rw [show decide (V.int (pIx (q.on c) : Nat) = V.int 2) = (q.on c == .man) from isP .man rfl]
      refine ifB (fun h1 => ?_) fun h1 => ?_
      · rw [h1, Bool.true_or] at q'
        exact q'
      · rw [h1, Bool.false_or] at q'
        refine ⟨_, rfl, _, rfl, pb, _, _, _, rfl, rfl, SqL.of B.b, atI_nat (bat c169), rfl, _, rfl, ?_⟩
        rw [show decide (V.int (pIx (q.on c) : Nat) = V.int 3) = (q.on c == .king) from isP .king rfl]
        refine ifB (fun h2 => ?_) fun h2 => ?_
        · rw [h2, Bool.true_and] at q'
          refine ⟨_, rfl, h, _, dxh, _, _, rfl, X.ins, T.cl_Hall, T.na_Hall_armed, rfl, rfl, _, rfl, ?_⟩
          rw [is1]
          exact q'
        · rw [h2, Bool.false_and] at q'
          exact q'
    · rw [hc, Bool.true_or] at k
      exact k
    · rw [hc, Bool.false_or] at k
      exact ⟨_, rfl, _, rfl, _, rfl, h, dxh, ru, r, pb, q, c, false, rfl, B, c169, con, k⟩
def spCloM (K : PySem.W.Frag) : Sp := fun vs H Q _ => ∃ (h dxh : Addr) (ru : Tafl.Rules) (r : HR) (pb : Addr) (q : Tafl.Pos) (c : Nat), vs = [.ref h, .ref pb, .int c] ∧ HB K H h dxh ru r pb q ∧ c < 169 ∧ onG ru c = true ∧ Q (.bl (cloM ru q c)) H
theorem ok_closes_on_man (T : Txt K mg) : FnOk P w K mg base CX0 2 (a_closes_on_man K) T.fd_closes_on_man p_closes_on_man (spCloM K) := by
  refine T.F_closes_on_man.ok sc_closes_on_man (fun vs H Q E h => ?_) (fun cdv A outer s H vs Q E hr h => ⟨_, PSs.nox (pss_one (ps_ret (pe_or (pe_cmpR op_eq (pe_ix ix_list (pv 1) (pv 2) (fun _ _ => rfl)) (pe_glob (v := .int 1) rfl T.c_HUNTER ⟨_, rfl⟩) (nomark _)) (pe_one (pe_call (ok_against T) (hr.mono (by decide)) rfl T.g_against T.F_against.kp (b_against T) .nil pass0 (pa_cons (pv 0) (pa_cons (pv 1) (pa_cons (pv 2) (pa_cons (pe_glob (v := .int 2) rfl T.c_MAN ⟨_, rfl⟩) pa_nil))))))))), ?_⟩)
  · obtain ⟨h, dxh, ru, r, pb, q, c, rfl, _⟩ := h
    rfl
  · obtain ⟨h, dxh, ru, r, pb, q, c, rfl, B, c169, con, k⟩ := h
    unfold cloM at k
    refine ⟨_, rfl, _, rfl, pb, _, _, _, rfl, rfl, SqL.of B.b, atI_nat (bat c169), rfl, _, rfl, ?_⟩
    rw [show decide (V.int (pIx (q.on c) : Nat) = V.int 1) = (q.on c == .hunter) from isP .hunter rfl]
    refine ifB (fun h1 => ?_) fun h1 => ?_
    · rw [h1, Bool.true_or] at k
      exact k
    · rw [h1, Bool.false_or] at k
      exact ⟨_, rfl, _, rfl, _, rfl, h, dxh, ru, r, pb, q, c, true, rfl, B, c169, con, k⟩
theorem nbs_len (ru : Tafl.Rules) (c : Nat) : (ru.neighbours c).length ≤ 4 := by
  unfold Tafl.Rules.neighbours
  exact List.length_filterMap_le _ _
theorem bes_in {ru : Tafl.Rules} (F : Fine ru) {c : Nat} (hc : onG ru c = true) {n : Nat} (h : n ∈ besL ru c) : n < 169 ∧ onG ru n = true := by
  rw [bes_eq F hc] at h
  obtain ⟨m, hm, rfl⟩ := List.mem_map.mp h
  obtain ⟨hd, hn⟩ := nbs_mem.mp hm
  obtain ⟨a, b, _⟩ := next_some F.sh hd hc hn
  exact ⟨b, a⟩
def spSur (K : PySem.W.Frag) : Sp := fun vs H Q _ => ∃ (h dxh : Addr) (ru : Tafl.Rules) (r : HR) (pb : Addr) (q : Tafl.Pos) (c : Nat), vs = [.ref h, .ref pb, .int c] ∧ HB K H h dxh ru r pb q ∧ c < 169 ∧ onG ru c = true ∧ ∀ H', Same H H' → Q (.bl (surB ru q c)) H'
theorem ok_king_surrounded (T : Txt K mg) : FnOk P w K mg base CX0 3 (a_king_surrounded K) T.fd_king_surrounded p_king_surrounded (spSur K) := by
  refine T.F_king_surrounded.ok sc_king_surrounded (fun vs H Q E h => ?_) (fun cdv A outer s H vs Q E hr h => ⟨_, PSs.nox (pss_cons (ps_if (pt_cmpR op_lt (pe_callB call_len_seq (by rfl) T.m_len (by decide +kernel) (pa_cons (pe_ix ix_list (pe_fld (pv 0) rfl) (pv 2) (fun _ _ => rfl)) pa_nil)) pe_int (nomark _)) (pss_one (ps_ret pe_bl)) pss_nil)
      (pss_one (ps_ret (pe_callB (cr_all rfl) (by rfl) T.m_all (by decide +kernel) (pa_cons (pe_lc (own := [("cell", 3)]) (g := (gName 3)) rfl sc_king_surrounded.nd (pi_list (pe_ix ix_list (pe_fld (pv 0) rfl) (pv 2) (fun _ _ => rfl))) (blkOk_by (own := [("cell", 3)]) (N := n_king_surrounded) (sc := defScope s_king_surrounded) (by decide +kernel)) (fun _ _ _ _ _ => (pg_name (i := 3) sc_king_surrounded.nd rfl (Or.inl rfl))) (fun _ _ _ _ _ => pts_nil) (fun _ _ _ _ _ => (pe_call (ok_closes_on_man T) (hr.mono (by decide)) rfl T.g_closes_on_man T.F_closes_on_man.kp (b_closes_on_man T) .nil pass0 (pa_cons (pv 0) (pa_cons (pv 1) (pa_cons (pv 3) pa_nil)))))) pa_nil))))), ?_⟩)
  · obtain ⟨h, dxh, ru, r, pb, q, c, rfl, _⟩ := h
    rfl
  · obtain ⟨h, dxh, ru, r, pb, q, c, rfl, B, c169, con, k⟩ := h
    have X := B.x
    have be := bes_eq B.f con
    have bl : (besL ru c).length = (ru.neighbours c).length := by rw [be, List.length_map]
    obtain ⟨vs, hv, TV⟩ := X.b
    obtain ⟨v, hvc, a, rfl, ha⟩ := TV.by (i := c) (b := besL ru c) (by rw [List.getElem?_map, List.getElem?_range c169]; rfl)
    refine ifS_of (decide ((ru.neighbours c).length < 4)) (fun Q' q' => ?_) (fun hc => ?_) fun hc => ?_
    · refine ⟨_, rfl, h, _, dxh, _, _, rfl, X.ins, T.cl_Hall, T.na_Hall_beside, rfl, _, rfl, r.pb, _, _, _, rfl, rfl, SqL.of hv, atI_nat hvc, a, _, rfl, .inl (SqL.of ha), _, _, rfl, rfl, _, rfl, ?_⟩
      have e : decide (((iv (besL ru c)).length : Int) < 4) = decide ((ru.neighbours c).length < 4) := by
        rw [iv_len, bl, Bool.eq_iff_iff, decide_eq_true_eq, decide_eq_true_eq]
        omega
      rw [e]
      exact q'
    · have y := of_decide_eq_true hc
      have e : surB ru q c = false := by
        unfold surB
        rw [beq_eq_false_iff_ne.mpr (by omega)]
        rfl
      have k' := k H (Same.refl H)
      rw [e] at k'
      exact k'
    · have y := of_decide_eq_false hc
      have z := nbs_len ru c
      refine ⟨_, rfl, h, _, dxh, _, _, rfl, X.ins, T.cl_Hall, T.na_Hall_beside, rfl, _, rfl, r.pb, _, _, _, rfl, rfl, SqL.of hv, atI_nat hvc, a, rfl, ⟨_, SqL.of ha⟩, fun D nD => ?_⟩
      have sD : ∀ o, Same H (L2.upd H D o) := fun o => Same.upd nD
      refine lc_list (K := K) (a := a) (xs := iv (besL ru c)) (fun i H2 => H2 = L2.upd H D (.lst ((((besL ru c).take i).map (cloM ru q)).map V.bl))) rfl (fun i H2 _ e => by rw [e]; exact SqL.of (sD _ _ _ ha)) ?_ ?_
      · rintro i x H2 hx rfl
        obtain ⟨n, hn, rfl⟩ := iv_get hx
        obtain ⟨n1, n2⟩ := bes_in B.f con (List.mem_of_getElem? hn)
        refine ⟨rfl, _, rfl, _, rfl, _, rfl, h, dxh, ru, r, pb, q, n, rfl, B.same (sD _), n1, n2, _, upd_same, ?_, ?_⟩
        · rw [List.length_map, List.length_map, List.length_take]
          exact line1000 (by omega)
        · rw [upd_upd, List.take_add_one, hn, List.map_append, List.map_append]
          rfl
      · rintro H2 rfl
        rw [iv_len, List.take_length]
        refine ⟨D, (besL ru c).map (cloM ru q), rfl, SqL.of upd_same, ?_⟩
        have e : ((besL ru c).map (cloM ru q)).all id = surB ru q c := by
          unfold surB
          rw [beq_iff_eq.mpr (by omega), Bool.true_and, be, List.map_map, List.all_map]
          rfl
        rw [e]
        exact k _ (sD _)
/-! ### taken by hunters -/
theorem at_pairs {H : Hp} {h dxh : Addr} {ru : Tafl.Rules} {r : HR} (X : HallAt K H h dxh ru r) (F : Fine ru) {c : Nat} (c169 : c < 169) (con : onG ru c = true) : ∃ (vs : List V) (a : Addr) (us : List V), H r.pp = some (.lst vs) ∧ vs[c]? = some (.ref a) ∧ H a = some (.lst us) ∧ All2 (TpI H) us (prs ru c) := by
  obtain ⟨vs, hv, TV⟩ := X.p
  obtain ⟨v, hvc, a, us, rfl, ha, TU⟩ := TV.by (i := c) (b := parL ru c) (by rw [List.getElem?_map, List.getElem?_range c169]; rfl)
  rw [par_eq F con] at TU
  exact ⟨vs, a, us, hv, hvc, ha, TU⟩
def spTkH (K : PySem.W.Frag) : Sp := fun vs H Q _ => ∃ (h dxh : Addr) (ru : Tafl.Rules) (r : HR) (pb : Addr) (q : Tafl.Pos) (c : Nat), vs = [.ref h, .ref pb, .int c] ∧ HB K H h dxh ru r pb q ∧ c < 169 ∧ onG ru c = true ∧ ∀ H' D, Same H H' → H D = none → H' D = some (.lst (iv (tkH ru q c))) → Q (.ref D) H'
theorem ok_taken_by_hunter (T : Txt K mg) : FnOk P w K mg base CX0 4 (a_taken_by_hunter K) T.fd_taken_by_hunter p_taken_by_hunter (spTkH K) := by
  refine T.F_taken_by_hunter.ok sc_taken_by_hunter (fun vs H Q E h => ?_) (fun cdv A outer s H vs Q E hr h => ⟨_, PSs.nox (pss_cons (ps_set (i := 3) sc_taken_by_hunter.nd rfl (Or.inl rfl) (pe_lst pa_nil))
      (pss_cons (ps_for PassesOwn.never rfl (pi_list (pe_ix ix_list (pe_fld (pv 0) rfl) (pv 2) (fun _ _ => rfl))) (pg_tup rfl (pgs_cons (pg_name (i := 4) sc_taken_by_hunter.nd rfl (Or.inl rfl)) (pgs_cons (pg_name (i := 5) sc_taken_by_hunter.nd rfl (Or.inl rfl)) pgs_nil))) (pss_one (ps_if (PW.pt (pw_and (pt_cmpR op_eq (pe_ix ix_list (pv 1) (pv 4) (fun _ _ => rfl)) (pe_glob (v := .int 3) rfl T.c_KING ⟨_, rfl⟩) (nomark _)) (pw_and1 (pt_cmpR op_eq (pe_fld (pv 0) rfl) pe_int (nomark _))))) (pss_one (ps_if (pt_val (pe_call (ok_king_surrounded T) (hr.mono (by decide)) rfl T.g_king_surrounded T.F_king_surrounded.kp (b_king_surrounded T) .nil pass0 (pa_cons (pv 0) (pa_cons (pv 1) (pa_cons (pv 4) pa_nil))))) (pss_one (ps_expr (pe_bm PySem.F.plainAttrs_list PySem.F.slot_list_append PySem.F.type_list_append mt_append (pv 3) (pa_cons (pv 4) pa_nil)))) pss_nil)) (pss_one (ps_if (PW.pt (pw_and (pt_val (pe_call (ok_is_of T) (hr.mono (by decide)) rfl T.g_is_of T.F_is_of.kp (b_is_of T) .nil pass0 (pa_cons (pe_ix ix_list (pv 1) (pv 4) (fun _ _ => rfl)) (pa_cons (pe_glob (v := .int 1) rfl T.c_KINGS_TURN ⟨_, rfl⟩) pa_nil)))) (pw_and1 (pt_val (pe_call (ok_closes_on_man T) (hr.mono (by decide)) rfl T.g_closes_on_man T.F_closes_on_man.kp (b_closes_on_man T) .nil pass0 (pa_cons (pv 0) (pa_cons (pv 1) (pa_cons (pv 5) pa_nil)))))))) (pss_one (ps_expr (pe_bm PySem.F.plainAttrs_list PySem.F.slot_list_append PySem.F.type_list_append mt_append (pv 3) (pa_cons (pv 4) pa_nil)))) pss_nil)))))
      (pss_one (ps_ret (pv 3))))), ?_⟩)
  · obtain ⟨h, dxh, ru, r, pb, q, c, rfl, _⟩ := h
    rfl
  · obtain ⟨h, dxh, ru, r, pb, q, c, rfl, B, c169, con, k⟩ := h
    obtain ⟨vs, a, us, hv, hvc, ha, TU⟩ := at_pairs B.x B.f c169 con
    refine ⟨Nat.zero_le _, fun D nD => ?_⟩
    have s1 : Same H (L2.upd H D (.lst [])) := Same.upd nD
    have B1 := B.same s1
    have pl := prs_len ru c
    refine ⟨_, rfl, h, _, dxh, _, _, rfl, B1.x.ins, T.cl_Hall, T.na_Hall_pairs, rfl, _, rfl, r.pp, _, _, _, rfl, rfl, SqL.of (s1 _ _ hv), atI_nat hvc, a, rfl, ⟨_, SqL.of (s1 _ _ ha)⟩, ?_⟩
    refine for_list (K := K) (a := a) (xs := us) (fun i σ H2 => ∃ n1 n2 : Option V, σ = [some (.ref h), some (.ref pb), some (.int c), some (.ref D), n1, n2] ∧ Same H H2 ∧ H2 D = some (.lst (iv ((((prs ru c).take i).filter (hitH ru q)).map fun x => x.1)))) ⟨none, none, rfl, s1, upd_same⟩ ?_ ?_ ?_
    · rintro i σ H2 _ ⟨n1, n2, rfl, s2, _⟩
      exact SqL.of (s2 _ _ ha)
    · rintro i v σ H2 hx ⟨n1, n2, rfl, s2, hD⟩
      obtain ⟨x, hxp, tp, rfl, htp⟩ := TU.at hx
      obtain ⟨⟨o1, l1⟩, o2, l2⟩ := prs_in B.f con (List.mem_of_getElem? hxp)
      have B2 := B.same s2
      have tf := take_fm (p := hitH ru q) (f := fun x => x.1) hxp
      have len : ∀ {H3 : Hp}, (iv ((((prs ru c).take i).filter (hitH ru q)).map fun x => x.1)).length < sizeLine := fun {_} => by
        rw [iv_len, List.length_map]
        have y1 := List.length_filter_le (hitH ru q) ((prs ru c).take i)
        have y2 : ((prs ru c).take i).length ≤ 4 := by rw [List.length_take]; omega
        exact line1000 (by omega)
      have yes : hitH ru q x = true → ∀ H3, Same H2 H3 → ∃ n1 n2 : Option V, [some (V.ref h), some (V.ref pb), some (V.int c), some (V.ref D), some (V.int x.1), some (V.int x.2)] = [some (V.ref h), some (V.ref pb), some (V.int c), some (V.ref D), n1, n2] ∧ Same H (L2.upd H3 D (.lst (iv ((((prs ru c).take i).filter (hitH ru q)).map fun x => x.1) ++ [V.int x.1]))) ∧ (L2.upd H3 D (.lst (iv ((((prs ru c).take i).filter (hitH ru q)).map fun x => x.1) ++ [V.int x.1]))) D = some (.lst (iv ((((prs ru c).take (i + 1)).filter (hitH ru q)).map fun x => x.1))) := fun hh H3 s3 => by
        rw [if_pos hh] at tf
        refine ⟨_, _, rfl, fun a o ho => ?_, ?_⟩
        · rw [upd_ne (ne_of_none ho nD)]
          exact s3 _ _ (s2 _ _ ho)
        · rw [upd_same, iv_app1, tf]
      have no : hitH ru q x = false → ∀ H3, Same H2 H3 → ∃ n1 n2 : Option V, [some (V.ref h), some (V.ref pb), some (V.int c), some (V.ref D), some (V.int x.1), some (V.int x.2)] = [some (V.ref h), some (V.ref pb), some (V.int c), some (V.ref D), n1, n2] ∧ Same H H3 ∧ H3 D = some (.lst (iv ((((prs ru c).take (i + 1)).filter (hitH ru q)).map fun x => x.1))) := fun hh H3 s3 => by
        rw [if_neg (by rw [hh]; exact Bool.false_ne_true), List.append_nil] at tf
        refine ⟨_, _, rfl, s2.trans s3, ?_⟩
        rw [tf]
        exact s3 _ _ hD
      unfold hitH at yes no
      refine ⟨tp, _, rfl, SqT.of (s2 _ _ htp), rfl, _, _, rfl, _, _, rfl, rfl, ?_⟩
      refine ifS_of (q.on x.1 == .king && ru.four) (fun Q' q' => ?_) (fun hc => ?_) fun hc => ?_
      · refine ⟨_, rfl, _, rfl, pb, _, _, _, rfl, rfl, SqL.of B2.b, atI_nat (bat l1), rfl, _, rfl, ?_⟩
        rw [show decide (V.int (pIx (q.on x.1) : Nat) = V.int 3) = (q.on x.1 == .king) from isP .king rfl]
        refine ifB (fun h1 => ?_) fun h1 => ?_
        · rw [h1, Bool.true_and] at q'
          refine ⟨_, rfl, h, _, dxh, _, _, rfl, B2.x.ins, T.cl_Hall, T.na_Hall_four, rfl, rfl, _, rfl, ?_⟩
          rw [is1]
          exact q'
        · rw [h1, Bool.false_and] at q'
          exact q'
      · rw [if_pos hc] at yes no
        refine ⟨_, rfl, _, rfl, _, rfl, h, dxh, ru, r, pb, q, x.1, rfl, B2, l1, o1, fun H3 s3 => ⟨_, rfl, ?_⟩⟩
        refine ifB (fun h1 => ?_) fun h1 => ?_
        · exact ⟨_, rfl, tyL (s3 _ _ hD), _, rfl, D, _, _, rfl, rfl, s3 _ _ hD, len (H3 := H3), yes h1 H3 s3⟩
        · exact no h1 H3 s3
      · rw [if_neg (by rw [hc]; exact Bool.false_ne_true)] at yes no
        refine ifS_of (ofB 1 (q.on x.1) && cloM ru q x.2) (fun Q' q' => ?_) (fun h1 => ?_) fun h1 => ?_
        · refine ⟨_, rfl, _, rfl, pb, _, _, _, rfl, rfl, SqL.of B2.b, atI_nat (bat l1), q.on x.1, 1, rfl, _, rfl, ?_⟩
          refine ifB (fun h1 => ?_) fun h1 => ?_
          · rw [h1, Bool.true_and] at q'
            exact ⟨_, rfl, _, rfl, _, rfl, h, dxh, ru, r, pb, q, x.2, rfl, B2, l2, o2, _, rfl, q'⟩
          · rw [h1, Bool.false_and] at q'
            exact q'
        · exact ⟨_, rfl, tyL hD, _, rfl, D, _, _, rfl, rfl, hD, len (H3 := H2), yes h1 H2 (Same.refl H2)⟩
        · exact no h1 H2 (Same.refl H2)
    · rintro σ H2 ⟨n1, n2, rfl, s2, hD⟩
      rw [TU.len, List.take_length] at hD
      exact ⟨_, rfl, k H2 D s2 nD hD⟩
/-! ### taken by the king's side -/
def spTkK (K : PySem.W.Frag) : Sp := fun vs H Q _ => ∃ (h dxh : Addr) (ru : Tafl.Rules) (r : HR) (pb : Addr) (q : Tafl.Pos) (c : Nat), vs = [.ref h, .ref pb, .int c] ∧ HB K H h dxh ru r pb q ∧ c < 169 ∧ onG ru c = true ∧ ∀ H' D, Same H H' → H D = none → H' D = some (.lst (iv (tkK ru q c))) → Q (.ref D) H'
theorem ok_taken_by_kings_side (T : Txt K mg) : FnOk P w K mg base CX0 3 (a_taken_by_kings_side K) T.fd_taken_by_kings_side p_taken_by_kings_side (spTkK K) := by
  refine T.F_taken_by_kings_side.ok sc_taken_by_kings_side (fun vs H Q E h => ?_) (fun cdv A outer s H vs Q E hr h => ⟨_, PSs.nox (pss_cons (ps_if (PW.pt (pw_and (pt_cmpR op_eq (pe_ix ix_list (pv 1) (pv 2) (fun _ _ => rfl)) (pe_glob (v := .int 3) rfl T.c_KING ⟨_, rfl⟩) (nomark _)) (pw_and1 (pt_cmpR op_eq (pe_fld (pv 0) rfl) pe_int (nomark _))))) (pss_one (ps_ret (pe_lst pa_nil))) pss_nil)
      (pss_one (ps_ret (pe_lc (own := [("near", 3), ("behind", 4)]) (g := (gTup K 2 (gCons (gName 3) (gCons (gName 4) gNil)))) rfl sc_taken_by_kings_side.nd (pi_list (pe_ix ix_list (pe_fld (pv 0) rfl) (pv 2) (fun _ _ => rfl))) (blkOk_by (own := [("near", 3), ("behind", 4)]) (N := n_taken_by_kings_side) (sc := defScope s_taken_by_kings_side) (by decide +kernel)) (fun _ _ _ _ _ => (pg_tup rfl (pgs_cons (pg_name (i := 3) sc_taken_by_kings_side.nd rfl (Or.inl rfl)) (pgs_cons (pg_name (i := 4) sc_taken_by_kings_side.nd rfl (Or.inl rfl)) pgs_nil)))) (fun _ _ _ _ _ => (pts_one (PW.pt (pw_and (pt_cmpR op_eq (pe_ix (ix_listK (K := K) rfl) (pv 1) (pv 3) (fun _ _ => rfl)) (pe_glob (v := .int 1) rfl T.c_HUNTER ⟨_, rfl⟩) (nomark _)) (pw_and1 (pt_val (pe_call (ok_closes_on_hunter T) (hr.mono (by decide)) rfl T.g_closes_on_hunter T.F_closes_on_hunter.kp (b_closes_on_hunter T) .nil pass0 (pa_cons (pv 0) (pa_cons (pv 1) (pa_cons (pv 4) pa_nil)))))))))) (fun _ _ _ _ _ => (pv 3)))))), ?_⟩)
  · obtain ⟨h, dxh, ru, r, pb, q, c, rfl, _⟩ := h
    rfl
  · obtain ⟨h, dxh, ru, r, pb, q, c, rfl, B, c169, con, k⟩ := h
    obtain ⟨vs, a, us, hv, hvc, ha, TU⟩ := at_pairs B.x B.f c169 con
    have pl := prs_len ru c
    unfold tkK at k
    refine ifS_of (q.on c == .king && !ru.armed) (fun Q' q' => ?_) (fun hc => ?_) fun hc => ?_
    · refine ⟨_, rfl, _, rfl, pb, _, _, _, rfl, rfl, SqL.of B.b, atI_nat (bat c169), rfl, _, rfl, ?_⟩
      rw [show decide (V.int (pIx (q.on c) : Nat) = V.int 3) = (q.on c == .king) from isP .king rfl]
      refine ifB (fun h1 => ?_) fun h1 => ?_
      · rw [h1, Bool.true_and] at q'
        refine ⟨_, rfl, h, _, dxh, _, _, rfl, B.x.ins, T.cl_Hall, T.na_Hall_armed, rfl, rfl, _, rfl, ?_⟩
        rw [is0]
        exact q'
      · rw [h1, Bool.false_and] at q'
        exact q'
    · rw [if_pos hc] at k
      exact ⟨Nat.zero_le _, fun D nD => k _ D (Same.upd nD) nD upd_same⟩
    · rw [if_neg (by rw [hc]; exact Bool.false_ne_true)] at k
      refine ⟨_, rfl, h, _, dxh, _, _, rfl, B.x.ins, T.cl_Hall, T.na_Hall_pairs, rfl, _, rfl, r.pp, _, _, _, rfl, rfl, SqL.of hv, atI_nat hvc, a, rfl, ⟨_, SqL.of ha⟩, fun D nD => ?_⟩
      have sD : ∀ o, Same H (L2.upd H D o) := fun o => Same.upd nD
      refine lc_list (K := K) (a := a) (xs := us) (fun i H2 => H2 = L2.upd H D (.lst (iv ((((prs ru c).take i).filter (hitK ru q)).map fun x => x.1)))) rfl (fun i H2 _ e => by rw [e]; exact SqL.of (sD _ _ _ ha)) ?_ ?_
      · rintro i v H2 hx rfl
        obtain ⟨x, hxp, tp, rfl, htp⟩ := TU.at hx
        obtain ⟨⟨o1, l1⟩, o2, l2⟩ := prs_in B.f con (List.mem_of_getElem? hxp)
        have B2 := B.same (sD (.lst (iv ((((prs ru c).take i).filter (hitK ru q)).map fun x => x.1))))
        have tf := take_fm (p := hitK ru q) (f := fun x => x.1) hxp
        have yes : hitK ru q x = true → ∃ acc, (L2.upd H D (.lst (iv ((((prs ru c).take i).filter (hitK ru q)).map fun x => x.1)))) D = some (.lst acc) ∧ acc.length < sizeLine ∧ L2.upd (L2.upd H D (.lst (iv ((((prs ru c).take i).filter (hitK ru q)).map fun x => x.1)))) D (.lst (acc ++ [V.int x.1])) = L2.upd H D (.lst (iv ((((prs ru c).take (i + 1)).filter (hitK ru q)).map fun x => x.1))) := fun hh => by
          rw [if_pos hh] at tf
          refine ⟨_, upd_same, ?_, ?_⟩
          · rw [iv_len, List.length_map]
            have y1 := List.length_filter_le (hitK ru q) ((prs ru c).take i)
            have y2 : ((prs ru c).take i).length ≤ 4 := by rw [List.length_take]; omega
            exact line1000 (by omega)
          · rw [upd_upd, iv_app1, tf]
        have no : hitK ru q x = false → L2.upd H D (.lst (iv ((((prs ru c).take i).filter (hitK ru q)).map fun x => x.1))) = L2.upd H D (.lst (iv ((((prs ru c).take (i + 1)).filter (hitK ru q)).map fun x => x.1))) := fun hh => by
          rw [if_neg (by rw [hh]; exact Bool.false_ne_true), List.append_nil] at tf
          rw [tf]
        have eh : hitK ru q x = (q.on x.1 == .hunter && cloH ru q x.2) := rfl
        rw [eh] at yes no
        refine ⟨tp, _, rfl, SqT.of (sD _ _ _ htp), rfl, _, _, rfl, _, _, rfl, rfl, rfl, ?_⟩
        refine ⟨_, rfl, _, rfl, pb, _, _, _, rfl, rfl, SqL.of B2.b, atI_nat (bat l1), rfl, _, rfl, ?_⟩
        rw [show decide (V.int (pIx (q.on x.1) : Nat) = V.int 1) = (q.on x.1 == .hunter) from isP .hunter rfl]
        refine ifB (fun h1 => ?_) fun h1 => ?_
        · rw [h1, Bool.true_and] at yes no
          refine ⟨_, rfl, _, rfl, _, rfl, h, dxh, ru, r, pb, q, x.2, rfl, B2, l2, o2, _, rfl, ?_⟩
          refine ifB (fun h2 => ?_) fun h2 => ?_
          · exact ⟨_, rfl, yes h2⟩
          · exact no h2
        · rw [h1, Bool.false_and] at no
          exact ifF rfl (no rfl)
      · rintro H2 rfl
        rw [TU.len, List.take_length]
        exact k _ D (sD _) nD upd_same
end
end Tf
set_option Elab.async false
set_option linter.all false
set_option maxRecDepth 100000
set_option maxHeartbeats 8000000
/-! A move is made. -/
namespace Tf
open PySem PySem.Spec PyProof.Rows L2 TfX TfM
section
variable {P : Program} {w : World} {K : PySem.W.Frag} {mg : Str → Option Value} {base : Heap}
theorem board_shift {ru : Tafl.Rules} {p : Tafl.Pos} (G : Good ru p) {m : Nat × Nat} (L : Legal ru p m) : ((boardL p).set m.2 (pIx (p.on m.1))).set m.1 0 = boardL (p.shifted m) := by
  refine board_ext (by rw [List.length_set, List.length_set, board_len]) fun c hc => ?_
  rw [shift_on G L hc]
  by_cases e1 : c = m.1
  · have n : ¬ c = m.2 := fun y => L.ne (e1.symm.trans y)
    rw [if_neg n, if_pos e1, e1, List.getElem?_set_self (by rw [List.length_set, board_len]; exact L.b169)]
    rfl
  · rw [List.getElem?_set_ne (Ne.symm e1)]
    by_cases e2 : c = m.2
    · rw [if_pos e2, e2, List.getElem?_set_self (by rw [board_len]; exact L.e169)]
    · rw [if_neg e2, if_neg e1, List.getElem?_set_ne (Ne.symm e2), board_at hc]
theorem takes_in {ru : Tafl.Rules} (F : Fine ru) {p : Tafl.Pos} {m : Nat × Nat} (hm : onG ru m.2 = true) {c : Nat} (h : c ∈ ru.takes p m) : c < 169 := by
  rw [takes_eq F hm] at h
  unfold srt at h
  rw [List.mem_filter, List.contains_iff_mem] at h
  have h := h.2
  split at h
  · exact (tkH_nodup F hm).2 c h
  · exact (tkK_nodup F hm).2 c h
theorem takes_len {ru : Tafl.Rules} {p : Tafl.Pos} {m : Nat × Nat} : (ru.takes p m).length ≤ 192 := by
  unfold Tafl.Rules.takes
  refine Nat.le_trans (List.length_filter_le _ _) ?_
  rw [List.length_range]
  exact Nat.le_refl _
theorem board_comes {ru : Tafl.Rules} {p : Tafl.Pos} (G : Good ru p) {m : Nat × Nat} (L : Legal ru p m) : (ru.takes p m).foldl (fun g c => g.set c 0) (boardL (p.shifted m)) = boardL (ru.comes p m) := by
  refine board_ext (by rw [fold_len (f := fun x : Nat => x) (v := fun _ => 0), board_len]) fun c hc => ?_
  rw [comes_on G L hc, fold_set (f := fun x : Nat => x) (v := fun _ => 0) (x := 0) _ _ (by rw [board_len]; exact hc) (fun _ _ _ => rfl)]
  by_cases h : (ru.takes p m).contains c = true
  · rw [if_pos h, if_pos ⟨c, List.contains_iff_mem.mp h, rfl⟩]
    rfl
  · rw [if_neg h, if_neg, board_at hc]
    rintro ⟨x, hx, e⟩
    have e : x = c := e
    subst e
    exact h (List.contains_iff_mem.mpr hx)
theorem king_comes {ru : Tafl.Rules} (F : Fine ru) {p : Tafl.Pos} (G : Good ru p) {m : Nat × Nat} (L : Legal ru p m) : kingN (ru.comes p m) = if (ru.takes p m).contains (kingN (p.shifted m)) = true then 169 else kingN (p.shifted m) := by
  have bk := (comes_bits G L).2.2.1
  have Gq := shift_good G L
  have no : ∀ c, 169 ≤ c → ¬ (ru.takes p m).contains c = true := fun c hc h => by
    have := takes_in F L.eon (List.contains_iff_mem.mp h)
    omega
  unfold kingN
  rw [bk]
  rcases Gq.kg with h | h
  · rw [h, if_neg (no 255 (by decide)), if_pos rfl, if_neg (no 169 (by decide))]
  · have h255 : ¬ (p.shifted m).king = 255 := by omega
    rw [if_neg h255]
    by_cases ht : (ru.takes p m).contains (p.shifted m).king = true
    · rw [if_pos ht, if_pos ht, if_pos rfl]
    · rw [if_neg ht, if_neg ht, if_neg h255]
theorem king_shift {ru : Tafl.Rules} {p : Tafl.Pos} (G : Good ru p) {m : Nat × Nat} (L : Legal ru p m) : kingN (p.shifted m) = if ((p.shifted m).on m.2 == .king) = true then m.2 else kingN p := by
  have bk := (shift_bits G L).2.2.1
  rw [shift_on G L L.e169, if_pos rfl]
  unfold kingN
  rw [bk]
  have := L.e169
  by_cases h : p.on m.1 = .king
  · rw [if_pos h, h, if_neg (by omega)]
    rfl
  · rw [if_neg h, if_neg (show ¬ (p.on m.1 == Tafl.Piece.king) = true from fun y => h (beq_iff_eq.mp y))]
def spMake (K : PySem.W.Frag) : Sp := fun vs H Q _ => ∃ (h dxh : Addr) (ru : Tafl.Rules) (r : HR) (q dx pb : Addr) (p : Tafl.Pos) (m : Nat × Nat), vs = [.ref h, .ref q, .int m.1, .int m.2] ∧ HallAt K H h dxh ru r ∧ Fine ru ∧ PosAt K H q dx pb p ∧ Good ru p ∧ Legal ru p m ∧
  ∀ H' md dm q' dq pb' tk, Same H H' → H q' = none → H pb' = none → H tk = none → H' md = some (.ins (c_Made K) dm (madF (.ref q') (.ref tk))) → PosAt K H' q' dq pb' (ru.comes p m) → H' tk = some (.lst (iv (ru.takes p m))) → Q (.ref md) H'
theorem ix_nat {xs : List V} {n : Nat} (h : n < xs.length) : ixN xs.length (n : Int) = some n := by
  unfold ixN
  rw [if_pos (by omega), if_pos (by omega)]
  rfl
theorem ok_make (T : Txt K mg) : FnOk P w K mg base CX0 5 (a_make K) T.fd_make p_make (spMake K) := by
  refine T.F_make.ok sc_make (fun vs H Q E h => ?_) (fun cdv A outer s H vs Q E hr h => ⟨_, PSs.nox (pss_cons (ps_set (i := 4) sc_make.nd rfl (Or.inl rfl) (pe_callTy call_list_of (by rfl) T.m_list (by decide +kernel) (pa_cons (pe_fld (pv 1) rfl) pa_nil)))
      (pss_cons (ps_asg (pe_ix ix_list (pv 4) (pv 2) (fun _ _ => rfl)) (pg_sub (pv 4) (pv 3) set_list))
      (pss_cons (ps_asg (pe_glob (v := .int 0) rfl T.c_NOBODY ⟨_, rfl⟩) (pg_sub (pv 4) (pv 2) set_list))
      (pss_cons (ps_if (pt_cmpR op_eq (pe_fld (pv 1) rfl) (pe_glob (v := .int 0) rfl T.c_HUNTERS_TURN ⟨_, rfl⟩) (nomark _)) (pss_one (ps_set (i := 5) sc_make.nd rfl (Or.inl rfl) (pe_callB cr_sortedI (by rfl) T.m_sorted (by decide +kernel) (pa_cons (pe_call (ok_taken_by_hunter T) (hr.mono (by decide)) rfl T.g_taken_by_hunter T.F_taken_by_hunter.kp (b_taken_by_hunter T) .nil pass0 (pa_cons (pv 0) (pa_cons (pv 4) (pa_cons (pv 3) pa_nil)))) pa_nil)))) (pss_one (ps_set (i := 5) sc_make.nd rfl (Or.inl rfl) (pe_callB cr_sortedI (by rfl) T.m_sorted (by decide +kernel) (pa_cons (pe_call (ok_taken_by_kings_side T) (hr.mono (by decide)) rfl T.g_taken_by_kings_side T.F_taken_by_kings_side.kp (b_taken_by_kings_side T) .nil pass0 (pa_cons (pv 0) (pa_cons (pv 4) (pa_cons (pv 3) pa_nil)))) pa_nil)))))
      (pss_cons (ps_set (i := 6) sc_make.nd rfl (Or.inl rfl) (pe_ifExp (pt_cmpR op_eq (pe_ix ix_list (pv 4) (pv 3) (fun _ _ => rfl)) (pe_glob (v := .int 3) rfl T.c_KING ⟨_, rfl⟩) (nomark _)) (pv 3) (pe_fld (pv 1) rfl)))
      (pss_cons (ps_if (pt_cmpR op_in_seq (pv 6) (pv 5) rfl) (pss_one (ps_set (i := 6) sc_make.nd rfl (Or.inl rfl) (pe_glob (v := .int 169) rfl T.c_NOWHERE ⟨_, rfl⟩))) pss_nil)
      (pss_cons (ps_for PassesOwn.never rfl (pi_list (pv 5)) (pg_name (i := 7) sc_make.nd rfl (Or.inl rfl)) (pss_one (ps_asg (pe_glob (v := .int 0) rfl T.c_NOBODY ⟨_, rfl⟩) (pg_sub (pv 4) (pv 7) set_list))))
      (pss_one (ps_ret (pe_make T.mk_Made (ok_Made_init T) (hr.mono (by decide)) rfl T.gc_Made (b_Made_init T) .nil pass0 (pa_cons (pe_make T.mk_Position (ok_Position_init T) (hr.mono (by decide)) rfl T.gc_Position (b_Position_init T) .nil pass0 (pa_cons (pv 4) (pa_cons (pv 6) (pa_cons (pe_op op_sub pe_int (pe_fld (pv 1) rfl)) pa_nil)))) (pa_cons (pv 5) pa_nil)))))))))))), ?_⟩)
  · obtain ⟨h, dxh, ru, r, q, dx, pb, p, m, rfl, _⟩ := h
    rfl
  · obtain ⟨h, dxh, ru, r, q, dx, pb, p, m, rfl, X, F, Y, G, L, k⟩ := h
    have b169 := L.b169
    have e169 := L.e169
    refine ⟨_, rfl, q, _, dx, _, _, rfl, Y.ins, T.cl_Position, T.na_Position_board, rfl, pb, _, rfl, .inl (SqL.of Y.b), fun B nB => ?_⟩
    have sB : ∀ o, Same H (L2.upd H B o) := fun o => Same.upd nB
    refine ⟨_, rfl, _, rfl, B, _, _, _, rfl, rfl, SqL.of upd_same, atI_nat (bat b169), _, rfl, _, rfl, B, _, _, m.2, rfl, rfl, upd_same, ix_nat (by rw [iv_len, board_len]; exact e169), ?_⟩
    rw [upd_upd, iv_set]
    refine ⟨_, rfl, _, rfl, B, _, _, m.1, rfl, rfl, upd_same, ix_nat (by rw [iv_len, List.length_set, board_len]; exact b169), ?_⟩
    rw [upd_upd, show (V.int 0) = V.int ((0 : Nat) : Int) from rfl, iv_set, board_shift G L]
    generalize hH1 : L2.upd H B _ = H1
    have s1 : Same H H1 := by rw [← hH1]; exact sB _
    have hB1 : H1 B = some (.lst (iv (boardL (p.shifted m)))) := by rw [← hH1]; exact upd_same
    clear hH1
    have X1 := X.same s1
    have Y1 := Y.same s1
    have HB1 : HB K H1 h dxh ru r B (p.shifted m) := ⟨X1, F, hB1⟩
    dsimp only [gName]
    -- what is taken
    refine seq_by (fun σ H' => ∃ tk, σ = [some (.ref h), some (.ref q), some (.int m.1), some (.int m.2), some (.ref B), some (.ref tk), none, none] ∧ Same H1 H' ∧ H1 tk = none ∧ H' tk = some (.lst (iv (ru.takes p m)))) ?_ fun after => ?_
    · rintro σ H2 ⟨tk, rfl, s2, ntk, htk⟩
      have X2 := X1.same s2
      have Y2 := Y1.same s2
      have hB2 := s2 _ _ hB1
      have nBt : B ≠ tk := ne_of_none hB1 ntk
      -- the king
      show tIf _ _ _ _ _ _
      refine te_by (fun v H' => H' = H2 ∧ v = .int (kingN (p.shifted m))) ?_ fun after2 => ?_
      · rintro v H' ⟨rfl, rfl⟩
        dsimp only [gName]
        refine seq_by (fun σ H3 => H3 = H' ∧ σ = [some (.ref h), some (.ref q), some (.int m.1), some (.int m.2), some (.ref B), some (.ref tk), some (.int (kingN (ru.comes p m))), none]) ?_ fun after3 => ?_
        · rintro σ H3 ⟨rfl, rfl⟩
          refine ⟨_, rfl, tk, rfl, ⟨_, SqL.of htk⟩, ?_⟩
          refine for_list (K := K) (a := tk) (xs := iv (ru.takes p m)) (fun i σ H4 => ∃ cv : Option V, σ = [some (.ref h), some (.ref q), some (.int m.1), some (.int m.2), some (.ref B), some (.ref tk), some (.int (kingN (ru.comes p m))), cv] ∧ H4 = L2.upd H3 B (.lst (iv (((ru.takes p m).take i).foldl (fun g c => g.set c 0) (boardL (p.shifted m)))))) ⟨none, rfl, ?_⟩ ?_ ?_ ?_
          · funext c
            by_cases hc : c = B
            · rw [hc, upd_same, hB2]
              rfl
            · rw [upd_ne hc]
          · rintro i σ H4 _ ⟨cv, rfl, rfl⟩
            exact SqL.of (by rw [upd_ne (Ne.symm nBt)]; exact htk)
          · rintro i x σ H4 hx ⟨cv, rfl, rfl⟩
            obtain ⟨c, hc, rfl⟩ := iv_get hx
            have c169 := takes_in F L.eon (List.mem_of_getElem? hc)
            refine ⟨_, rfl, _, rfl, B, _, _, c, rfl, rfl, upd_same, ix_nat (by rw [iv_len, fold_len (f := fun x : Nat => x) (v := fun _ => 0), board_len]; exact c169), ?_⟩
            refine ⟨_, rfl, ?_⟩
            rw [upd_upd, iv_set, List.take_add_one, hc, List.foldl_append]
            rfl
          · rintro σ H4 ⟨cv, rfl, rfl⟩
            rw [iv_len, List.take_length, board_comes G L]
            have s4 : ∀ a o, H a = some o → (L2.upd H3 B (.lst (iv (boardL (ru.comes p m))))) a = some o := fun a o ho => by
              rw [upd_ne (ne_of_none ho nB)]
              exact s2 _ _ (s1 _ _ ho)
            have Y4 := Y.same s4
            refine ⟨_, rfl, _, rfl, _, rfl, q, _, dx, _, _, rfl, Y4.ins, T.cl_Position, T.na_Position_turn, rfl, _, _, rfl, rfl, fun a dxa na nda nea => ⟨a, dxa, _, _, _, rfl, upd_same, fun H5 h5 b5 => ⟨rfl, ?_⟩⟩⟩
            have s5 := made_same na nda b5
            refine ⟨_, rfl, fun md dm nm ndm nem => ⟨md, dm, _, _, rfl, upd_same, fun H6 h6 b6 => ⟨rfl, ?_⟩⟩⟩
            have s6 := made_same nm ndm b6
            have htk4 : (L2.upd H3 B (.lst (iv (boardL (ru.comes p m))))) tk = some (.lst (iv (ru.takes p m))) := by rw [upd_ne (Ne.symm nBt)]; exact htk
            refine k H6 md dm a dxa B tk (fun x o ho => s6 _ _ (s5 _ _ (s4 _ _ ho))) (Same.free s4 na) nB (s1.free ntk) h6 ⟨?_, s6 _ _ (s5 _ _ upd_same)⟩ (s6 _ _ (s5 _ _ htk4))
            have y : H6 a = some (.ins (c_Position K) dxa (posF (.ref B) (.int (kingN (ru.comes p m))) (.int ((1 : Int) - (p.side : Nat))))) := s6 _ _ h5
            have es : (1 : Int) - (p.side : Nat) = ((ru.comes p m).side : Nat) := by
              rw [(comes_bits G L).2.2.2]
              have := G.sd
              omega
            rw [es] at y
            exact y
        · have kc := king_comes F G L
          refine ifS_of ((ru.takes p m).contains (kingN (p.shifted m))) (fun Q' q' => ?_) (fun hc => ?_) fun hc => ?_
          · refine ⟨_, rfl, _, rfl, tk, _, rfl, .inl (SqL.of htk), rfl, flat_iv _, _, rfl, ?_⟩
            show Q' (inV (.int (kingN (p.shifted m) : Nat)) (iv (ru.takes p m))) _
            rw [in_iv]
            exact q'
          · rw [if_pos hc] at kc
            refine after3 _ _ ⟨rfl, ?_⟩
            rw [kc]
            rfl
          · rw [if_neg (by rw [hc]; exact Bool.false_ne_true)] at kc
            refine after3 _ _ ⟨rfl, ?_⟩
            rw [kc]
            rfl
      · have ks := king_shift G L
        refine tIf_of ((p.shifted m).on m.2 == .king) (fun Q' q' => ?_) (fun hc => ?_) fun hc => ?_
        · refine ⟨_, rfl, _, rfl, B, _, _, _, rfl, rfl, SqL.of hB2, atI_nat (bat e169), rfl, _, rfl, ?_⟩
          rw [show decide (V.int (pIx ((p.shifted m).on m.2) : Nat) = V.int 3) = ((p.shifted m).on m.2 == .king) from isP .king rfl]
          exact q'
        · rw [if_pos hc] at ks
          exact ⟨_, rfl, after2 _ _ ⟨rfl, by rw [ks]⟩⟩
        · rw [if_neg (by rw [hc]; exact Bool.false_ne_true)] at ks
          exact ⟨_, rfl, q, _, dx, _, _, rfl, Y2.ins, T.cl_Position, T.na_Position_king, rfl, after2 _ _ ⟨rfl, by rw [ks]⟩⟩
    · have te := takes_eq F (p := p) L.eon
      refine ifS_of (p.side == 0) (fun Q' q' => ?_) (fun hc => ?_) fun hc => ?_
      · refine ⟨_, rfl, q, _, dx, _, _, rfl, Y1.ins, T.cl_Position, T.na_Position_turn, rfl, rfl, _, rfl, ?_⟩
        rw [show decide (V.int (p.side : Nat) = V.int ((0 : Nat) : Int)) = (p.side == 0) from nat_dec]
        exact q'
      · rw [if_pos (beq_iff_eq.mp hc)] at te
        refine ⟨_, rfl, _, rfl, _, rfl, h, dxh, ru, r, B, p.shifted m, m.2, rfl, HB1, e169, L.eon, fun H2 D s2 nD hD => ?_⟩
        refine ⟨D, (tkH ru (p.shifted m) m.2).map fun c => ((c : Nat) : Int), rfl, SqL.of (by rw [ints_iv]; exact hD), fun ns ps hperm hsort nps => ?_⟩
        obtain ⟨nd, lt⟩ := tkH_nodup F (q := p.shifted m) L.eon
        have es : ns.map V.int = iv (ru.takes p m) := by
          rw [sort_eq nd lt hperm hsort, ints_iv, te]
          rfl
        rw [es]
        exact after _ _ ⟨ps, rfl, s2.trans (Same.upd nps), s2.free nps, upd_same⟩
      · rw [if_neg (beq_eq_false_iff_ne.mp hc)] at te
        refine ⟨_, rfl, _, rfl, _, rfl, h, dxh, ru, r, B, p.shifted m, m.2, rfl, HB1, e169, L.eon, fun H2 D s2 nD hD => ?_⟩
        refine ⟨D, (tkK ru (p.shifted m) m.2).map fun c => ((c : Nat) : Int), rfl, SqL.of (by rw [ints_iv]; exact hD), fun ns ps hperm hsort nps => ?_⟩
        obtain ⟨nd, lt⟩ := tkK_nodup F (q := p.shifted m) L.eon
        have es : ns.map V.int = iv (ru.takes p m) := by
          rw [sort_eq nd lt hperm hsort, ints_iv, te]
          rfl
        rw [es]
        exact after _ _ ⟨ps, rfl, s2.trans (Same.upd nps), s2.free nps, upd_same⟩
end
end Tf
set_option Elab.async false
set_option linter.all false
set_option maxRecDepth 100000
set_option maxHeartbeats 4000000
/-! Looking ahead: how many moves are made; the best. -/
namespace Tf
open TfM
open Tafl (Piece Kind Rules Pos Weights)
/-- moves made in looking so deep -/
def cnt (ru : Rules) : Nat → Pos → Nat
  | 0, _ => 0
  | n + 1, p => (ru.moves p).length + ((ru.moves p).map fun m => cnt ru n (ru.comes p m)).sum
theorem foldl_sum : ∀ (l : List Nat) (a : Nat), l.foldl (fun (a b : Nat) => a + b) a = a + l.sum
  | [], a => by simp
  | x :: l, a => by
    rw [List.foldl_cons, foldl_sum l, List.sum_cons]
    omega
theorem sum_flat {α β : Type} (f : α → List β) (g : β → Nat) : ∀ l : List α, ((l.flatMap f).map g).sum = (l.map fun x => ((f x).map g).sum).sum
  | [] => rfl
  | x :: l => by
    rw [List.flatMap_cons, List.map_append, List.sum_append, List.map_cons, List.sum_cons, sum_flat f g l]
theorem sum_add {α : Type} (f g : α → Nat) : ∀ l : List α, (l.map fun x => f x + g x).sum = (l.map f).sum + (l.map g).sum
  | [] => rfl
  | x :: l => by
    rw [List.map_cons, List.sum_cons, List.map_cons, List.sum_cons, List.map_cons, List.sum_cons, sum_add f g l]
    omega
theorem within_eq (ru : Rules) : ∀ (n room : Nat) (ps : List Pos), TaflLook.within ru n room ps = decide ((ps.map (cnt ru n)).sum ≤ room)
  | 0, room, ps => by
    have e : (ps.map (cnt ru 0)).sum = 0 := by
      induction ps with
      | nil => rfl
      | cons p ps ih =>
        rw [List.map_cons, List.sum_cons, ih]
        rfl
    rw [e, decide_eq_true (Nat.zero_le _)]
    rfl
  | n + 1, room, ps => by
    rw [TaflLook.within]
    rw [within_eq ru n, foldl_sum, Nat.zero_add, sum_flat]
    have e : (ps.map (cnt ru (n + 1))).sum = (ps.map fun p => (ru.moves p).length).sum + (ps.map fun p => (((ru.moves p).map fun m => ru.comes p m).map (cnt ru n)).sum).sum := by
      rw [← sum_add]
      congr 1
      refine List.map_congr_left fun p _ => ?_
      rw [List.map_map]
      rfl
    rw [e]
    rw [Bool.eq_iff_iff, Bool.and_eq_true, decide_eq_true_eq, decide_eq_true_eq, decide_eq_true_eq]
    omega
theorem within_one (ru : Rules) (n room : Nat) (p : Pos) : TaflLook.within ru n room [p] = decide (cnt ru n p ≤ room) := by
  rw [within_eq, List.map_cons, List.map_nil, List.sum_cons, List.sum_nil, Nat.add_zero]
theorem over_moves {ru : Rules} {p : Pos} (h : ru.over p ≠ 0) : ru.moves p = [] := by
  unfold Tafl.Rules.over at h
  by_cases he : ru.ended p ≠ 0
  · unfold Tafl.Rules.moves
    rw [if_pos he]
  · rw [if_neg he] at h
    by_cases hm : ru.moves p = []
    · exact hm
    · rw [if_neg hm] at h
      exact absurd rfl h
theorem moves_over {ru : Rules} {p : Pos} (h : ru.over p = 0) : ru.moves p ≠ [] := by
  unfold Tafl.Rules.over at h
  by_cases he : ru.ended p ≠ 0
  · rw [if_pos he] at h
    exact absurd h he
  · rw [if_neg he] at h
    by_cases hm : ru.moves p = []
    · rw [if_pos hm] at h
      cases h
    · exact hm
theorem cnt_over {ru : Rules} {p : Pos} (h : ru.over p ≠ 0) (n : Nat) : cnt ru n p = 0 := by
  cases n with
  | zero => rfl
  | succ n =>
    unfold cnt
    rw [over_moves h]
    rfl
theorem ended_le {ru : Rules} {p : Pos} : ru.ended p ≤ 2 := by
  unfold Tafl.Rules.ended
  by_cases h1 : p.king = Tafl.TAKEN
  · rw [if_pos h1]
    decide
  · rw [if_neg h1]
    by_cases h2 : ru.onGoal p.king = true
    · rw [if_pos h2]
      decide
    · rw [if_neg h2]
      decide
theorem over_le {ru : Rules} {p : Pos} : ru.over p ≤ 3 := by
  unfold Tafl.Rules.over
  by_cases h1 : ru.ended p ≠ 0
  · rw [if_pos h1]
    have := ended_le (ru := ru) (p := p)
    omega
  · rw [if_neg h1]
    by_cases h2 : ru.moves p = []
    · rw [if_pos h2]
      decide
    · rw [if_neg h2]
      decide
/-! ### the best -/
def stp (s : Nat) (a b : Int) : Int := if s = 0 then max a b else min a b
theorem best_cons (s : Nat) (a : Int) (l : List Int) : Tafl.bestOf s (a :: l) = l.foldl (stp s) a := rfl
def btr (s : Nat) (a b : Int) : Bool := if s = 0 then decide (a > b) else decide (a < b)
/-- the first of the best so far: j of l -/
structure FB (s : Nat) (l : List Int) (j : Nat) : Prop where
  lt : j < l.length
  at_ : l[j]? = some (Tafl.bestOf s l)
  fst : ∀ k, k < j → ∀ x, l[k]? = some x → btr s (Tafl.bestOf s l) x = true
  all : ∀ x ∈ l, btr s x (Tafl.bestOf s l) = false
theorem FB.one (s : Nat) (a : Int) : FB s [a] 0 := by
  refine ⟨by simp, rfl, fun k hk => absurd hk (by omega), fun x hx => ?_⟩
  cases List.mem_singleton.mp hx
  show btr s a a = false
  unfold btr
  split <;> exact decide_eq_false (by omega)
theorem best_app {s : Nat} {l : List Int} (hl : l ≠ []) (x : Int) : Tafl.bestOf s (l ++ [x]) = stp s (Tafl.bestOf s l) x := by
  cases l with
  | nil => exact absurd rfl hl
  | cons a l =>
    rw [List.cons_append, best_cons, best_cons, List.foldl_append]
    rfl
theorem FB.ne {s : Nat} {l : List Int} {j : Nat} (F : FB s l j) : l ≠ [] := fun e => by
  have := F.lt
  rw [e] at this
  exact absurd this (by simp)
theorem FB.keep {s : Nat} {l : List Int} {j : Nat} (F : FB s l j) {x : Int} (h : btr s x (Tafl.bestOf s l) = false) : FB s (l ++ [x]) j := by
  have e : Tafl.bestOf s (l ++ [x]) = Tafl.bestOf s l := by
    rw [best_app F.ne]
    unfold stp
    unfold btr at h
    split at h
    · rename_i h0
      rw [if_pos h0]
      have := of_decide_eq_false h
      omega
    · rename_i h0
      rw [if_neg h0]
      have := of_decide_eq_false h
      omega
  have hl := F.lt
  refine ⟨by rw [List.length_append]; omega, ?_, fun k hk y hy => ?_, fun y hy => ?_⟩
  · rw [e, List.getElem?_append_left hl]
    exact F.at_
  · rw [e]
    rw [List.getElem?_append_left (by omega)] at hy
    exact F.fst k hk y hy
  · rw [e]
    rcases List.mem_append.mp hy with hy | hy
    · exact F.all y hy
    · cases List.mem_singleton.mp hy
      exact h
theorem FB.new {s : Nat} {l : List Int} {j : Nat} (F : FB s l j) {x : Int} (h : btr s x (Tafl.bestOf s l) = true) : FB s (l ++ [x]) l.length := by
  have e : Tafl.bestOf s (l ++ [x]) = x := by
    rw [best_app F.ne]
    unfold stp
    unfold btr at h
    split at h
    · rename_i h0
      rw [if_pos h0]
      have := of_decide_eq_true h
      omega
    · rename_i h0
      rw [if_neg h0]
      have := of_decide_eq_true h
      omega
  have old : ∀ y ∈ l, btr s x y = true ∧ btr s y x = false := fun y hy => by
    have a := F.all y hy
    unfold btr at a h ⊢
    by_cases h0 : s = 0
    · rw [if_pos h0] at a h ⊢
      have := of_decide_eq_false a
      have := of_decide_eq_true h
      exact ⟨decide_eq_true (by omega), by rw [if_pos h0]; exact decide_eq_false (by omega)⟩
    · rw [if_neg h0] at a h ⊢
      have := of_decide_eq_false a
      have := of_decide_eq_true h
      exact ⟨decide_eq_true (by omega), by rw [if_neg h0]; exact decide_eq_false (by omega)⟩
  refine ⟨by rw [List.length_append]; exact Nat.lt_succ_self _, ?_, fun k hk y hy => ?_, fun y hy => ?_⟩
  · rw [e, List.getElem?_append_right (Nat.le_refl _), Nat.sub_self]
    rfl
  · rw [e]
    rw [List.getElem?_append_left hk] at hy
    exact (old y (List.mem_of_getElem? hy)).1
  · rw [e]
    rcases List.mem_append.mp hy with hy | hy
    · exact (old y hy).2
    · cases List.mem_singleton.mp hy
      unfold btr
      split <;> exact decide_eq_false (by omega)
/-- the move that is found -/
theorem FB.find {s : Nat} {α : Type} {f : α → Int} : ∀ {l : List α} {j : Nat}, FB s (l.map f) j → ∃ x, l[j]? = some x ∧ l.find? (fun x => f x == Tafl.bestOf s (l.map f)) = some x := fun {l j} F => by
  have h := F.at_
  rw [List.getElem?_map] at h
  cases hx : l[j]? with
  | none =>
    rw [hx] at h
    cases h
  | some x =>
    rw [hx] at h
    have h : f x = Tafl.bestOf s (l.map f) := Option.some.inj h
    refine ⟨x, rfl, find_at hx (beq_iff_eq.mpr h) fun y hy => ?_⟩
    obtain ⟨k, hk, rfl⟩ := List.mem_iff_getElem.mp hy
    rw [List.length_take] at hk
    have hk2 : k < l.length := by omega
    rw [List.getElem_take]
    have y2 := F.fst k (by omega) (f l[k]) (by rw [List.getElem?_map, List.getElem?_eq_getElem hk2]; rfl)
    rw [beq_eq_false_iff_ne]
    intro e
    rw [e] at y2
    unfold btr at y2
    split at y2
    · have := of_decide_eq_true y2
      omega
    · have := of_decide_eq_true y2
      omega
/-! ### worths and rows -/
def rows (ru : Rules) (w : Weights) (n d : Nat) (p : Pos) : List (List Nat) := (ru.rowOn w n d p).map fun x => TaflLook.toldMove ru x.2 x.1
theorem rows_len (ru : Rules) (w : Weights) : ∀ (n d : Nat) (p : Pos), (rows ru w n d p).length ≤ n
  | 0, d, p => Nat.le_refl _
  | n + 1, d, p => by
    unfold rows
    rw [List.length_map, Tafl.Rules.rowOn]
    split
    · exact Nat.zero_le _
    · split
      · exact Nat.zero_le _
      · rw [List.length_cons]
        have ih := rows_len ru w n (d + 1)
        unfold rows at ih
        have := ih (ru.comes p ‹_›)
        rw [List.length_map] at this
        omega
theorem worth_over {ru : Rules} {w : Weights} {p : Pos} (h : ru.over p ≠ 0) (n d : Nat) : ru.worth w n d p = ru.endWorth p d ∧ rows ru w n d p = [] := by
  cases n with
  | zero =>
    refine ⟨?_, rfl⟩
    rw [Tafl.Rules.worth, if_pos h]
  | succ n =>
    refine ⟨?_, ?_⟩
    · rw [Tafl.Rules.worth, if_pos h]
    · unfold rows
      rw [Tafl.Rules.rowOn, if_pos h]
      rfl
/-- what is tried: the worth, the row -/
def tryL (ru : Rules) (w : Weights) (n d : Nat) (p : Pos) (m : Nat × Nat) : Int × List (List Nat) := (ru.worth w n (d + 1) (ru.comes p m), TaflLook.toldMove ru p m :: rows ru w n (d + 1) (ru.comes p m))
theorem worth_best {ru : Rules} {w : Weights} {p : Pos} (h : ru.over p = 0) {n d j : Nat} (F : FB p.side ((ru.moves p).map fun m => (tryL ru w n d p m).1) j) : ∃ m, (ru.moves p)[j]? = some m ∧ tryL ru w n d p m = (ru.worth w (n + 1) d p, rows ru w (n + 1) d p) := by
  have e : ru.worth w (n + 1) d p = Tafl.bestOf p.side ((ru.moves p).map fun m => (tryL ru w n d p m).1) := by
    rw [Tafl.Rules.worth, if_neg (fun y => y h)]
    rfl
  obtain ⟨m, hm, hf⟩ := FB.find F
  refine ⟨m, hm, ?_⟩
  have h1 : (tryL ru w n d p m).1 = Tafl.bestOf p.side ((ru.moves p).map fun m => (tryL ru w n d p m).1) := by
    have := List.find?_some hf
    exact beq_iff_eq.mp this
  have hr : rows ru w (n + 1) d p = TaflLook.toldMove ru p m :: rows ru w n (d + 1) (ru.comes p m) := by
    unfold rows
    rw [Tafl.Rules.rowOn, if_neg (fun y => y h), e]
    have hf' : ((ru.moves p).find? fun m => ru.worth w n (d + 1) (ru.comes p m) == Tafl.bestOf p.side ((ru.moves p).map fun m => (tryL ru w n d p m).1)) = some m := hf
    rw [hf']
    rfl
  rw [e, hr, ← h1]
  rfl
end Tf
set_option Elab.async false
set_option linter.all false
set_option maxRecDepth 100000
set_option maxHeartbeats 8000000
/-! Weighing. -/
namespace Tf
open PySem PySem.Spec PyProof.Rows L2 TfX TfM
section
variable {P : Program} {w : World} {K : PySem.W.Frag} {mg : Str → Option Value} {base : Heap}
theorem count_on {p : Tafl.Pos} (x : Tafl.Piece) {n : Int} (hn : n = (pIx x : Nat)) : ((boardL p).map fun c => ((c : Nat) : Int)).count n = ((List.range 169).filter fun c => p.on c == x).length := by
  subst hn
  rw [List.count_eq_countP, List.countP_map]
  unfold boardL
  rw [List.countP_map, List.countP_eq_length_filter]
  congr 1
  refine List.filter_congr fun c _ => ?_
  show (((pIx (p.on c) : Nat) : Int) == ((pIx x : Nat) : Int)) = (p.on c == x)
  rw [← pIx_inj, Bool.eq_iff_iff, beq_iff_eq, beq_iff_eq]
  omega
theorem count_h {ru : Tafl.Rules} {p : Tafl.Pos} (G : Good ru p) : ((boardL p).map fun c => ((c : Nat) : Int)).count 1 = (Tafl.cellsIn p.hunters).length := by
  rw [count_on (n := 1) .hunter rfl]
  unfold Tafl.cellsIn Tafl.GONE
  rw [range_cut (fun c _ h => (G.ho c h).1)]
  congr 1
  exact List.filter_congr fun c _ => on_hunter G
theorem count_m {ru : Tafl.Rules} {p : Tafl.Pos} (G : Good ru p) : ((boardL p).map fun c => ((c : Nat) : Int)).count 2 = (Tafl.cellsIn p.men).length := by
  rw [count_on (n := 2) .man rfl]
  unfold Tafl.cellsIn Tafl.GONE
  rw [range_cut (fun c _ h => (G.mo c h).1)]
  congr 1
  exact List.filter_congr fun c _ => on_man G
def wv3 (w : Tafl.Weights) : List V := [.int w.hunter, .int w.man, .int w.road]
theorem cells_bound (n : Nat) : (Tafl.cellsIn n).length ≤ 192 := by
  unfold Tafl.cellsIn
  refine Nat.le_trans (List.length_filter_le _ _) ?_
  rw [List.length_range]
  exact Nat.le_refl _
theorem big {i : Int} (h : i.natAbs ≤ 1000) : -(2 ^ 64) < i ∧ i < 2 ^ 64 := by
  have h1 : (1000 : Int) < 2 ^ 64 := by decide
  omega
theorem right_big {W : Tafl.Weights} (h : W.right = true) : W.hunter.natAbs ≤ 1000 ∧ W.man.natAbs ≤ 1000 ∧ W.road.natAbs ≤ 1000 := by
  unfold Tafl.Weights.right Tafl.HEAVY at h
  simp only [Bool.and_eq_true, decide_eq_true_eq] at h
  exact h
def spWeighed (K : PySem.W.Frag) : Sp := fun vs H Q _ => ∃ (h dxh : Addr) (ru : Tafl.Rules) (r : HR) (q dx pb wt : Addr) (p : Tafl.Pos) (W : Tafl.Weights), vs = [.ref h, .ref q, .ref wt] ∧ HallAt K H h dxh ru r ∧ Fine ru ∧ PosAt K H q dx pb p ∧ Good ru p ∧ H wt = some (.lst (wv3 W)) ∧ W.right = true ∧
  ∀ H', Same H H' → Q (.int (ru.weigh W p)) H'
theorem ok_weighed (T : Txt K mg) : FnOk P w K mg base CX0 2 (a_weighed K) T.fd_weighed p_weighed (spWeighed K) := by
  refine T.F_weighed.ok sc_weighed (fun vs H Q E h => ?_) (fun cdv A outer s H vs Q E hr h => ⟨_, PSs.nox (pss_cons (ps_set (i := 3) sc_weighed.nd rfl (Or.inl rfl) (pe_fld (pv 1) rfl))
      (pss_cons (ps_set (i := 4) sc_weighed.nd rfl (Or.inl rfl) (pe_ifExp (pt_val (pe_call (ok_king_is_gone T) (hr.mono (by decide)) rfl T.g_king_is_gone T.F_king_is_gone.kp (b_king_is_gone T) .nil pass0 (pa_cons (pv 0) (pa_cons (pv 1) pa_nil)))) pe_int (pe_callB call_len_seq (by rfl) T.m_len (by decide +kernel) (pa_cons (pe_call (ok_reach T) (hr.mono (by decide)) rfl T.g_reach T.F_reach.kp (b_reach T) .nil pass0 (pa_cons (pv 0) (pa_cons (pv 3) (pa_cons (pe_fld (pv 1) rfl) pa_nil)))) pa_nil))))
      (pss_one (ps_ret (pe_op op_sub (pe_op op_sub (pe_op op_mul (pe_ix ix_list (pv 2) pe_int (fun _ _ => rfl)) (pe_bm PySem.F.plainAttrs_list PySem.F.slot_list_count PySem.F.type_list_count mt_lcount (pv 3) (pa_cons (pe_glob (v := .int 1) rfl T.c_HUNTER ⟨_, rfl⟩) pa_nil))) (pe_op op_mul (pe_ix ix_list (pv 2) pe_int (fun _ _ => rfl)) (pe_bm PySem.F.plainAttrs_list PySem.F.slot_list_count PySem.F.type_list_count mt_lcount (pv 3) (pa_cons (pe_glob (v := .int 2) rfl T.c_MAN ⟨_, rfl⟩) pa_nil)))) (pe_op op_mul (pe_ix ix_list (pv 2) pe_int (fun _ _ => rfl)) (pv 4))))))), ?_⟩)
  · obtain ⟨h, dxh, ru, r, q, dx, pb, wt, p, W, rfl, _⟩ := h
    rfl
  · obtain ⟨h, dxh, ru, r, q, dx, pb, wt, p, W, rfl, X, F, Y, G, hw, hW, k⟩ := h
    obtain ⟨w1, w2, w3⟩ := right_big hW
    refine ⟨_, rfl, q, _, dx, _, _, rfl, Y.ins, T.cl_Position, T.na_Position_board, rfl, ?_⟩
    dsimp only [gName]
    show tIf _ _ _ _ _ _
    refine te_by (fun v H' => Same H H' ∧ v = .int (ru.roads p : Nat)) ?_ fun after => ?_
    · rintro v H' ⟨s2, rfl⟩
      have Y2 := Y.same s2
      have hw2 := s2 _ _ hw
      have hb2 : SqL K H' pb (((boardL p).map fun c => ((c : Nat) : Int)).map V.int) := by rw [ints_iv]; exact SqL.of Y2.b
      refine ⟨_, rfl, wt, _, 0, _, rfl, rfl, SqL.of hw2, atI_nat (j := 0) rfl, _, rfl, tyL Y2.b, pb, _, 1, rfl, rfl, hb2, ?_⟩
      refine ⟨_, _, rfl, rfl, .inl (big w1), ?_⟩
      refine ⟨_, rfl, wt, _, 1, _, rfl, rfl, SqL.of hw2, atI_nat (j := 1) rfl, _, rfl, tyL Y2.b, pb, _, 2, rfl, rfl, hb2, ?_⟩
      refine ⟨_, _, rfl, rfl, .inl (big w2), _, _, rfl, rfl, ?_⟩
      refine ⟨_, rfl, wt, _, 2, _, rfl, rfl, SqL.of hw2, atI_nat (j := 2) rfl, _, rfl, _, _, rfl, rfl, .inl (big w3), _, _, rfl, rfl, ?_⟩
      have k2 := k H' s2
      unfold Tafl.Rules.weigh at k2
      rw [← count_h G, ← count_m G] at k2
      exact k2
    · refine tIf_of (decide (ru.ended p ≠ 0)) (fun Q' q' => ⟨_, rfl, _, rfl, h, dxh, ru, r, q, dx, pb, p, rfl, X, Y, G, _, rfl, q'⟩) (fun hc => ?_) fun hc => ?_
      · have e : ru.roads p = 0 := if_pos (of_decide_eq_true hc)
        exact after _ _ ⟨Same.refl H, by rw [e]; rfl⟩
      · have hne := of_decide_eq_false hc
        have e : ru.roads p = (ru.reach p p.king).length := if_neg hne
        have hk : (p.king == 255) = false := by
          have y := ended_eq ru p
          rw [hc] at y
          cases hk : p.king == 255 with
          | false => rfl
          | true =>
            rw [hk, Bool.true_or] at y
            cases y
        obtain ⟨k1, k2, k3⟩ := king_at G hk
        refine ⟨_, rfl, _, rfl, _, rfl, q, _, dx, _, _, rfl, Y.ins, T.cl_Position, T.na_Position_king, rfl, h, dxh, ru, r, pb, p, p.king, by rw [k1]; rfl, X, F, Y.b, k2, k3, fun H2 D s2 nD hD => ?_⟩
        refine ⟨D, _, rfl, .inl (SqL.of hD), after _ _ ⟨s2, ?_⟩⟩
        rw [iv_len, e]
def spEndWorth : Sp := fun vs H Q _ => ∃ (ru : Tafl.Rules) (p : Tafl.Pos) (d : Nat), vs = [.int (ru.over p), .int p.side, .int d] ∧ ru.over p ≠ 0 ∧ p.side < 2 ∧ Q (.int (ru.endWorth p d)) H
theorem ok_end_worth (T : Txt K mg) : FnOk P w K mg base CX0 1 (a_end_worth K) T.fd_end_worth p_end_worth spEndWorth := by
  refine T.F_end_worth.ok sc_end_worth (fun vs H Q E h => ?_) (fun cdv A outer s H vs Q E hr h => ⟨_, PSs.nox (pss_cons (ps_set (i := 3) sc_end_worth.nd rfl (Or.inl rfl) (pe_or (pe_cmpR op_eq (pv 0) (pe_glob (v := .int 1) rfl T.c_KING_TAKEN ⟨_, rfl⟩) (nomark _)) (pe_one (pe_and (pe_cmpR op_eq (pv 0) (pe_glob (v := .int 3) rfl T.c_NO_MOVE ⟨_, rfl⟩) (nomark _)) (pe_one (pe_cmpR op_eq (pv 1) (pe_glob (v := .int 1) rfl T.c_KINGS_TURN ⟨_, rfl⟩) (nomark _)))))))
      (pss_one (ps_ret (pe_ifExp (pt_val (pv 3)) (pe_op op_sub (pe_glob (v := .int 1000000) rfl T.c_WON ⟨_, rfl⟩) (pv 2)) (pe_op op_sub (pv 2) (pe_glob (v := .int 1000000) rfl T.c_WON ⟨_, rfl⟩)))))), ?_⟩)
  · obtain ⟨ru, p, d, rfl, _⟩ := h
    rfl
  · obtain ⟨ru, p, d, rfl, ho, hs, k⟩ := h
    have hle := over_le (ru := ru) (p := p)
    unfold Tafl.Rules.endWorth Tafl.BIG at k
    generalize ru.over p = o at *
    rcases (by omega : o = 1 ∨ o = 2 ∨ o = 3) with rfl | rfl | rfl
    · refine ⟨_, rfl, rfl, _, rfl, ifT rfl ⟨_, rfl, _, rfl, ifT rfl ⟨_, rfl, _, _, rfl, rfl, k⟩⟩⟩
    · exact ⟨_, rfl, rfl, _, rfl, ifF rfl ⟨_, rfl, rfl, _, rfl, ifF rfl ⟨_, rfl, _, rfl, ifF rfl ⟨_, rfl, _, _, rfl, rfl, k⟩⟩⟩⟩
    · rcases (by omega : p.side = 0 ∨ p.side = 1) with h0 | h0
      · rw [h0] at k ⊢
        exact ⟨_, rfl, rfl, _, rfl, ifF rfl ⟨_, rfl, rfl, _, rfl, ifT rfl ⟨_, rfl, rfl, _, rfl, _, rfl, ifF rfl ⟨_, rfl, _, _, rfl, rfl, k⟩⟩⟩⟩
      · rw [h0] at k ⊢
        exact ⟨_, rfl, rfl, _, rfl, ifF rfl ⟨_, rfl, rfl, _, rfl, ifT rfl ⟨_, rfl, rfl, _, rfl, _, rfl, ifT rfl ⟨_, rfl, _, _, rfl, rfl, k⟩⟩⟩⟩
def spBetter : Sp := fun vs H Q _ => ∃ (s : Nat) (a b : Int), vs = [.int s, .int a, .int b] ∧ Q (.bl (btr s a b)) H
theorem ok_better (T : Txt K mg) : FnOk P w K mg base CX0 1 (a_better K) T.fd_better p_better spBetter := by
  refine T.F_better.ok sc_better (fun vs H Q E h => ?_) (fun cdv A outer s H vs Q E hr h => ⟨_, PSs.nox (pss_one (ps_ret (pe_ifExp (pt_cmpR op_eq (pv 0) (pe_glob (v := .int 0) rfl T.c_HUNTERS_TURN ⟨_, rfl⟩) (nomark _)) (pe_cmpR op_gt (pv 1) (pv 2) (nomark _)) (pe_cmpR op_lt (pv 1) (pv 2) (nomark _))))), ?_⟩)
  · obtain ⟨s, a, b, rfl, _⟩ := h
    rfl
  · obtain ⟨s, a, b, rfl, k⟩ := h
    unfold btr at k
    refine ⟨_, rfl, rfl, _, rfl, ?_⟩
    rw [show decide (V.int (s : Nat) = V.int 0) = (s == 0) from nat_dec (b := 0)]
    refine ifB (fun h1 => ?_) fun h1 => ?_
    · rw [if_pos (beq_iff_eq.mp h1)] at k
      exact ⟨_, rfl, _, rfl, _, _, rfl, rfl, k⟩
    · rw [if_neg (beq_eq_false_iff_ne.mp h1)] at k
      exact ⟨_, rfl, _, rfl, _, _, rfl, rfl, k⟩
/-- what is found -/
def FouI (K : PySem.W.Frag) (H : Hp) (o : Nat) (v : V) (x : Int × List (List Nat)) : Prop := ∃ (f dx rw : Addr) (us : List V), v = .ref f ∧ H f = some (.ins (c_Found K) dx (fouF (.int o) (.int x.1) (.ref rw))) ∧ H rw = some (.lst us) ∧ All2 (LsI H) us x.2
theorem FouI.mono {H H' : Hp} (s : Same H H') {o : Nat} {v : V} {x : Int × List (List Nat)} (h : FouI K H o v x) : FouI K H' o v x := by
  obtain ⟨f, dx, rw, us, e, h1, h2, t⟩ := h
  exact ⟨f, dx, rw, us, e, s _ _ h1, s _ _ h2, t.mono fun _ _ => LsI.mono s⟩
def spFirst (K : PySem.W.Frag) : Sp := fun vs H Q _ => ∃ (s : Nat) (D : Addr) (us : List V) (xs : List (Int × List (List Nat))), vs = [.int s, .ref D] ∧ H D = some (.lst us) ∧ All2 (FouI K H 0) us xs ∧ xs ≠ [] ∧ ∀ j v, FB s (xs.map fun x => x.1) j → us[j]? = some v → Q v H
theorem ok_first_best (T : Txt K mg) : FnOk P w K mg base CX0 2 (a_first_best K) T.fd_first_best p_first_best (spFirst K) := by
  refine T.F_first_best.ok sc_first_best (fun vs H Q E h => ?_) (fun cdv A outer s H vs Q E hr h => ⟨_, PSs.nox (pss_cons (ps_set (i := 2) sc_first_best.nd rfl (Or.inl rfl) (pe_ix ix_list (pv 1) pe_int (fun _ _ => rfl)))
      (pss_cons (ps_for PassesOwn.never rfl (pi_list (pv 1)) (pg_name (i := 3) sc_first_best.nd rfl (Or.inl rfl)) (pss_one (ps_if (pt_val (pe_call (ok_better T) (hr.mono (by decide)) rfl T.g_better T.F_better.kp (b_better T) .nil pass0 (pa_cons (pv 0) (pa_cons (pe_fld (pv 3) rfl) (pa_cons (pe_fld (pv 2) rfl) pa_nil))))) (pss_one (ps_set (i := 2) sc_first_best.nd rfl (Or.inl rfl) (pv 3))) pss_nil)))
      (pss_one (ps_ret (pv 2))))), ?_⟩)
  · obtain ⟨s, D, us, xs, rfl, _⟩ := h
    rfl
  · obtain ⟨s, D, us, xs, rfl, hD, TU, hne, k⟩ := h
    have hpos : 0 < xs.length := List.length_pos_iff.mpr hne
    obtain ⟨v0, hv0, _⟩ := TU.by (i := 0) (List.getElem?_eq_getElem hpos)
    refine ⟨_, rfl, D, _, 0, _, rfl, rfl, SqL.of hD, atI_nat (j := 0) hv0, ?_⟩
    refine ⟨_, rfl, D, rfl, ⟨_, SqL.of hD⟩, ?_⟩
    have m1 : max 0 1 = 1 := rfl
    refine for_list (K := K) (a := D) (xs := us) (fun i σ H2 => H2 = H ∧ ∃ (j : Nat) (v : V) (fv : Option V), σ = [some (.int s), some (.ref D), some v, fv] ∧ us[j]? = some v ∧ FB s ((xs.take (max i 1)).map fun x => x.1) j) ⟨rfl, 0, v0, none, rfl, hv0, ?_⟩ ?_ ?_ ?_
    · cases xs with
      | nil => exact absurd rfl hne
      | cons x xs => exact FB.one s x.1
    · rintro i σ H2 _ ⟨rfl, _⟩
      exact SqL.of hD
    · rintro i y σ H2 hy ⟨rfl, j, v, fv, rfl, hj, F⟩
      obtain ⟨x, hx, f, dx, rw, ls, rfl, h1, h2, t⟩ := TU.at hy
      obtain ⟨x', hx', f', dx', rw', ls', rfl, h1', h2', t'⟩ := TU.at hj
      have hb : x'.1 = Tafl.bestOf s ((xs.take (max i 1)).map fun x => x.1) := by
        have y := F.at_
        rw [List.getElem?_map] at y
        have hjl := F.lt
        rw [List.length_map, List.length_take] at hjl
        rw [List.getElem?_take_of_lt (by omega), hx'] at y
        exact Option.some.inj y
      refine ⟨_, rfl, _, rfl, f, _, dx, _, _, rfl, h1, T.cl_Found, T.na_Found_worth, rfl, _, rfl, f', _, dx', _, _, rfl, h1', T.cl_Found, T.na_Found_worth, rfl, s, x.1, x'.1, rfl, _, rfl, ?_⟩
      by_cases hi : i = 0
      · subst hi
        -- the first is no better than itself
        have hl : (xs.take 1).map (fun x => x.1) = [x.1] := by
          cases xs with
          | nil => cases hx
          | cons a l =>
            cases hx
            rfl
        have F1 : FB s ((xs.take 1).map fun x => x.1) j := F
        have hb1 : x'.1 = Tafl.bestOf s ((xs.take 1).map fun x => x.1) := hb
        have hnb : btr s x.1 x'.1 = false := by
          rw [hb1]
          exact F1.all x.1 (by rw [hl]; exact List.mem_singleton.mpr rfl)
        rw [hnb]
        exact ifF rfl ⟨rfl, j, _, _, rfl, hj, F1⟩
      · have hm : max i 1 = i := by omega
        have hm2 : max (i + 1) 1 = i + 1 := by omega
        rw [hm] at F hb
        have e : (xs.take (i + 1)).map (fun x => x.1) = (xs.take i).map (fun x => x.1) ++ [x.1] := by
          rw [List.take_add_one, hx, List.map_append]
          rfl
        rw [hm2, e, hb]
        refine ifB (fun h3 => ?_) fun h3 => ?_
        · have hil : ((xs.take i).map fun x => x.1).length = i := by
            have y := (List.getElem?_eq_some_iff.mp hx).1
            rw [List.length_map, List.length_take]
            omega
          have FN := F.new h3
          rw [hil] at FN
          exact ⟨_, rfl, rfl, i, _, _, rfl, hy, FN⟩
        · exact ⟨rfl, j, _, _, rfl, hj, F.keep h3⟩
    · rintro σ H2 ⟨rfl, j, v, fv, rfl, hj, F⟩
      have e : xs.take (max us.length 1) = xs := List.take_of_length_le (by rw [TU.len]; omega)
      rw [e] at F
      exact ⟨_, rfl, k j v F hj⟩
end
end Tf
set_option Elab.async false
set_option linter.all false
set_option maxRecDepth 100000
set_option maxHeartbeats 16000000
/-! Looking ahead. -/
namespace Tf
open PySem PySem.Spec PyProof.Rows L2 TfX TfM
section
variable {P : Program} {w : World} {K : PySem.W.Frag} {mg : Str → Option Value} {base : Heap}
/-- G' within H' holds what G had, and new things alone -/
structure Gr (G H G' H' : Hp) : Prop where
  up : Same G G'
  sub : Same G' H'
  off : ∀ a, G a = none → H a ≠ none → G' a = none
theorem Gr.add {G H G' H' H'' : Hp} {D : Addr} {o : HO} (g : Gr G H G' H') (t : Same H' H'') (nG : G D = none) (hD : H D = none) (h : H'' D = some o) : Gr G H (L2.upd G' D o) H'' := by
  refine ⟨fun a u hu => ?_, Same.grow g.sub t h, fun a h1 h2 => ?_⟩
  · rw [upd_ne (ne_of_none hu nG)]
    exact g.up _ _ hu
  · have e : a ≠ D := fun e => h2 (by rw [e]; exact hD)
    rw [upd_ne e]
    exact g.off a h1 h2
theorem Gr.start {G H H' : Hp} (s : Same G H) (t : Same H H') : Gr G H G H' := ⟨Same.refl G, s.trans t, fun _ h _ => h⟩
theorem Gr.trans {G H G1 H1 G2 H2 : Hp} (a : Gr G H G1 H1) (b : Gr G1 H1 G2 H2) (k : ∀ x, H x ≠ none → H1 x ≠ none) : Gr G H G2 H2 := ⟨a.up.trans b.up, b.sub, fun x h1 h2 => b.off x (a.off x h1 h2) (k x h2)⟩
structure SeaS (K : PySem.W.Frag) (G H : Hp) (s dxs h dxh : Addr) (ru : Tafl.Rules) (r : HR) (wt : Addr) (W : Tafl.Weights) (L : Int) : Prop where
  sub : Same G H
  ns : G s = none
  ins : H s = some (.ins (c_Search K) dxs (seaF (.ref h) (.ref wt) (.int L)))
  x : HallAt K G h dxh ru r
  f : Fine ru
  w : G wt = some (.lst (wv3 W))
  wr : W.right = true
  nn : 0 ≤ L
theorem leaf {G H : Hp} {s dxs h dxh : Addr} {ru : Tafl.Rules} {r : HR} {wt : Addr} {W : Tafl.Weights} {L : Int} (S : SeaS K G H s dxs h dxh ru r wt W L) {H1 H3 : Hp} {rw f dxf : Addr} {o : Nat} {wv : Int} (s1 : Same H H1) (nrw : H1 rw = none) (nf : L2.upd H1 rw (.lst []) f = none) (ndf : L2.upd H1 rw (.lst []) dxf = none)
    (b3 : But f (L2.upd (L2.upd (L2.upd H1 rw (.lst [])) dxf (.own f)) f (.ins (c_Found K) dxf [])) H3) (h3 : H3 f = some (.ins (c_Found K) dxf (fouF (.int o) (.int wv) (.ref rw)))) :
    ∃ G2, Gr G H G2 H3 ∧ But s H H3 ∧ H3 s = some (.ins (c_Search K) dxs (seaF (.ref h) (.ref wt) (.int (L - ((0 : Nat) : Int))))) ∧ FouI K G2 o (.ref f) (wv, []) := by
  have s3 := made_same nf ndf b3
  have s0 : Same H H3 := (s1.trans (Same.upd nrw)).trans s3
  have nrwH := s1.free nrw
  have nfH := s1.free (Same.free (Same.upd nrw) nf)
  have g1 := (Gr.start S.sub s1).add (Same.upd nrw) (S.sub.free nrwH) nrwH (upd_same (o := .lst []))
  have g2 := g1.add s3 (S.sub.free nfH) nfH h3
  have nfr : rw ≠ f := fun e => by rw [← e, upd_same] at nf; cases nf
  refine ⟨_, g2, Same.toBut s0, ?_, f, dxf, rw, [], rfl, upd_same, ?_, .nil⟩
  · rw [show L - ((0 : Nat) : Int) = L by omega]
    exact s0 _ _ S.ins
  · rw [upd_ne nfr, upd_same]
def spLook (K : PySem.W.Frag) (n : Nat) : Sp := fun vs H Q E => ∃ (G : Hp) (s dxs h dxh : Addr) (ru : Tafl.Rules) (r : HR) (wt : Addr) (W : Tafl.Weights) (L : Int) (q dx pb : Addr) (p : Tafl.Pos) (d : Nat), vs = [.ref s, .ref q, .int n, .int d] ∧ SeaS K G H s dxs h dxh ru r wt W L ∧ PosAt K G q dx pb p ∧ Good ru p ∧
  (L < cnt ru n p → ∀ H', But s H H' → E (.ref (c_TooManyMoves K)) none H') ∧
  ((cnt ru n p : Int) ≤ L → ∀ G' H' v, Gr G H G' H' → But s H H' → H' s = some (.ins (c_Search K) dxs (seaF (.ref h) (.ref wt) (.int (L - cnt ru n p)))) → FouI K G' (ru.over p) v (ru.worth W n d p, rows ru W n d p) → Q v H')
def spEach (K : PySem.W.Frag) (n : Nat) : Sp := fun vs H Q E => ∃ (G : Hp) (s dxs h dxh : Addr) (ru : Tafl.Rules) (r : HR) (wt : Addr) (W : Tafl.Weights) (L : Int) (q dx pb : Addr) (p : Tafl.Pos) (d : Nat), vs = [.ref s, .ref q, .int ((n + 1 : Nat) : Int), .int d] ∧ SeaS K G H s dxs h dxh ru r wt W L ∧ PosAt K G q dx pb p ∧ Good ru p ∧
  (L < cnt ru (n + 1) p → ∀ H', But s H H' → E (.ref (c_TooManyMoves K)) none H') ∧
  ((cnt ru (n + 1) p : Int) ≤ L → ∀ G' H' D us, Gr G H G' H' → But s H H' → H' s = some (.ins (c_Search K) dxs (seaF (.ref h) (.ref wt) (.int (L - cnt ru (n + 1) p)))) → G' D = some (.lst us) → All2 (FouI K G' 0) us ((ru.moves p).map (tryL ru W n d p)) → Q (.ref D) H')
theorem over_dec {o : Nat} : (!decide (V.int (o : Nat) = V.int 0)) = !(o == 0) := by
  congr 1
  exact nat_dec (b := 0)
theorem ok_look0 (T : Txt K mg) : FnOk P w K mg base (L2.CX P w) 6 (a_Search_look K) T.fd_Search_look p_Search_look (spLook K 0) := by
  refine T.F_Search_look.ok sc_Search_look (fun vs H Q E h => ?_) (fun cdv A outer sh H vs Q E hr h => ⟨_, (pss_cons (ps_set (i := 4) sc_Search_look.nd rfl (Or.inl rfl) (pe_call (ok_over T) (hr.mono (by decide)) rfl T.g_over T.F_over.kp (b_over T) .nil pass0 (pa_cons (pe_fld (pv 0) rfl) (pa_cons (pv 1) pa_nil))))
      (pss_cons (ps_if (pt_cmpR op_ne (pv 4) (pe_glob (v := .int 0) rfl T.c_GOING_ON ⟨_, rfl⟩) (nomark _)) (pss_one (ps_ret (pe_make T.mk_Found (ok_Found_init T) (hr.mono (by decide)) rfl T.gc_Found (b_Found_init T) .nil pass0 (pa_cons (pv 4) (pa_cons (pe_call (ok_end_worth T) (hr.mono (by decide)) rfl T.g_end_worth T.F_end_worth.kp (b_end_worth T) .nil pass0 (pa_cons (pv 4) (pa_cons (pe_fld (pv 1) rfl) (pa_cons (pv 3) pa_nil)))) (pa_cons (pe_lst pa_nil) pa_nil)))))) pss_nil)
      (pss_cons (ps_if (pt_cmpR op_eq (pv 2) pe_int (nomark _)) (pss_one (ps_ret (pe_make T.mk_Found (ok_Found_init T) (hr.mono (by decide)) rfl T.gc_Found (b_Found_init T) .nil pass0 (pa_cons (pe_glob (v := .int 0) rfl T.c_GOING_ON ⟨_, rfl⟩) (pa_cons (pe_call (ok_weighed T) (hr.mono (by decide)) rfl T.g_weighed T.F_weighed.kp (b_weighed T) .nil pass0 (pa_cons (pe_fld (pv 0) rfl) (pa_cons (pv 1) (pa_cons (pe_fld (pv 0) rfl) pa_nil)))) (pa_cons (pe_lst pa_nil) pa_nil)))))) pss_nil)
      (pss_one (ps_ret (pe_call (ok_first_best T) (hr.mono (by decide)) rfl T.g_first_best T.F_first_best.kp (b_first_best T) .nil pass0 (pa_cons (pe_fld (pv 1) rfl) (pa_cons (pe_meth (pv 0) T.cl_Search T.mt_Search_look_by_each (TfX.FnOk.vacuous (k := 0)) (hr.mono (by decide)) (b_Search_look_by_each T) .nil (passes_call (takes_of rfl rfl rfl rfl) (fun _ _ _ _ h => h)) (pa_cons (pv 1) (pa_cons (pv 2) (pa_cons (pv 3) pa_nil)))) pa_nil)))))))), ?_⟩)
  · obtain ⟨G, s, dxs, h, dxh, ru, r, wt, W, L, q, dx, pb, p, d, rfl, _⟩ := h
    rfl
  · obtain ⟨G, s, dxs, h, dxh, ru, r, wt, W, L, q, dx, pb, p, d, rfl, S, Y, Gd, kE, kQ⟩ := h
    have X := S.x.same S.sub
    have YH := Y.same S.sub
    refine ⟨_, rfl, s, _, dxs, _, _, rfl, S.ins, T.cl_Search, T.na_Search_hall, rfl, _, rfl, h, dxh, ru, r, q, dx, pb, p, rfl, X, S.f, YH, Gd, fun H1 s1 => ?_⟩
    have Y1 := YH.same s1
    refine ⟨_, rfl, rfl, _, rfl, ?_⟩
    rw [over_dec]
    refine ifB (fun h1 => ?_) fun h1 => ?_
    · have ho : ru.over p ≠ 0 := fun y => by rw [y] at h1; cases h1
      obtain ⟨e1, e2⟩ := worth_over (w := W) ho 0 d
      have e3 := cnt_over ho 0
      rw [e1, e2, e3] at kQ
      refine ⟨_, rfl, _, rfl, _, rfl, q, _, dx, _, _, rfl, Y1.ins, T.cl_Position, T.na_Position_turn, rfl, _, rfl, ru, p, d, rfl, ho, Gd.sd, Nat.zero_le _, fun rw nrw => fun f dxf nf ndf nef => ⟨f, dxf, _, _, _, rfl, upd_same, fun H3 h3 b3 => ⟨rfl, ?_⟩⟩⟩
      obtain ⟨G2, g2, b2, hs2, fo⟩ := leaf S s1 nrw nf ndf b3 h3
      exact kQ S.nn G2 H3 _ g2 b2 hs2 fo
    · have ho : ru.over p = 0 := by
        have y : (ru.over p == 0) = true := by simpa using h1
        exact beq_iff_eq.mp y
      have e1 : ru.worth W 0 d p = ru.weigh W p := by rw [Tafl.Rules.worth, if_neg (fun y => y ho)]
      have e3 : cnt ru 0 p = 0 := rfl
      have e4 : rows ru W 0 d p = [] := rfl
      rw [e1, e3, e4, ho] at kQ
      have X1 := X.same s1
      refine ⟨_, rfl, rfl, _, rfl, ifT rfl ?_⟩
      refine ⟨_, rfl, s, _, dxs, _, _, rfl, s1 _ _ S.ins, T.cl_Search, T.na_Search_hall, rfl, _, rfl, _, rfl, s, _, dxs, _, _, rfl, s1 _ _ S.ins, T.cl_Search, T.na_Search_weights, rfl, h, dxh, ru, r, q, dx, pb, wt, p, W, rfl, X1, S.f, Y1, Gd, s1 _ _ (S.sub _ _ S.w), S.wr, fun H2 s2 => ?_⟩
      refine ⟨Nat.zero_le _, fun rw nrw => fun f dxf nf ndf nef => ⟨f, dxf, _, _, _, rfl, upd_same, fun H3 h3 b3 => ⟨rfl, ?_⟩⟩⟩
      obtain ⟨G2, g2, b2, hs2, fo⟩ := leaf (o := 0) S (s1.trans s2) nrw nf ndf b3 h3
      exact kQ S.nn G2 H3 _ g2 b2 hs2 fo
theorem ok_lookS (T : Txt K mg) {n k : Nat} (hk : 6 ≤ k) (LB : FnOk P w K mg base (L2.CX P w) k (a_Search_look_by_each K) T.fd_Search_look_by_each p_Search_look_by_each (spEach K n)) : FnOk P w K mg base (L2.CX P w) (k + 1) (a_Search_look K) T.fd_Search_look p_Search_look (spLook K (n + 1)) := by
  refine T.F_Search_look.ok sc_Search_look (fun vs H Q E h => ?_) (fun cdv A outer sh H vs Q E hr h => ⟨_, (pss_cons (ps_set (i := 4) sc_Search_look.nd rfl (Or.inl rfl) (pe_call (ok_over T) (hr.mono (by omega)) rfl T.g_over T.F_over.kp (b_over T) .nil pass0 (pa_cons (pe_fld (pv 0) rfl) (pa_cons (pv 1) pa_nil))))
      (pss_cons (ps_if (pt_cmpR op_ne (pv 4) (pe_glob (v := .int 0) rfl T.c_GOING_ON ⟨_, rfl⟩) (nomark _)) (pss_one (ps_ret (pe_make T.mk_Found (ok_Found_init T) (hr.mono (by omega)) rfl T.gc_Found (b_Found_init T) .nil pass0 (pa_cons (pv 4) (pa_cons (pe_call (ok_end_worth T) (hr.mono (by omega)) rfl T.g_end_worth T.F_end_worth.kp (b_end_worth T) .nil pass0 (pa_cons (pv 4) (pa_cons (pe_fld (pv 1) rfl) (pa_cons (pv 3) pa_nil)))) (pa_cons (pe_lst pa_nil) pa_nil)))))) pss_nil)
      (pss_cons (ps_if (pt_cmpR op_eq (pv 2) pe_int (nomark _)) (pss_one (ps_ret (pe_make T.mk_Found (ok_Found_init T) (hr.mono (by omega)) rfl T.gc_Found (b_Found_init T) .nil pass0 (pa_cons (pe_glob (v := .int 0) rfl T.c_GOING_ON ⟨_, rfl⟩) (pa_cons (pe_call (ok_weighed T) (hr.mono (by omega)) rfl T.g_weighed T.F_weighed.kp (b_weighed T) .nil pass0 (pa_cons (pe_fld (pv 0) rfl) (pa_cons (pv 1) (pa_cons (pe_fld (pv 0) rfl) pa_nil)))) (pa_cons (pe_lst pa_nil) pa_nil)))))) pss_nil)
      (pss_one (ps_ret (pe_call (ok_first_best T) (hr.mono (by omega)) rfl T.g_first_best T.F_first_best.kp (b_first_best T) .nil pass0 (pa_cons (pe_fld (pv 1) rfl) (pa_cons (pe_meth (pv 0) T.cl_Search T.mt_Search_look_by_each LB (hr.mono (by omega)) (b_Search_look_by_each T) .nil (passes_call (takes_of rfl rfl rfl rfl) (fun _ _ _ _ h => h)) (pa_cons (pv 1) (pa_cons (pv 2) (pa_cons (pv 3) pa_nil)))) pa_nil)))))))), ?_⟩)
  · obtain ⟨G, s, dxs, h, dxh, ru, r, wt, W, L, q, dx, pb, p, d, rfl, _⟩ := h
    rfl
  · obtain ⟨G, s, dxs, h, dxh, ru, r, wt, W, L, q, dx, pb, p, d, rfl, S, Y, Gd, kE, kQ⟩ := h
    have X := S.x.same S.sub
    have YH := Y.same S.sub
    refine ⟨_, rfl, s, _, dxs, _, _, rfl, S.ins, T.cl_Search, T.na_Search_hall, rfl, _, rfl, h, dxh, ru, r, q, dx, pb, p, rfl, X, S.f, YH, Gd, fun H1 s1 => ?_⟩
    have Y1 := YH.same s1
    refine ⟨_, rfl, rfl, _, rfl, ?_⟩
    rw [over_dec]
    refine ifB (fun h1 => ?_) fun h1 => ?_
    · have ho : ru.over p ≠ 0 := fun y => by rw [y] at h1; cases h1
      obtain ⟨e1, e2⟩ := worth_over (w := W) ho (n + 1) d
      have e3 := cnt_over ho (n + 1)
      rw [e1, e2, e3] at kQ
      refine ⟨_, rfl, _, rfl, _, rfl, q, _, dx, _, _, rfl, Y1.ins, T.cl_Position, T.na_Position_turn, rfl, _, rfl, ru, p, d, rfl, ho, Gd.sd, Nat.zero_le _, fun rw nrw => fun f dxf nf ndf nef => ⟨f, dxf, _, _, _, rfl, upd_same, fun H3 h3 b3 => ⟨rfl, ?_⟩⟩⟩
      obtain ⟨G2, g2, b2, hs2, fo⟩ := leaf S s1 nrw nf ndf b3 h3
      exact kQ S.nn G2 H3 _ g2 b2 hs2 fo
    · have ho : ru.over p = 0 := by
        have y : (ru.over p == 0) = true := by simpa using h1
        exact beq_iff_eq.mp y
      rw [ho] at kQ
      refine ⟨_, rfl, rfl, _, rfl, ?_⟩
      have e0 : decide (V.int ((n + 1 : Nat) : Int) = V.int 0) = false := (nat_dec (a := n + 1) (b := 0)).trans rfl
      rw [e0]
      refine ifF rfl ?_
      have S1 : SeaS K G H1 s dxs h dxh ru r wt W L := ⟨S.sub.trans s1, S.ns, s1 _ _ S.ins, S.x, S.f, S.w, S.wr, S.nn⟩
      refine ⟨_, rfl, q, _, dx, _, _, rfl, Y1.ins, T.cl_Position, T.na_Position_turn, rfl, _, rfl, s, dxs, _, rfl, S1.ins, rfl, _, rfl, _, rfl, _, rfl, G, s, dxs, h, dxh, ru, r, wt, W, L, q, dx, pb, p, d, rfl, S1, Y, Gd, fun hl H2 b2 => kE hl H2 (Same.but s1 b2), fun hl G2 H2 D us g2 b2 hs2 hD TU => ?_⟩
      have hne : (ru.moves p).map (tryL ru W n d p) ≠ [] := fun y => moves_over ho (List.map_eq_nil_iff.mp y)
      refine ⟨p.side, D, us, (ru.moves p).map (tryL ru W n d p), rfl, g2.sub _ _ hD, TU.mono fun _ _ => FouI.mono g2.sub, hne, fun j v F hj => ?_⟩
      rw [List.map_map] at F
      obtain ⟨m, hm, et⟩ := worth_best ho F
      obtain ⟨b, hb, fo⟩ := TU.at hj
      rw [List.getElem?_map, hm] at hb
      have hb : tryL ru W n d p m = b := Option.some.inj hb
      rw [← hb, et] at fo
      refine kQ hl G2 H2 v ⟨g2.up, g2.sub, fun a h1 h2 => g2.off a h1 fun y => h2 (s1.free y)⟩ (Same.but s1 b2) hs2 fo
end
end Tf
set_option Elab.async false
set_option linter.all false
set_option maxRecDepth 100000
set_option maxHeartbeats 16000000
/-! Looking by each move. -/
namespace Tf
open PySem PySem.Spec PyProof.Rows L2 TfX TfM
section
variable {P : Program} {w : World} {K : PySem.W.Frag} {mg : Str → Option Value} {base : Heap}
theorem sum_take : ∀ (l : List Nat) (i x : Nat), l[i]? = some x → (l.take (i + 1)).sum = (l.take i).sum + x ∧ (l.take i).sum + x ≤ l.sum
  | [], i, x, h => by cases h
  | a :: l, 0, x, h => by
    cases h
    rw [List.take_succ_cons, List.take_zero, List.take_zero, List.sum_cons, List.sum_cons]
    simp
  | a :: l, i + 1, x, h => by
    obtain ⟨h1, h2⟩ := sum_take l i x h
    rw [List.take_succ_cons, List.take_succ_cons, List.sum_cons, List.sum_cons, List.sum_cons, h1]
    omega
/-- what is new is put to G -/
def frG (H G' H3 : Hp) (D : Addr) : Hp := fun a => open Classical in if a = D then none else if H a = none then H3 a else G' a
theorem frG_D {H G' H3 : Hp} {D : Addr} : frG H G' H3 D D = none := by
  unfold frG
  rw [if_pos rfl]
theorem frG_new {H G' H3 : Hp} {D a : Addr} (h1 : a ≠ D) (h2 : H a = none) : frG H G' H3 D a = H3 a := by
  unfold frG
  rw [if_neg h1, if_pos h2]
theorem frG_old {H G' H3 : Hp} {D a : Addr} (h1 : a ≠ D) (h2 : H a ≠ none) : frG H G' H3 D a = G' a := by
  unfold frG
  rw [if_neg h1, if_neg h2]
theorem frG_up {H G' H3 : Hp} {D : Addr} (nD : G' D = none) (s : Same G' H3) : Same G' (frG H G' H3 D) := fun a o h => by
  have e : a ≠ D := ne_of_none h nD
  by_cases h2 : H a = none
  · rw [frG_new e h2]
    exact s _ _ h
  · rw [frG_old e h2]
    exact h
theorem frG_sub {H G' H3 : Hp} {D : Addr} (s : Same G' H3) : Same (frG H G' H3 D) H3 := fun a o h => by
  by_cases e : a = D
  · rw [e, frG_D] at h
    cases h
  · by_cases h2 : H a = none
    · rw [frG_new e h2] at h
      exact h
    · rw [frG_old e h2] at h
      exact s _ _ h
theorem frG_off {G H G' H3 : Hp} {D : Addr} (off : ∀ a, G a = none → H a ≠ none → G' a = none) : ∀ a, G a = none → H a ≠ none → frG H G' H3 D a = none := fun a h1 h2 => by
  by_cases e : a = D
  · rw [e, frG_D]
  · rw [frG_old e h2]
    exact off a h1 h2
theorem told_iv {ru : Tafl.Rules} {p : Tafl.Pos} {m : Nat × Nat} : [V.int (m.1 : Nat), V.int (m.2 : Nat), V.int (ru.over (ru.comes p m) : Nat)] ++ iv (ru.takes p m) = iv (TaflLook.toldMove ru p m) := rfl
theorem ok_each (T : Txt K mg) {n k : Nat} (hn : n ≤ 4) (hk : 6 ≤ k) (LK : FnOk P w K mg base (L2.CX P w) k (a_Search_look K) T.fd_Search_look p_Search_look (spLook K n)) : FnOk P w K mg base (L2.CX P w) (k + 1) (a_Search_look_by_each K) T.fd_Search_look_by_each p_Search_look_by_each (spEach K n) := by
  refine T.F_Search_look_by_each.ok sc_Search_look_by_each (fun vs H Q E h => ?_) (fun cdv A outer sh H vs Q E hr h => ⟨_, (pss_cons (ps_set (i := 4) sc_Search_look_by_each.nd rfl (Or.inl rfl) (pe_call (ok_moves T) (hr.mono (by omega)) rfl T.g_moves T.F_moves.kp (b_moves T) .nil pass0 (pa_cons (pe_fld (pv 0) rfl) (pa_cons (pv 1) pa_nil))))
      (pss_cons (ps_fldaug (pv 0) (pe_callB call_len_seq (by rfl) T.m_len (by decide +kernel) (pa_cons (pv 4) pa_nil)) in_sub)
      (pss_cons (ps_if (pt_cmpR op_lt (pe_fld (pv 0) rfl) pe_int (nomark _)) (pss_one (ps_raise rfl (takes_of rfl rfl rfl rfl) (pmk_own0 T.y_TooManyMoves T.gc_TooManyMoves (by rfl)))) pss_nil)
      (pss_cons (ps_set (i := 5) sc_Search_look_by_each.nd rfl (Or.inl rfl) (pe_lst pa_nil))
      (pss_cons (ps_for (passes_of rfl) rfl (pi_list (pv 4)) (pg_tup rfl (pgs_cons (pg_name (i := 6) sc_Search_look_by_each.nd rfl (Or.inl rfl)) (pgs_cons (pg_name (i := 7) sc_Search_look_by_each.nd rfl (Or.inl rfl)) pgs_nil))) (pss_cons (ps_set (i := 8) sc_Search_look_by_each.nd rfl (Or.inl rfl) (pe_call (ok_make T) (hr.mono (by omega)) rfl T.g_make T.F_make.kp (b_make T) .nil pass0 (pa_cons (pe_fld (pv 0) rfl) (pa_cons (pv 1) (pa_cons (pv 6) (pa_cons (pv 7) pa_nil))))))
      (pss_cons (ps_set (i := 9) sc_Search_look_by_each.nd rfl (Or.inl rfl) (pe_meth (pv 0) T.cl_Search T.mt_Search_look LK (hr.mono (by omega)) (b_Search_look T) .nil (passes_call (takes_of rfl rfl rfl rfl) (fun _ _ _ _ h => h)) (pa_cons (pe_fld (pv 8) rfl) (pa_cons (pe_op op_sub (pv 2) pe_int) (pa_cons (pe_op op_add (pv 3) pe_int) pa_nil)))))
      (pss_cons (ps_set (i := 10) sc_Search_look_by_each.nd rfl (Or.inl rfl) (pe_op op_cat (pe_lst (pa_cons (pv 6) (pa_cons (pv 7) (pa_cons (pe_fld (pv 9) rfl) pa_nil)))) (pe_fld (pv 8) rfl)))
      (pss_one (ps_expr (pe_bm PySem.F.plainAttrs_list PySem.F.slot_list_append PySem.F.type_list_append mt_append (pv 5) (pa_cons (pe_make T.mk_Found (ok_Found_init T) (hr.mono (by omega)) rfl T.gc_Found (b_Found_init T) .nil pass0 (pa_cons (pe_glob (v := .int 0) rfl T.c_GOING_ON ⟨_, rfl⟩) (pa_cons (pe_fld (pv 9) rfl) (pa_cons (pe_op op_cat (pe_lst (pa_cons (pv 10) pa_nil)) (pe_fld (pv 9) rfl)) pa_nil)))) pa_nil))))))))
      (pss_one (ps_ret (pv 5)))))))), ?_⟩)
  · obtain ⟨G, s, dxs, h, dxh, ru, r, wt, W, L, q, dx, pb, p, d, rfl, _⟩ := h
    rfl
  · obtain ⟨G, s, dxs, h, dxh, ru, r, wt, W, L, q, dx, pb, p, d, rfl, S, Y, Gd, kE, kQ⟩ := h
    have X := S.x.same S.sub
    have YH := Y.same S.sub
    have F := S.f
    have hcnt : cnt ru (n + 1) p = (ru.moves p).length + ((ru.moves p).map fun m => cnt ru n (ru.comes p m)).sum := rfl
    refine ⟨_, rfl, s, _, dxs, _, _, rfl, S.ins, T.cl_Search, T.na_Search_hall, rfl, _, rfl, h, dxh, ru, r, q, dx, pb, p, rfl, X, F, YH, Gd, fun H1 C us s1 nC hC TU hml => ?_⟩
    have hul : us.length = (ru.moves p).length := TU.len
    have hs1 := s1 _ _ S.ins
    refine ⟨_, rfl, s, _, dxs, _, _, rfl, hs1, T.cl_Search, T.na_Search_left, rfl, _, rfl, C, _, rfl, .inl (SqL.of hC), _, _, rfl, rfl, dxs, _, hs1, (by show 3 < 1000; decide), ?_⟩
    generalize hH2 : L2.upd H1 s _ = H2
    have hs2 : H2 s = some (.ins (c_Search K) dxs (seaF (.ref h) (.ref wt) (.int (L - (us.length : Nat))))) := by rw [← hH2]; exact upd_same
    have b2 : But s H1 H2 := by rw [← hH2]; exact But.upd
    clear hH2
    refine ⟨_, rfl, s, _, dxs, _, _, rfl, hs2, T.cl_Search, T.na_Search_left, rfl, _, _, rfl, rfl, _, rfl, ?_⟩
    refine ifB (fun c1 => ?_) fun c1 => ?_
    · have hlt : L - (us.length : Nat) < 0 := of_decide_eq_true c1
      exact kE (by rw [hcnt]; omega) H2 (Same.but s1 b2)
    have hge : ¬ L - (us.length : Nat) < 0 := of_decide_eq_false c1
    refine ⟨Nat.zero_le _, fun D nD => ?_⟩
    have nDs : D ≠ s := fun e => by rw [e, hs2] at nD; cases nD
    have nD1 : H1 D = none := (b2.free (by rw [hs2]; exact Option.some_ne_none _) nD).2
    have nDH : H D = none := s1.free nD1
    have nDG : G D = none := S.sub.free nDH
    have sG1 : Same G H1 := S.sub.trans s1
    have b3 : But s H1 (L2.upd H2 D (.lst [])) := b2.same (Same.upd nD)
    have sG3 : Same G (L2.upd H2 D (.lst [])) := fun a o ho => b3 _ _ (sG1 _ _ ho) (ne_of_none ho S.ns)
    have Ck : ∀ {H' : Hp}, But s H1 H' → H' C = some (.lst us) ∧ All2 (TpI H') us (ru.moves p) := fun {H'} b => by
      refine ⟨b _ _ hC (ne_of hC hs1 (by intro z; cases z)), TU.mono fun v x hx => ?_⟩
      obtain ⟨a, e, ha⟩ := hx
      exact ⟨a, e, b _ _ ha (ne_of ha hs1 (by intro z; cases z))⟩
    refine ⟨_, rfl, C, rfl, ⟨_, SqL.of (Ck b3).1⟩, ?_⟩
    refine for_list (K := K) (a := C) (xs := us) (fun i σ H' => ∃ (G' : Hp) (vs : List V) (x6 x7 x8 x9 x10 : Option V), σ = [some (.ref s), some (.ref q), some (.int ((n + 1 : Nat) : Int)), some (.int d), some (.ref C), some (.ref D), x6, x7, x8, x9, x10] ∧ But s H1 H' ∧ Gr G H G' H' ∧ G' D = none ∧
        H' s = some (.ins (c_Search K) dxs (seaF (.ref h) (.ref wt) (.int (L - (us.length : Nat) - ((((ru.moves p).map fun m => cnt ru n (ru.comes p m)).take i).sum : Nat))))) ∧ 0 ≤ L - (us.length : Nat) - ((((ru.moves p).map fun m => cnt ru n (ru.comes p m)).take i).sum : Nat) ∧ H' D = some (.lst vs) ∧ All2 (FouI K G' 0) vs (((ru.moves p).take i).map (tryL ru W n d p)))
      ⟨G, [], none, none, none, none, none, rfl, b3, ⟨Same.refl G, sG3, fun _ h _ => h⟩, nDG, ?_, ?_, upd_same, .nil⟩ ?_ ?_ ?_
    · rw [upd_ne (Ne.symm nDs), hs2, List.take_zero]
      show _ = some (HO.ins _ _ (seaF _ _ (V.int (L - (us.length : Nat) - ((0 : Nat) : Int)))))
      rw [show L - (us.length : Nat) - ((0 : Nat) : Int) = L - (us.length : Nat) by omega]
    · rw [List.take_zero]
      show 0 ≤ L - (us.length : Nat) - ((0 : Nat) : Int)
      omega
    · rintro i σ H' _ ⟨G', vs, x6, x7, x8, x9, x10, rfl, b', _⟩
      exact SqL.of (Ck b').1
    · rintro i y σ H' hy ⟨G', vs, x6, x7, x8, x9, x10, rfl, b', g', nDG', hs', hL', hD', TV⟩
      obtain ⟨m, hm, tp, rfl, htp⟩ := (Ck b').2.at hy
      have Lg := moves_mem F Gd (List.mem_of_getElem? hm)
      have hmi : i < us.length := (List.getElem?_eq_some_iff.mp hy).1
      have hvl : vs.length = i := by
        rw [TV.len, List.length_map, List.length_take]
        omega
      obtain ⟨st1, st2⟩ := sum_take ((ru.moves p).map fun m => cnt ru n (ru.comes p m)) i (cnt ru n (ru.comes p m)) (by rw [List.getElem?_map, hm]; rfl)
      have X' : HallAt K H' h dxh ru r := (S.x.same g'.up).same g'.sub
      have Y' : PosAt K H' q dx pb p := (Y.same g'.up).same g'.sub
      refine ⟨tp, _, rfl, SqT.of htp, rfl, _, _, rfl, _, _, rfl, rfl, ?_⟩
      refine ⟨_, rfl, s, _, dxs, _, _, rfl, hs', T.cl_Search, T.na_Search_hall, rfl, _, rfl, _, rfl, _, rfl, h, dxh, ru, r, q, dx, pb, p, m, rfl, X', F, Y', Gd, Lg, fun H3 md dm q' dq pb' tk s3 nq npb ntk hmd Y3 htk => ?_⟩
      have hs3 := s3 _ _ hs'
      have hD3 := s3 _ _ hD'
      have nsH' : H' s ≠ none := by rw [hs']; exact Option.some_ne_none _
      have fH : ∀ {a}, H' a = none → H a = none := fun {a} ha => s1.free ((b'.free nsH' ha).2)
      -- what the deeper look may rest on
      have sub3 := g'.sub.trans s3
      have up3 : Same G' (frG H G' H3 D) := frG_up nDG' sub3
      have gc : Gr G H (frG H G' H3 D) H3 := ⟨g'.up.trans up3, frG_sub sub3, frG_off g'.off⟩
      have hsn : H s ≠ none := by rw [S.ins]; exact Option.some_ne_none _
      have Sc : SeaS K (frG H G' H3 D) H3 s dxs h dxh ru r wt W (L - (us.length : Nat) - ((((ru.moves p).map fun m => cnt ru n (ru.comes p m)).take i).sum : Nat)) :=
        ⟨gc.sub, gc.off s S.ns hsn, hs3, S.x.same gc.up, F, gc.up _ _ S.w, S.wr, hL'⟩
      have Yc : PosAt K (frG H G' H3 D) q' dq pb' (ru.comes p m) := by
        refine ⟨?_, ?_⟩
        · rw [frG_new (ne_of Y3.ins hD3 (by intro z; cases z)) (fH nq)]
          exact Y3.ins
        · rw [frG_new (fun e => by rw [e, hD'] at npb; cases npb) (fH npb)]
          exact Y3.b
      have e1 : ((n + 1 : Nat) : Int) - 1 = (n : Nat) := by omega
      have e2 : (d : Int) + 1 = ((d + 1 : Nat) : Int) := by omega
      have eargs : [V.ref s, V.ref q', V.int (((n + 1 : Nat) : Int) - 1), V.int ((d : Int) + 1)] = [V.ref s, V.ref q', V.int (n : Nat), V.int ((d + 1 : Nat) : Int)] := by rw [e1, e2]
      have bH3 : But s H H3 := Same.but s1 (b'.same s3)
      refine ⟨_, rfl, s, dxs, _, rfl, hs3, rfl, _, rfl, md, _, dm, _, _, rfl, hmd, T.cl_Made, T.na_Made_position, rfl, _, rfl, _, _, rfl, rfl, _, rfl, _, _, rfl, rfl, frG H G' H3 D, s, dxs, h, dxh, ru, r, wt, W, _, q', dq, pb', ru.comes p m, d + 1, eargs, Sc, Yc, comes_good Gd Lg, fun hl H4 b4 => kE (by rw [hcnt]; omega) H4 (bH3.trans b4), fun hl G4 H4 v g4 b4 hs4 fo => ?_⟩
      have gg : Gr G H G4 H4 := gc.trans g4 fun a ha => by
        by_cases e : a = s
        · rw [e, hs3]
          exact Option.some_ne_none _
        · cases y : H a with
          | none => exact absurd y ha
          | some o =>
            rw [bH3 a o y e]
            exact Option.some_ne_none _
      have nD4 : G4 D = none := g4.off D frG_D (by rw [hD3]; exact Option.some_ne_none _)
      have hD4 : H4 D = some (.lst vs) := b4 _ _ hD3 nDs
      have b4' : But s H1 H4 := (b'.same s3).trans b4
      have fH4 : ∀ {a}, H4 a = none → H a = none := fun {a} ha => s1.free ((b4'.free (by rw [hs4]; exact Option.some_ne_none _) ha).2)
      obtain ⟨f, dxf, rw0, ls, rfl, hf, hrw, TL⟩ := fo
      have hf4 := g4.sub _ _ hf
      have hrw4 := g4.sub _ _ hrw
      have hmd4 : H4 md = some (.ins (c_Made K) dm (madF (.ref q') (.ref tk))) := b4 _ _ hmd (ne_of hmd hs3 (by intro z; injection z with z1 z2 z3; cases z3))
      have htk4 : H4 tk = some (.lst (iv (ru.takes p m))) := b4 _ _ htk (ne_of htk hs3 (by intro z; cases z))
      have tl := takes_len (ru := ru) (p := p) (m := m)
      have rl := rows_len ru W n (d + 1) (ru.comes p m)
      have lsl : ls.length ≤ 4 := by
        rw [TL.len]
        show (rows ru W n (d + 1) (ru.comes p m)).length ≤ 4
        omega
      have y10 : (10000 : Nat) < sizeLine := by decide
      -- the move told
      refine ⟨_, rfl, _, rfl, _, rfl, f, _, dxf, _, _, rfl, hf4, T.cl_Found, T.na_Found_over_by, rfl, (by show 3 ≤ sizeLine; decide), fun l1 nl1 => ?_⟩
      have s5 : Same H4 (L2.upd H4 l1 (.lst [V.int (m.1 : Nat), V.int (m.2 : Nat), V.int (ru.over (ru.comes p m) : Nat)])) := Same.upd nl1
      refine ⟨_, rfl, md, _, dm, _, _, rfl, s5 _ _ hmd4, T.cl_Made, T.na_Made_taken, rfl, l1, tk, _, _, rfl, rfl, upd_same, s5 _ _ htk4, ?_, fun mv nmv => ?_⟩
      · rw [iv_len]
        show 3 + _ ≤ _
        omega
      rw [told_iv]
      generalize hH6 : L2.upd (L2.upd H4 l1 _) mv _ = H6
      have s6 : Same H4 H6 := by rw [← hH6]; exact s5.trans (Same.upd nmv)
      have hmv6 : H6 mv = some (.lst (iv (TaflLook.toldMove ru p m))) := by rw [← hH6]; exact upd_same
      have nmvH : H mv = none := fH4 (s5.free nmv)
      have nmvD : D ≠ mv := ne_of_none (s5 _ _ hD4) nmv
      have g6 := gg.add s6 (S.sub.free nmvH) nmvH hmv6
      have up6 : Same G4 (L2.upd G4 mv (.lst (iv (TaflLook.toldMove ru p m)))) := Same.upd (by
        cases y : G4 mv with
        | none => rfl
        | some o =>
          have z := s5 _ _ (g4.sub _ _ y)
          rw [nmv] at z
          cases z)
      clear hH6
      -- what is found by it
      have hD6 := s6 _ _ hD4
      refine ⟨_, rfl, tyL hD6, ?_⟩
      refine ⟨_, rfl, f, _, dxf, _, _, rfl, s6 _ _ hf4, T.cl_Found, T.na_Found_worth, rfl, _, rfl, (by show 1 ≤ sizeLine; decide), fun l2 nl2 => ?_⟩
      have s7 : Same H6 (L2.upd H6 l2 (.lst [V.ref mv])) := Same.upd nl2
      refine ⟨_, rfl, f, _, dxf, _, _, rfl, s7 _ _ (s6 _ _ hf4), T.cl_Found, T.na_Found_row, rfl, l2, rw0, _, _, rfl, rfl, upd_same, s7 _ _ (s6 _ _ hrw4), ?_, fun rw2 nrw2 => ?_⟩
      · show 1 + ls.length ≤ _
        omega
      refine fun f2 dxf2 nf2 ndf2 nef2 => ⟨f2, dxf2, _, _, _, rfl, upd_same, fun H9 h9 b9 => ⟨rfl, ?_⟩⟩
      have s8 : Same H6 (L2.upd (L2.upd H6 l2 (.lst [V.ref mv])) rw2 (.lst ([V.ref mv] ++ ls))) := s7.trans (Same.upd nrw2)
      have s9 := made_same nf2 ndf2 b9
      have nrwH : H rw2 = none := fH4 (s6.free (s7.free nrw2))
      have nfH : H f2 = none := fH4 (s6.free (s8.free nf2))
      have nrwD : D ≠ rw2 := ne_of_none (s7 _ _ hD6) nrw2
      have nfD : D ≠ f2 := ne_of_none (s8 _ _ hD6) nf2
      have g8 := g6.add s8 (S.sub.free nrwH) nrwH (upd_same (o := .lst ([V.ref mv] ++ ls)))
      have g9 := g8.add s9 (S.sub.free nfH) nfH h9
      have nfr : rw2 ≠ f2 := fun e => by rw [← e, upd_same] at nf2; cases nf2
      have nmr : mv ≠ rw2 := ne_of_none (s7 _ _ hmv6) nrw2
      have nmf : mv ≠ f2 := ne_of_none (s8 _ _ hmv6) nf2
      generalize hG9 : L2.upd (L2.upd (L2.upd G4 mv _) rw2 _) f2 _ = G9 at g9
      have hf9 : G9 f2 = some (.ins (c_Found K) dxf2 (fouF (.int ((0 : Nat) : Int)) (.int (ru.worth W n (d + 1) (ru.comes p m))) (.ref rw2))) := by rw [← hG9]; exact upd_same
      have hr9 : G9 rw2 = some (.lst ([V.ref mv] ++ ls)) := by rw [← hG9, upd_ne nfr]; exact upd_same
      have hm9 : G9 mv = some (.lst (iv (TaflLook.toldMove ru p m))) := by rw [← hG9, upd_ne nmf, upd_ne nmr]; exact upd_same
      have hD9 : G9 D = none := by rw [← hG9, upd_ne nfD, upd_ne nrwD, upd_ne nmvD]; exact nD4
      have up9 : Same G4 G9 := fun a o ho => by
        have z1 := g4.sub _ _ ho
        have e1 : a ≠ mv := ne_of_none (s5 _ _ z1) nmv
        have e2 : a ≠ rw2 := ne_of_none (s7 _ _ (s6 _ _ z1)) nrw2
        have e3 : a ≠ f2 := ne_of_none (s8 _ _ (s6 _ _ z1)) nf2
        rw [← hG9, upd_ne e3, upd_ne e2, upd_ne e1]
        exact ho
      clear hG9
      have s49 : Same H4 H9 := s6.trans (s8.trans s9)
      have hD9' := s49 _ _ hD4
      refine ⟨D, vs, _, rfl, rfl, hD9', by omega, ?_⟩
      refine ⟨G9, vs ++ [.ref f2], _, _, _, _, _, rfl, ?_, ⟨g9.up, sub_upd g9.sub hD9, g9.off⟩, hD9, ?_, ?_, upd_same, ?_⟩
      · intro a o ho na
        rw [upd_ne (ne_of_none ho nD1)]
        exact s49 _ _ (b4' _ _ ho na)
      · rw [upd_ne (Ne.symm nDs), s49 _ _ hs4, st1]
        rw [show L - (us.length : Nat) - ((((ru.moves p).map fun m => cnt ru n (ru.comes p m)).take i).sum : Nat) - (cnt ru n (ru.comes p m) : Nat) = L - (us.length : Nat) - (((((ru.moves p).map fun m => cnt ru n (ru.comes p m)).take i).sum + cnt ru n (ru.comes p m) : Nat) : Int) by omega]
      · rw [st1]
        omega
      · rw [List.take_add_one, hm, List.map_append]
        refine (TV.mono fun _ _ => FouI.mono (up3.trans (g4.up.trans up9))).app (.one ⟨f2, dxf2, rw2, [V.ref mv] ++ ls, rfl, hf9, hr9, ?_⟩)
        exact .cons ⟨mv, rfl, hm9⟩ (TL.mono fun _ _ => LsI.mono up9)
    · rintro σ H' ⟨G', vs, x6, x7, x8, x9, x10, rfl, b', g', nDG', hs', hL', hD', TV⟩
      have et : (((ru.moves p).map fun m => cnt ru n (ru.comes p m)).take us.length) = (ru.moves p).map fun m => cnt ru n (ru.comes p m) := List.take_of_length_le (by rw [List.length_map]; omega)
      have et2 : (ru.moves p).take us.length = ru.moves p := List.take_of_length_le (by omega)
      rw [et] at hs' hL'
      rw [et2] at TV
      have gD := g'.add (Same.refl H') nDG nDH hD'
      refine ⟨_, rfl, kQ (by rw [hcnt]; omega) _ H' D vs gD (Same.but s1 b') ?_ upd_same (TV.mono fun _ _ => FouI.mono (Same.upd nDG'))⟩
      rw [hs', hcnt]
      rw [show L - (us.length : Nat) - (((ru.moves p).map fun m => cnt ru n (ru.comes p m)).sum : Nat) = L - (((ru.moves p).length + ((ru.moves p).map fun m => cnt ru n (ru.comes p m)).sum : Nat) : Int) by omega]
end
end Tf
set_option Elab.async false
set_option linter.all false
set_option maxRecDepth 100000
set_option maxHeartbeats 16000000
/-! The looker's calls. -/
namespace Tf
open PySem PySem.Spec PyProof.Rows L2 TfX TfM
section
variable {P : Program} {w : World} {K : PySem.W.Frag} {mg : Str → Option Value} {base : Heap}
theorem ok_looks (T : Txt K mg) : ∀ n, n ≤ 4 → FnOk P w K mg base (L2.CX P w) (6 + 2 * n) (a_Search_look K) T.fd_Search_look p_Search_look (spLook K n) ∧ FnOk P w K mg base (L2.CX P w) (7 + 2 * n) (a_Search_look_by_each K) T.fd_Search_look_by_each p_Search_look_by_each (spEach K n)
  | 0, _ => by
    have a := ok_look0 (P := P) (w := w) (base := base) T
    exact ⟨a, (ok_each T (n := 0) (k := 6) (by decide) (by decide) a).mono (by omega)⟩
  | n + 1, h => by
    have b := (ok_looks T n (by omega)).2
    have a := ok_lookS T (n := n) (k := 7 + 2 * n) (by omega) b
    exact ⟨a.mono (by omega), (ok_each T (n := n + 1) (k := 7 + 2 * n + 1) h (by omega) a).mono (by omega)⟩
theorem ok_Search_look (T : Txt K mg) : FnOk P w K mg base (L2.CX P w) 14 (a_Search_look K) T.fd_Search_look p_Search_look (fun vs H Q E => ∃ n, n ≤ 4 ∧ spLook K n vs H Q E) :=
  ⟨fun vs H Q E ⟨n, hn, h⟩ => (ok_looks (P := P) (w := w) (base := base) T n hn).1.len vs H Q E h, fun A outer s H args us vs Q E hr he hb hv ⟨n, hn, h⟩ => (ok_looks T n hn).1.run A outer s H args us vs Q E (hr.mono (by omega)) he hb hv h⟩
theorem ok_Search_look_by_each (T : Txt K mg) : FnOk P w K mg base (L2.CX P w) 15 (a_Search_look_by_each K) T.fd_Search_look_by_each p_Search_look_by_each (fun vs H Q E => ∃ n, n ≤ 3 ∧ spEach K n vs H Q E) :=
  ⟨fun vs H Q E ⟨n, hn, h⟩ => (ok_looks (P := P) (w := w) (base := base) T n (by omega)).2.len vs H Q E h, fun A outer s H args us vs Q E hr he hb hv ⟨n, hn, h⟩ => (ok_looks T n (by omega)).2.run A outer s H args us vs Q E (hr.mono (by omega)) he hb hv h⟩
/-! ### the object -/
def Lo (K : PySem.W.Frag) (G H : Hp) (lk dxl : Addr) : Option Tafl.Rules → Prop
  | none => H lk = some (.ins (c_Looker K) dxl [("hall", .non)])
  | some ru => ∃ h dxh r, H lk = some (.ins (c_Looker K) dxl [("hall", .ref h)]) ∧ HallAt K G h dxh ru r ∧ Fine ru
/-- an error without fields -/
def EN (E : XK) (H : Hp) (C : Addr) : Prop := ∀ H', Same H H' → E (.ref C) none H'
def iz (l : List Int) : List V := l.map V.int
theorem iz_len (l : List Int) : (iz l).length = l.length := List.length_map ..
theorem cut_to (l : List Int) (k : Nat) : cutV (iz l) none (some (k : Int)) = iz (l.take k) := by
  unfold cutV
  rw [HT.sIx_none, HT.sIx_nat, Nat.sub_zero, List.drop_zero, iz_len]
  unfold iz
  rw [← List.map_take]
  congr 1
  rw [List.take_eq_take_iff]
  omega
def w3 (W : Tafl.Weights) : List Int := [W.hunter, W.man, W.road]
theorem w3_iz (W : Tafl.Weights) : iz (w3 W) = wv3 W := rfl
theorem heavy {W : Tafl.Weights} {z : Int} (h : z ∈ w3 W) (hz : 1000 < z.natAbs) : W.right = false := by
  rw [← Bool.not_eq_true]
  intro hr
  obtain ⟨a, b, c⟩ := right_big hr
  unfold w3 at h
  simp only [List.mem_cons, List.not_mem_nil, or_false] at h
  rcases h with rfl | rfl | rfl <;> omega
theorem light {W : Tafl.Weights} (h : ∀ z ∈ w3 W, z.natAbs ≤ 1000) : W.right = true := by
  unfold Tafl.Weights.right Tafl.HEAVY
  have a := h W.hunter (by simp [w3])
  have b := h W.man (by simp [w3])
  have c := h W.road (by simp [w3])
  rw [decide_eq_true a, decide_eq_true b, decide_eq_true c]
  rfl
def spTold (K : PySem.W.Frag) : Sp := fun vs H Q E => ∃ (G : Hp) (lk dxl nu t : Addr) (st : Option Tafl.Rules) (ns : List Int) (b : Tafl.Bytes) (W : Tafl.Weights), vs = [.ref lk, .ref nu, .ref t] ∧ Same G H ∧ Lo K G H lk dxl st ∧ H nu = some (.lst (iz ns)) ∧ ns.take 3 = w3 W ∧ H t = some (.lst (bv b)) ∧
  (st = none → EN E H (c_NoRules K)) ∧ (∀ ru, st = some ru → (∀ kd p, ru.readLine b = .error (kd, p) → TFault K (c_LineFault K) E H kd p) ∧ (∀ p, ru.readLine b = .ok p → (W.right = false → EN E H (c_WeightFault K)) ∧ (W.right = true → Good ru p → ∀ H' q dx pb, Same H H' → PosAt K H' q dx pb p → Q (.ref q) H')))
theorem ok_Looker_told_position (T : Txt K mg) : FnOk P w K mg base (L2.CX P w) 8 (a_Looker_told_position K) T.fd_Looker_told_position p_Looker_told_position (spTold K) := by
  refine T.F_Looker_told_position.ok sc_Looker_told_position (fun vs H Q E h => ?_) (fun cdv A outer sh H vs Q E hr h => ⟨_, (pss_cons (ps_if (pt_cmpR op_isN (pe_fld (pv 0) rfl) pe_non (nomark _)) (pss_one (ps_raise rfl (takes_of rfl rfl rfl rfl) (pmk_own0 T.y_NoRules T.gc_NoRules (by rfl)))) pss_nil)
      (pss_cons (ps_set (i := 3) sc_Looker_told_position.nd rfl (Or.inl rfl) (pe_call (ok_read_position T) (hr.mono (by decide)) rfl T.g_read_position T.F_read_position.kp (b_read_position T) .nil (passes_call (takes_of rfl rfl rfl rfl) (fun _ _ _ _ h => h)) (pa_cons (pe_fld (pv 0) rfl) (pa_cons (pv 2) pa_nil))))
      (pss_cons (ps_for (passes_of rfl) rfl (pi_list (pe_slice sl_list (pv 1) po_none (po_some pe_int))) (pg_name (i := 4) sc_Looker_told_position.nd rfl (Or.inl rfl)) (pss_one (ps_if (pt_cmpR op_gt (pe_callB call_abs (by rfl) T.m_abs (by decide +kernel) (pa_cons (pv 4) pa_nil)) (pe_glob (v := .int 1000) rfl T.c_GREATEST_WEIGHT ⟨_, rfl⟩) (nomark _)) (pss_one (ps_raise rfl (takes_of rfl rfl rfl rfl) (pmk_own0 T.y_WeightFault T.gc_WeightFault (by rfl)))) pss_nil)))
      (pss_one (ps_ret (pv 3)))))), ?_⟩)
  · obtain ⟨G, lk, dxl, nu, t, st, ns, b, W, rfl, _⟩ := h
    rfl
  · obtain ⟨G, lk, dxl, nu, t, st, ns, b, W, rfl, sG, L, hnu, hns, ht, k0, k1⟩ := h
    cases st with
    | none =>
      have L : H lk = some (.ins (c_Looker K) dxl [("hall", .non)]) := L
      refine ⟨_, rfl, lk, _, dxl, _, _, rfl, L, T.cl_Looker, T.na_Looker_hall, rfl, rfl, _, rfl, ifT rfl ?_⟩
      exact k0 rfl H (Same.refl H)
    | some ru =>
      obtain ⟨h, dxh, r, hlk, X, F⟩ := L
      obtain ⟨kl, kp⟩ := k1 ru rfl
      refine ⟨_, rfl, lk, _, dxl, _, _, rfl, hlk, T.cl_Looker, T.na_Looker_hall, rfl, rfl, _, rfl, ifF rfl ?_⟩
      refine ⟨_, rfl, lk, _, dxl, _, _, rfl, hlk, T.cl_Looker, T.na_Looker_hall, rfl, _, rfl, h, dxh, ru, r, t, b, rfl, X.same sG, F.sh, ht, kl, fun p hp Gd H1 q dx pb s1 Y => ?_⟩
      obtain ⟨kw, kq⟩ := kp p hp
      refine ⟨_, rfl, 3, rfl, nu, _, rfl, SqL.of (s1 _ _ hnu), fun D nD => ?_⟩
      have ec := cut_to ns 3
      have ec : cutV (iz ns) none (some 3) = iz (w3 W) := by
        rw [← hns]
        exact ec
      rw [ec]
      refine ⟨D, rfl, ⟨_, SqL.of upd_same⟩, ?_⟩
      have s2 : Same H (L2.upd H1 D (.lst (iz (w3 W)))) := s1.trans (Same.upd nD)
      refine for_list (K := K) (a := D) (xs := iz (w3 W)) (fun i σ H2 => ∃ wv : Option V, σ = [some (.ref lk), some (.ref nu), some (.ref t), some (.ref q), wv] ∧ H2 = L2.upd H1 D (.lst (iz (w3 W))) ∧ ∀ z ∈ (w3 W).take i, z.natAbs ≤ 1000) ⟨none, rfl, rfl, fun z hz => by rw [List.take_zero] at hz; cases hz⟩ ?_ ?_ ?_
      · rintro i σ H2 _ ⟨wv, rfl, rfl, _⟩
        exact SqL.of upd_same
      · rintro i x σ H2 hx ⟨wv, rfl, rfl, hz⟩
        unfold iz at hx
        rw [List.getElem?_map] at hx
        cases hi : (w3 W)[i]? with
        | none =>
          rw [hi] at hx
          cases hx
        | some z =>
          rw [hi] at hx
          cases hx
          refine ⟨_, rfl, _, rfl, _, _, rfl, rfl, _, rfl, ?_⟩
          refine ifB (fun h1 => ?_) fun h1 => ?_
          · have y : (if z < 0 then -z else z) > 1000 := of_decide_eq_true h1
            have hz2 : 1000 < z.natAbs := by
              split at y <;> omega
            exact kw (heavy (List.mem_of_getElem? hi) hz2) _ s2
          · have y : ¬ (if z < 0 then -z else z) > 1000 := of_decide_eq_false h1
            refine ⟨_, rfl, rfl, take_all hz hi ?_⟩
            split at y <;> omega
      · rintro σ H2 ⟨wv, rfl, rfl, hz⟩
        rw [iz_len, List.take_length] at hz
        exact ⟨_, rfl, kq (light hz) Gd _ q dx pb s2 (Y.same (Same.upd nD))⟩
/-! ### bounds -/
def spBounds (K : PySem.W.Frag) : Sp := fun vs H Q E => ∃ (nu : Addr) (ns : List Int) (least n most : Nat), vs = [.ref nu, .int least] ∧ H nu = some (.lst (iz ns)) ∧ ns[3]? = some (n : Int) ∧ ns[4]? = some (most : Int) ∧
  ((n < least ∨ 4 < n ∨ most = 0 ∨ 600 < most) → EN E H (c_BoundsFault K)) ∧ (¬ (n < least ∨ 4 < n ∨ most = 0 ∨ 600 < most) → Q .non H)
theorem iz_at {l : List Int} {i : Nat} {z : Int} (h : l[i]? = some z) : (iz l)[i]? = some (.int z) := by
  unfold iz
  rw [List.getElem?_map, h]
  rfl
theorem ok_check_bounds (T : Txt K mg) : FnOk P w K mg base (L2.CX P w) 2 (a_check_bounds K) T.fd_check_bounds p_check_bounds (spBounds K) := by
  refine T.F_check_bounds.ok sc_check_bounds (fun vs H Q E h => ?_) (fun cdv A outer sh H vs Q E hr h => ⟨_, (pss_one (ps_if (PW.pt (pw_or (pt_not (pt_chain op_le op_le (pv 1) (pe_ix ix_list (pv 0) pe_int (fun _ _ => rfl)) (pe_glob (v := .int 4) rfl T.c_FURTHEST ⟨_, rfl⟩))) (pw_or1 (pt_not (pt_chain op_le op_le pe_int (pe_ix ix_list (pv 0) pe_int (fun _ _ => rfl)) (pe_glob (v := .int 600) rfl T.c_MOST_MOVES ⟨_, rfl⟩)))))) (pss_one (ps_raise rfl (takes_of rfl rfl rfl rfl) (pmk_own0 T.y_BoundsFault T.gc_BoundsFault (by rfl)))) pss_nil)), ?_⟩)
  · obtain ⟨nu, ns, least, n, most, rfl, _⟩ := h
    rfl
  · obtain ⟨nu, ns, least, n, most, rfl, hnu, h3, h4, kb, kq⟩ := h
    have a3 := iz_at h3
    have a4 := iz_at h4
    refine ifS_of (decide (n < least ∨ 4 < n ∨ most = 0 ∨ 600 < most)) (fun Q' q' => ?_) (fun hc => ?_) fun hc => ?_
    · have yes : (n < least ∨ 4 < n ∨ most = 0 ∨ 600 < most) → Q' true H := fun h => by rw [decide_eq_true h] at q'; exact q'
      have no : ¬ (n < least ∨ 4 < n ∨ most = 0 ∨ 600 < most) → Q' false H := fun h => by rw [decide_eq_false h] at q'; exact q'
      clear q'
      refine ⟨_, rfl, _, rfl, nu, _, 3, _, rfl, rfl, SqL.of hnu, atI_nat (j := 3) a3, _, _, rfl, rfl, _, rfl, ?_⟩
      refine ifB (fun h1 => ?_) fun h1 => ?_
      · have y1 : (least : Int) ≤ (n : Int) := of_decide_eq_true h1
        refine ⟨_, _, rfl, rfl, _, rfl, ?_⟩
        refine ifB (fun h2 => ?_) fun h2 => ?_
        · have y2 : ¬ (n : Int) ≤ 4 := of_decide_eq_false (by simpa using h2)
          exact yes (by omega)
        · have y2 : (n : Int) ≤ 4 := of_decide_eq_true (by simpa using h2)
          refine ⟨_, rfl, nu, _, 4, _, rfl, rfl, SqL.of hnu, atI_nat (j := 4) a4, _, _, rfl, rfl, _, rfl, ?_⟩
          refine ifB (fun h3 => ?_) fun h3 => ?_
          · have y3 : (1 : Int) ≤ (most : Int) := of_decide_eq_true h3
            refine ⟨_, _, rfl, rfl, _, rfl, ?_⟩
            by_cases y4 : (most : Int) ≤ 600
            · have e : (!decide ((most : Int) ≤ 600)) = false := by rw [decide_eq_true y4]; rfl
              show Q' (!decide ((most : Int) ≤ 600)) H
              rw [e]
              exact no (by omega)
            · have e : (!decide ((most : Int) ≤ 600)) = true := by rw [decide_eq_false y4]; rfl
              show Q' (!decide ((most : Int) ≤ 600)) H
              rw [e]
              exact yes (by omega)
          · have y3 : ¬ (1 : Int) ≤ (most : Int) := of_decide_eq_false h3
            exact ⟨_, rfl, yes (by omega)⟩
      · have y1 : ¬ (least : Int) ≤ (n : Int) := of_decide_eq_false h1
        exact ⟨_, rfl, ifT rfl (yes (by omega))⟩
    · exact kb (of_decide_eq_true hc) H (Same.refl H)
    · exact kq (of_decide_eq_false hc)
/-! ### a new search -/
def spNew (K : PySem.W.Frag) : Sp := fun vs H Q _ => ∃ (lk dxl nu h : Addr) (ns : List Int) (W : Tafl.Weights) (most : Int), vs = [.ref lk, .ref nu] ∧ H lk = some (.ins (c_Looker K) dxl [("hall", .ref h)]) ∧ H nu = some (.lst (iz ns)) ∧ ns.take 3 = w3 W ∧ ns[4]? = some most ∧
  ∀ H' s dxs wt, Same H H' → H s = none → H' s = some (.ins (c_Search K) dxs (seaF (.ref h) (.ref wt) (.int most))) → H' wt = some (.lst (wv3 W)) → Q (.ref s) H'
theorem ok_Looker_new_search (T : Txt K mg) : FnOk P w K mg base CX0 3 (a_Looker_new_search K) T.fd_Looker_new_search p_Looker_new_search (spNew K) := by
  refine T.F_Looker_new_search.ok sc_Looker_new_search (fun vs H Q E h => ?_) (fun cdv A outer sh H vs Q E hr h => ⟨_, PSs.nox (pss_one (ps_ret (pe_make T.mk_Search (ok_Search_init T) (hr.mono (by decide)) rfl T.gc_Search (b_Search_init T) .nil pass0 (pa_cons (pe_fld (pv 0) rfl) (pa_cons (pe_slice sl_list (pv 1) po_none (po_some pe_int)) (pa_cons (pe_ix ix_list (pv 1) pe_int (fun _ _ => rfl)) pa_nil)))))), ?_⟩)
  · obtain ⟨lk, dxl, nu, h, ns, W, most, rfl, _⟩ := h
    rfl
  · obtain ⟨lk, dxl, nu, h, ns, W, most, rfl, hlk, hnu, hns, h4, k⟩ := h
    refine ⟨_, rfl, lk, _, dxl, _, _, rfl, hlk, T.cl_Looker, T.na_Looker_hall, rfl, _, rfl, 3, rfl, nu, _, rfl, SqL.of hnu, fun D nD => ?_⟩
    have ec : cutV (iz ns) none (some 3) = iz (w3 W) := by
      rw [← hns]
      exact cut_to ns 3
    rw [ec]
    refine ⟨_, rfl, nu, _, 4, _, rfl, rfl, SqL.of (Same.upd nD _ _ hnu), atI_nat (j := 4) (iz_at h4), fun s dxs ns' nds nes => ⟨s, dxs, _, _, _, rfl, upd_same, fun H2 h2 b2 => ⟨rfl, ?_⟩⟩⟩
    have s2 := made_same ns' nds b2
    exact k H2 s dxs D ((Same.upd nD).trans s2) (Same.free (Same.upd nD) ns') h2 (s2 _ _ upd_same)
/-! ### rules -/
def spTake (K : PySem.W.Frag) : Sp := fun vs H Q E => ∃ (lk dxl t : Addr) (v : V) (b : Tafl.Bytes), vs = [.ref lk, .ref t] ∧ H lk = some (.ins (c_Looker K) dxl [("hall", v)]) ∧ H t = some (.lst (bv b)) ∧
  (∀ kd p, Tafl.judge b = .error (kd, p) → TFault K (c_TextFault K) E H kd p) ∧ (∀ ru, Tafl.judge b = .ok ru → Fine ru → ∀ Gh H' h dxh r a, HallAt K Gh h dxh ru r → Same Gh H' → (∀ a, H a ≠ none → Gh a = none) → But lk H H' → H' lk = some (.ins (c_Looker K) dxl [("hall", .ref h)]) → H a = none → H' a = some (.lst (iz [0])) → Q (.ref a) H')
theorem ok_Looker_take_rules (T : Txt K mg) : FnOk P w K mg base (L2.CX P w) 8 (a_Looker_take_rules K) T.fd_Looker_take_rules p_Looker_take_rules (spTake K) := by
  refine T.F_Looker_take_rules.ok sc_Looker_take_rules (fun vs H Q E h => ?_) (fun cdv A outer sh H vs Q E hr h => ⟨_, (pss_cons (ps_fld (pv 0) (pe_make T.mk_Hall (ok_Hall_init T) (hr.mono (by decide)) rfl T.gc_Hall (b_Hall_init T) .nil pass0 (pa_cons (pe_call (ok_read_rules T) (hr.mono (by decide)) rfl T.g_read_rules T.F_read_rules.kp (b_read_rules T) .nil (passes_call (takes_of rfl rfl rfl rfl) (fun _ _ _ _ h => h)) (pa_cons (pv 1) pa_nil)) pa_nil)) rfl)
      (pss_one (ps_ret (pe_lst (pa_cons pe_int pa_nil))))), ?_⟩)
  · obtain ⟨lk, dxl, t, v, b, rfl, _⟩ := h
    rfl
  · obtain ⟨lk, dxl, t, v, b, rfl, hlk, ht, ke, kq⟩ := h
    refine ⟨_, rfl, t, b, rfl, ht, ke, fun ru hru S H1 p dxp pg ps s1 X => ?_⟩
    refine fun h dxh nh ndh neh => ⟨h, dxh, p, dxp, ru, b.length, pg, ps, rfl, upd_same, ?_, S, fun Gh H2 r XG sg og bh => ⟨rfl, ?_⟩⟩
    · exact X.same ((Same.upd ndh).trans (Same.upd (by rw [upd_ne (Ne.symm neh)]; exact nh)))
    have s2 : Same H1 H2 := made_same nh ndh bh
    have hlk2 := s2 _ _ (s1 _ _ hlk)
    have nhl : h ≠ lk := fun e => by rw [e, s1 _ _ hlk] at nh; cases nh
    have og' : ∀ a, H1 a ≠ none → Gh a = none := fun a ha => by
      have na : a ≠ h := fun e => ha (by rw [e]; exact nh)
      have nd : a ≠ dxh := fun e => ha (by rw [e]; exact ndh)
      exact og a (by rw [upd_ne na, upd_ne nd]; exact ha) na
    refine ⟨_, rfl, lk, _, dxl, _, rfl, hlk2, T.cl_Looker, T.na_Looker_hall, (by show 1 < 1000; decide), ?_⟩
    refine ⟨(by show 1 ≤ sizeLine; decide), fun a na => ?_⟩
    have og0 : ∀ a, H a ≠ none → Gh a = none := fun a ha => og' a fun y => ha (s1.free y)
    have nlk : Gh lk = none := og0 lk (by rw [hlk]; exact Option.some_ne_none _)
    have nal : lk ≠ a := fun e => by rw [← e, upd_same] at na; cases na
    have na2 : H2 a = none := by rw [upd_ne (Ne.symm nal)] at na; exact na
    refine kq ru hru (judge_fine hru S) Gh _ h dxh r a XG ?_ og0 ?_ ?_ (s1.free (s2.free na2)) upd_same
    · exact fun x o hx => by
        have z := sg _ _ hx
        rw [upd_ne (ne_of_none z na2), upd_ne (ne_of_none hx nlk)]
        exact z
    · intro x o hx nx
      have z := s2 _ _ (s1 _ _ hx)
      rw [upd_ne (ne_of_none z na2), upd_ne nx]
      exact z
    · rw [upd_ne nal, upd_same]
      rfl
end
end Tf
set_option Elab.async false
set_option linter.all false
set_option maxRecDepth 100000
set_option maxHeartbeats 16000000
/-! weigh, look_ahead, look_by_each_move. -/
namespace Tf
open PySem PySem.Spec PyProof.Rows L2 TfX TfM
section
variable {P : Program} {w : World} {K : PySem.W.Frag} {mg : Str → Option Value} {base : Heap}
theorem Lo.ins {G H : Hp} {lk dxl : Addr} {st : Option Tafl.Rules} (L : Lo K G H lk dxl st) : ∃ v, H lk = some (.ins (c_Looker K) dxl [("hall", v)]) := by
  cases st with
  | none => exact ⟨_, L⟩
  | some ru =>
    obtain ⟨h, _, _, e, _⟩ := L
    exact ⟨_, e⟩
/-- what a call on a position asks for -/
def Asks (K : PySem.W.Frag) (vs : List V) (H : Hp) (E : XK) (kQ : Tafl.Rules → Tafl.Pos → Tafl.Weights → List Int → Prop) : Prop :=
  ∃ (G : Hp) (lk dxl nu t : Addr) (st : Option Tafl.Rules) (ns : List Int) (b : Tafl.Bytes) (W : Tafl.Weights), vs = [.ref lk, .ref nu, .ref t] ∧ Same G H ∧ Lo K G H lk dxl st ∧ H nu = some (.lst (iz ns)) ∧ ns.take 3 = w3 W ∧ H t = some (.lst (bv b)) ∧
  (st = none → EN E H (c_NoRules K)) ∧ (∀ ru, st = some ru → (∀ kd p, ru.readLine b = .error (kd, p) → TFault K (c_LineFault K) E H kd p) ∧ (∀ p, ru.readLine b = .ok p → (W.right = false → EN E H (c_WeightFault K)) ∧ (W.right = true → Good ru p → kQ ru p W ns)))
def Answ (Q : VK) (H : Hp) (l : List Int) : Prop := ∀ H' a, Same H H' → H a = none → H' a = some (.lst (iz l)) → Q (.ref a) H'
def spWeigh (K : PySem.W.Frag) : Sp := fun vs H Q E => Asks K vs H E fun ru p W _ => Answ Q H [0, ru.weigh W p]
theorem ok_Looker_weigh (T : Txt K mg) : FnOk P w K mg base (L2.CX P w) 9 (a_Looker_weigh K) T.fd_Looker_weigh p_Looker_weigh (spWeigh K) := by
  refine T.F_Looker_weigh.ok sc_Looker_weigh (fun vs H Q E h => ?_) (fun cdv A outer sh H vs Q E hr h => ⟨_, (pss_cons (ps_set (i := 3) sc_Looker_weigh.nd rfl (Or.inl rfl) (pe_meth (pv 0) T.cl_Looker T.mt_Looker_told_position (ok_Looker_told_position T) (hr.mono (by decide)) (b_Looker_told_position T) .nil (passes_call (takes_of rfl rfl rfl rfl) (fun _ _ _ _ h => h)) (pa_cons (pv 1) (pa_cons (pv 2) pa_nil))))
      (pss_one (ps_ret (pe_lst (pa_cons pe_int (pa_cons (pe_call (ok_weighed T) (hr.mono (by decide)) rfl T.g_weighed T.F_weighed.kp (b_weighed T) .nil pass0 (pa_cons (pe_fld (pv 0) rfl) (pa_cons (pv 3) (pa_cons (pe_slice sl_list (pv 1) po_none (po_some pe_int)) pa_nil)))) pa_nil)))))), ?_⟩)
  · obtain ⟨G, lk, dxl, nu, t, st, ns, b, W, rfl, _⟩ := h
    rfl
  · obtain ⟨G, lk, dxl, nu, t, st, ns, b, W, rfl, sG, L, hnu, hns, ht, k0, k1⟩ := h
    obtain ⟨v, hlk⟩ := L.ins
    refine ⟨_, rfl, lk, dxl, _, rfl, hlk, rfl, _, rfl, _, rfl, G, lk, dxl, nu, t, st, ns, b, W, rfl, sG, L, hnu, hns, ht, k0, fun ru e => ⟨(k1 ru e).1, fun p hp => ⟨((k1 ru e).2 p hp).1, fun hW Gd H1 q dx pb s1 Y => ?_⟩⟩⟩
    have kq := ((k1 ru e).2 p hp).2 hW Gd
    subst e
    obtain ⟨h, dxh, r, hlk, X, F⟩ := L
    refine ⟨_, rfl, lk, _, dxl, _, _, rfl, s1 _ _ hlk, T.cl_Looker, T.na_Looker_hall, rfl, _, rfl, _, rfl, 3, rfl, nu, _, rfl, SqL.of (s1 _ _ hnu), fun D nD => ?_⟩
    have ec : cutV (iz ns) none (some 3) = wv3 W := by
      rw [← w3_iz, ← hns]
      exact cut_to ns 3
    rw [ec]
    have s2 : Same H1 (L2.upd H1 D (.lst (wv3 W))) := Same.upd nD
    refine ⟨h, dxh, ru, r, q, dx, pb, D, p, W, rfl, ((X.same sG).same s1).same s2, F, Y.same s2, Gd, upd_same, hW, fun H2 s3 => ?_⟩
    exact ⟨(by show 2 ≤ sizeLine; decide), fun a na => kq _ a (s1.trans (s2.trans (s3.trans (Same.upd na)))) (s1.free (s2.free (s3.free na))) upd_same⟩
/-! ### ahead -/
def cutS (H : Hp) (s : Addr) : Hp := fun a => open Classical in if a = s then none else H a
theorem cutS_s {H : Hp} {s : Addr} : cutS H s s = none := by
  unfold cutS
  rw [if_pos rfl]
theorem cutS_ne {H : Hp} {s a : Addr} (h : a ≠ s) : cutS H s a = H a := by
  unfold cutS
  rw [if_neg h]
theorem cutS_sub {H : Hp} {s : Addr} : Same (cutS H s) H := fun a o h => by
  by_cases e : a = s
  · rw [e, cutS_s] at h
    cases h
  · rw [cutS_ne e] at h
    exact h
theorem cutS_up {H H2 : Hp} {s : Addr} (t : Same H H2) (n : H s = none) : Same H (cutS H2 s) := fun a o h => by
  rw [cutS_ne (ne_of_none h n)]
  exact t _ _ h
def flatR (l : List (List Nat)) : List Int := l.flatMap fun r => (r.length : Int) :: Tafl.asInts r
theorem told_len {ru : Tafl.Rules} {p : Tafl.Pos} {m : Nat × Nat} : (TaflLook.toldMove ru p m).length ≤ 195 := by
  have := takes_len (ru := ru) (p := p) (m := m)
  unfold TaflLook.toldMove
  rw [List.length_cons, List.length_cons, List.length_cons]
  omega
theorem iv_iz (l : List Nat) : iv l = iz (Tafl.asInts l) := by
  unfold iv iz Tafl.asInts
  rw [List.map_map]
  rfl
theorem iz_app (a b : List Int) : iz a ++ iz b = iz (a ++ b) := (List.map_append ..).symm
def aheadL (ru : Tafl.Rules) (W : Tafl.Weights) (n : Nat) (p : Tafl.Pos) : List Int := 0 :: ru.worth W n 0 p :: ((rows ru W n 0 p).length : Int) :: flatR (rows ru W n 0 p)
def spAhead (K : PySem.W.Frag) : Sp := fun vs H Q E => Asks K vs H E fun ru p W ns => ∃ n most : Nat, ns[3]? = some (n : Int) ∧ ns[4]? = some (most : Int) ∧
  ((n < 0 ∨ 4 < n ∨ most = 0 ∨ 600 < most) → EN E H (c_BoundsFault K)) ∧ (¬ (n < 0 ∨ 4 < n ∨ most = 0 ∨ 600 < most) → (most < cnt ru n p → EN E H (c_TooManyMoves K)) ∧ (cnt ru n p ≤ most → Answ Q H (aheadL ru W n p)))
theorem ok_Looker_look_ahead (T : Txt K mg) : FnOk P w K mg base (L2.CX P w) 16 (a_Looker_look_ahead K) T.fd_Looker_look_ahead p_Looker_look_ahead (spAhead K) := by
  refine T.F_Looker_look_ahead.ok sc_Looker_look_ahead (fun vs H Q E h => ?_) (fun cdv A outer sh H vs Q E hr h => ⟨_, (pss_cons (ps_set (i := 3) sc_Looker_look_ahead.nd rfl (Or.inl rfl) (pe_meth (pv 0) T.cl_Looker T.mt_Looker_told_position (ok_Looker_told_position T) (hr.mono (by decide)) (b_Looker_told_position T) .nil (passes_call (takes_of rfl rfl rfl rfl) (fun _ _ _ _ h => h)) (pa_cons (pv 1) (pa_cons (pv 2) pa_nil))))
      (pss_cons (ps_expr (pe_call (ok_check_bounds T) (hr.mono (by decide)) rfl T.g_check_bounds T.F_check_bounds.kp (b_check_bounds T) .nil (passes_call (takes_of rfl rfl rfl rfl) (fun _ _ _ _ h => h)) (pa_cons (pv 1) (pa_cons pe_int pa_nil))))
      (pss_cons (ps_set (i := 4) sc_Looker_look_ahead.nd rfl (Or.inl rfl) (pe_meth (pe_meth (pv 0) T.cl_Looker T.mt_Looker_new_search (ok_Looker_new_search T) (hr.mono (by decide)) (b_Looker_new_search T) .nil pass0 (pa_cons (pv 1) pa_nil)) T.cl_Search T.mt_Search_look (ok_Search_look T) (hr.mono (by decide)) (b_Search_look T) .nil (passes_call (takes_of rfl rfl rfl rfl) (fun _ _ _ _ h => h)) (pa_cons (pv 3) (pa_cons (pe_ix ix_list (pv 1) pe_int (fun _ _ => rfl)) (pa_cons pe_int pa_nil)))))
      (pss_cons (ps_set (i := 5) sc_Looker_look_ahead.nd rfl (Or.inl rfl) (pe_lst (pa_cons pe_int (pa_cons (pe_fld (pv 4) rfl) (pa_cons (pe_callB call_len_seq (by rfl) T.m_len (by decide +kernel) (pa_cons (pe_fld (pv 4) rfl) pa_nil)) pa_nil)))))
      (pss_cons (ps_for (passes_of rfl) rfl (pi_list (pe_fld (pv 4) rfl)) (pg_name (i := 6) sc_Looker_look_ahead.nd rfl (Or.inl rfl)) (pss_cons (ps_expr (pe_bm PySem.F.plainAttrs_list PySem.F.slot_list_append PySem.F.type_list_append mt_append (pv 5) (pa_cons (pe_callB call_len_seq (by rfl) T.m_len (by decide +kernel) (pa_cons (pv 6) pa_nil)) pa_nil)))
      (pss_one (ps_expr (pe_bm PySem.F.plainAttrs_list PySem.F.slot_list_extend PySem.F.type_list_extend mt_extend (pv 5) (pa_cons (pv 6) pa_nil))))))
      (pss_one (ps_ret (pv 5)))))))), ?_⟩)
  · obtain ⟨G, lk, dxl, nu, t, st, ns, b, W, rfl, _⟩ := h
    rfl
  · obtain ⟨G, lk, dxl, nu, t, st, ns, b, W, rfl, sG, L, hnu, hns, ht, k0, k1⟩ := h
    obtain ⟨v, hlk⟩ := L.ins
    refine ⟨_, rfl, lk, dxl, _, rfl, hlk, rfl, _, rfl, _, rfl, G, lk, dxl, nu, t, st, ns, b, W, rfl, sG, L, hnu, hns, ht, k0, fun ru e => ⟨(k1 ru e).1, fun p hp => ⟨((k1 ru e).2 p hp).1, fun hW Gd H1 q dx pb s1 Y => ?_⟩⟩⟩
    obtain ⟨n, most, h3, h4, kb, kr⟩ := ((k1 ru e).2 p hp).2 hW Gd
    subst e
    obtain ⟨h, dxh, r, hlk, X, F⟩ := L
    have hnu1 := s1 _ _ hnu
    have hlk1 := s1 _ _ hlk
    refine ⟨_, rfl, nu, ns, 0, n, most, rfl, hnu1, h3, h4, fun hb H2 s2 => kb hb H2 (s1.trans s2), fun hnb => ?_⟩
    obtain ⟨kt, kq⟩ := kr hnb
    refine ⟨_, rfl, lk, dxl, _, rfl, hlk1, rfl, _, rfl, lk, dxl, nu, h, ns, W, most, rfl, hlk1, hnu1, hns, h4, fun H2 s dxs wt s2 nss hs hw => ?_⟩
    have nsH : H s = none := s1.free nss
    have up := cutS_up s2 nss
    have S : SeaS K (cutS H2 s) H2 s dxs h dxh ru r wt W (most : Nat) := ⟨cutS_sub, cutS_s, hs, ((X.same sG).same s1).same up, F, by rw [cutS_ne (ne_of hw hs (by intro z; cases z))]; exact hw, hW, by omega⟩
    refine ⟨s, dxs, _, rfl, hs, rfl, _, rfl, _, rfl, nu, _, 3, _, rfl, rfl, SqL.of (s2 _ _ hnu1), atI_nat (j := 3) (iz_at h3), n, by omega, cutS H2 s, s, dxs, h, dxh, ru, r, wt, W, most, q, dx, pb, p, 0, rfl, S, Y.same up, Gd, fun hl H3 b3 => ?_, fun hl G3 H3 v g3 b3 hs3 fo => ?_⟩
    · exact kt (by omega) H3 fun a o ho => b3 _ _ (s2 _ _ (s1 _ _ ho)) (ne_of_none ho nsH)
    have s3 : Same H H3 := fun a o ho => b3 _ _ (s2 _ _ (s1 _ _ ho)) (ne_of_none ho nsH)
    have kq := kq (by omega)
    obtain ⟨f, dxf, rw0, us, rfl, hf, hrw, TL⟩ := fo
    have hf3 := g3.sub _ _ hf
    have hrw3 := g3.sub _ _ hrw
    have rl := rows_len ru W n 0 p
    have TL : All2 (LsI G3) us (rows ru W n 0 p) := TL
    have hul := TL.len
    have rlen : ∀ x ∈ rows ru W n 0 p, x.length ≤ 195 := fun x hx => by
      unfold rows at hx
      obtain ⟨z, _, rfl⟩ := List.mem_map.mp hx
      exact told_len
    refine ⟨_, rfl, f, _, dxf, _, _, rfl, hf3, T.cl_Found, T.na_Found_worth, rfl, _, rfl, f, _, dxf, _, _, rfl, hf3, T.cl_Found, T.na_Found_row, rfl, rw0, _, rfl, .inl (SqL.of hrw3), (by show 3 ≤ sizeLine; decide), fun A nA => ?_⟩
    have sA : ∀ o, Same H3 (L2.upd H3 A o) := fun o => Same.upd nA
    refine ⟨_, rfl, f, _, dxf, _, _, rfl, sA _ _ _ hf3, T.cl_Found, T.na_Found_row, rfl, rw0, rfl, ⟨_, SqL.of (sA _ _ _ hrw3)⟩, ?_⟩
    refine for_list (K := K) (a := rw0) (xs := us) (fun i σ H' => ∃ mv : Option V, σ = [some (.ref lk), some (.ref nu), some (.ref t), some (.ref q), some (.ref f), some (.ref A), mv] ∧ H' = L2.upd H3 A (.lst (iz (0 :: ru.worth W n 0 p :: (us.length : Int) :: flatR ((rows ru W n 0 p).take i)))) ∧ (flatR ((rows ru W n 0 p).take i)).length ≤ 196 * i) ⟨none, rfl, rfl, Nat.zero_le _⟩ ?_ ?_ ?_
    · rintro i σ H' _ ⟨mv, rfl, rfl, _⟩
      exact SqL.of (sA _ _ _ hrw3)
    · rintro i x σ H' hx ⟨mv, rfl, rfl, hfl⟩
      obtain ⟨l, hl, a, rfl, ha⟩ := TL.at hx
      have ha3 : ∀ o, (L2.upd H3 A o) a = some (.lst (iv l)) := fun o => sA _ _ _ (g3.sub _ _ ha)
      have ll := rlen l (List.mem_of_getElem? hl)
      have hi : i < us.length := (List.getElem?_eq_some_iff.mp hx).1
      have y3 : (100000 : Nat) < sizeLine := by decide
      have fl : flatR ((rows ru W n 0 p).take (i + 1)) = flatR ((rows ru W n 0 p).take i) ++ ((l.length : Int) :: Tafl.asInts l) := by
        unfold flatR
        rw [List.take_add_one, hl, List.flatMap_append]
        simp
      have lena : (Tafl.asInts l).length = l.length := List.length_map ..
      refine ⟨_, rfl, tyL upd_same, _, rfl, a, _, rfl, .inl (SqL.of (ha3 _)), A, _, _, rfl, rfl, upd_same, ?_, ?_⟩
      · rw [iz_len]
        simp only [List.length_cons]
        omega
      rw [upd_upd, iv_len]
      refine ⟨_, rfl, tyL upd_same, _, rfl, A, a, _, _, rfl, rfl, upd_same, ha3 _, ?_, ?_⟩
      · rw [iv_len, List.length_append, iz_len]
        simp only [List.length_cons, List.length_nil]
        omega
      refine ⟨_, rfl, ?_, ?_⟩
      · rw [upd_upd, fl, iv_iz, show ([V.int (l.length : Int)] : List V) = iz [(l.length : Int)] from rfl, iz_app, iz_app]
        congr 3
        simp
      · rw [fl, List.length_append, List.length_cons, lena]
        omega
    · rintro σ H' ⟨mv, rfl, rfl, hfl⟩
      have et : (rows ru W n 0 p).take us.length = rows ru W n 0 p := List.take_of_length_le (by omega)
      rw [et]
      refine ⟨_, rfl, kq _ A (s3.trans (sA _)) (s3.free nA) ?_⟩
      rw [upd_same, hul]
      rfl
/-! ### each -/
def eachL (ru : Tafl.Rules) (W : Tafl.Weights) (n : Nat) (p : Tafl.Pos) : List Int := 0 :: ((ru.moves p).length : Int) :: (ru.moves p).map fun m => ru.worth W n 1 (ru.comes p m)
def spEachM (K : PySem.W.Frag) : Sp := fun vs H Q E => Asks K vs H E fun ru p W ns => ∃ n most : Nat, ns[3]? = some (n : Int) ∧ ns[4]? = some (most : Int) ∧
  ((n < 1 ∨ 4 < n ∨ most = 0 ∨ 600 < most) → EN E H (c_BoundsFault K)) ∧ (¬ (n < 1 ∨ 4 < n ∨ most = 0 ∨ 600 < most) → (most < cnt ru n p → EN E H (c_TooManyMoves K)) ∧ (cnt ru n p ≤ most → Answ Q H (eachL ru W (n - 1) p)))
theorem ok_Looker_look_by_each_move (T : Txt K mg) : FnOk P w K mg base (L2.CX P w) 17 (a_Looker_look_by_each_move K) T.fd_Looker_look_by_each_move p_Looker_look_by_each_move (spEachM K) := by
  refine T.F_Looker_look_by_each_move.ok sc_Looker_look_by_each_move (fun vs H Q E h => ?_) (fun cdv A outer sh H vs Q E hr h => ⟨_, (pss_cons (ps_set (i := 3) sc_Looker_look_by_each_move.nd rfl (Or.inl rfl) (pe_meth (pv 0) T.cl_Looker T.mt_Looker_told_position (ok_Looker_told_position T) (hr.mono (by decide)) (b_Looker_told_position T) .nil (passes_call (takes_of rfl rfl rfl rfl) (fun _ _ _ _ h => h)) (pa_cons (pv 1) (pa_cons (pv 2) pa_nil))))
      (pss_cons (ps_expr (pe_call (ok_check_bounds T) (hr.mono (by decide)) rfl T.g_check_bounds T.F_check_bounds.kp (b_check_bounds T) .nil (passes_call (takes_of rfl rfl rfl rfl) (fun _ _ _ _ h => h)) (pa_cons (pv 1) (pa_cons pe_int pa_nil))))
      (pss_cons (ps_set (i := 4) sc_Looker_look_by_each_move.nd rfl (Or.inl rfl) (pe_meth (pe_meth (pv 0) T.cl_Looker T.mt_Looker_new_search (ok_Looker_new_search T) (hr.mono (by decide)) (b_Looker_new_search T) .nil pass0 (pa_cons (pv 1) pa_nil)) T.cl_Search T.mt_Search_look_by_each (ok_Search_look_by_each T) (hr.mono (by decide)) (b_Search_look_by_each T) .nil (passes_call (takes_of rfl rfl rfl rfl) (fun _ _ _ _ h => h)) (pa_cons (pv 3) (pa_cons (pe_ix ix_list (pv 1) pe_int (fun _ _ => rfl)) (pa_cons pe_int pa_nil)))))
      (pss_one (ps_ret (pe_op op_cat (pe_lst (pa_cons pe_int (pa_cons (pe_callB call_len_seq (by rfl) T.m_len (by decide +kernel) (pa_cons (pv 4) pa_nil)) pa_nil))) (pe_lc (own := [("found", 5)]) (g := (gName 5)) rfl sc_Looker_look_by_each_move.nd (pi_list (pv 4)) (blkOk_by (own := [("found", 5)]) (N := n_Looker_look_by_each_move) (sc := defScope s_Looker_look_by_each_move) (by decide +kernel)) (fun _ _ _ _ _ => (pg_name (i := 5) sc_Looker_look_by_each_move.nd rfl (Or.inl rfl))) (fun _ _ _ _ _ => pts_nil) (fun _ _ _ _ _ => (pe_fldK (K := K) rfl (pv 5) rfl))))))))), ?_⟩)
  · obtain ⟨G, lk, dxl, nu, t, st, ns, b, W, rfl, _⟩ := h
    rfl
  · obtain ⟨G, lk, dxl, nu, t, st, ns, b, W, rfl, sG, L, hnu, hns, ht, k0, k1⟩ := h
    obtain ⟨v, hlk⟩ := L.ins
    refine ⟨_, rfl, lk, dxl, _, rfl, hlk, rfl, _, rfl, _, rfl, G, lk, dxl, nu, t, st, ns, b, W, rfl, sG, L, hnu, hns, ht, k0, fun ru e => ⟨(k1 ru e).1, fun p hp => ⟨((k1 ru e).2 p hp).1, fun hW Gd H1 q dx pb s1 Y => ?_⟩⟩⟩
    obtain ⟨n, most, h3, h4, kb, kr⟩ := ((k1 ru e).2 p hp).2 hW Gd
    subst e
    obtain ⟨h, dxh, r, hlk, X, F⟩ := L
    have hnu1 := s1 _ _ hnu
    have hlk1 := s1 _ _ hlk
    refine ⟨_, rfl, nu, ns, 1, n, most, rfl, hnu1, h3, h4, fun hb H2 s2 => kb hb H2 (s1.trans s2), fun hnb => ?_⟩
    obtain ⟨kt, kq⟩ := kr hnb
    refine ⟨_, rfl, lk, dxl, _, rfl, hlk1, rfl, _, rfl, lk, dxl, nu, h, ns, W, most, rfl, hlk1, hnu1, hns, h4, fun H2 s dxs wt s2 nss hs hw => ?_⟩
    have nsH : H s = none := s1.free nss
    have up := cutS_up s2 nss
    have S : SeaS K (cutS H2 s) H2 s dxs h dxh ru r wt W (most : Nat) := ⟨cutS_sub, cutS_s, hs, ((X.same sG).same s1).same up, F, by rw [cutS_ne (ne_of hw hs (by intro z; cases z))]; exact hw, hW, by omega⟩
    obtain ⟨n', rfl⟩ : ∃ n', n = n' + 1 := ⟨n - 1, by omega⟩
    refine ⟨s, dxs, _, rfl, hs, rfl, _, rfl, _, rfl, nu, _, 3, _, rfl, rfl, SqL.of (s2 _ _ hnu1), atI_nat (j := 3) (iz_at h3), n', by omega, cutS H2 s, s, dxs, h, dxh, ru, r, wt, W, most, q, dx, pb, p, 0, rfl, S, Y.same up, Gd, fun hl H3 b3 => ?_, fun hl G3 H3 D us g3 b3 hs3 hD TL => ?_⟩
    · exact kt (by omega) H3 fun a o ho => b3 _ _ (s2 _ _ (s1 _ _ ho)) (ne_of_none ho nsH)
    have s3 : Same H H3 := fun a o ho => b3 _ _ (s2 _ _ (s1 _ _ ho)) (ne_of_none ho nsH)
    have kq := kq (by omega)
    have hD3 := g3.sub _ _ hD
    have hul := TL.len
    rw [List.length_map] at hul
    have cl : (ru.moves p).length ≤ 600 := by
      have y : cnt ru (n' + 1) p = (ru.moves p).length + ((ru.moves p).map fun m => cnt ru n' (ru.comes p m)).sum := rfl
      omega
    refine ⟨_, rfl, D, _, rfl, .inl (SqL.of hD3), (by show 2 ≤ sizeLine; decide), fun l1 nl1 => ?_⟩
    have s4 : Same H3 (L2.upd H3 l1 (.lst [.int 0, .int (us.length : Int)])) := Same.upd nl1
    generalize hH4 : L2.upd H3 l1 _ = H4 at s4
    have hl1 : H4 l1 = some (.lst [.int 0, .int (us.length : Int)]) := by rw [← hH4]; exact upd_same
    clear hH4
    refine ⟨_, rfl, D, rfl, ⟨_, SqL.of (s4 _ _ hD3)⟩, fun l2 nl2 => ?_⟩
    have sE : ∀ o, Same H4 (L2.upd H4 l2 o) := fun o => Same.upd nl2
    refine lc_list (K := K) (a := D) (xs := us) (fun i H' => H' = L2.upd H4 l2 (.lst (iz (((ru.moves p).take i).map fun m => ru.worth W n' 1 (ru.comes p m))))) rfl (fun i H' _ e => by rw [e]; exact SqL.of (sE _ _ _ (s4 _ _ hD3))) ?_ ?_
    · rintro i x H' hx rfl
      obtain ⟨y, hy, f, dxf, rw0, ls, rfl, hf, hrw, _⟩ := TL.at hx
      rw [List.getElem?_map] at hy
      cases hm : (ru.moves p)[i]? with
      | none =>
        rw [hm] at hy
        cases hy
      | some m =>
        rw [hm] at hy
        cases hy
        have hi : i < us.length := (List.getElem?_eq_some_iff.mp hx).1
        refine ⟨rfl, _, rfl, f, _, dxf, _, _, rfl, sE _ _ _ (s4 _ _ (g3.sub _ _ hf)), T.cl_Found, T.na_Found_worth, rfl, _, upd_same, ?_, ?_⟩
        · rw [iz_len, List.length_map, List.length_take]
          exact line1000 (by omega)
        · rw [upd_upd, List.take_add_one, hm, List.map_append]
          show L2.upd H4 l2 (.lst (iz (((ru.moves p).take i).map fun m => ru.worth W n' 1 (ru.comes p m)) ++ iz [ru.worth W n' 1 (ru.comes p m)])) = _
          rw [iz_app]
          rfl
    · rintro H' rfl
      have et : (ru.moves p).take us.length = ru.moves p := List.take_of_length_le (by omega)
      rw [et]
      refine ⟨l1, l2, _, _, rfl, rfl, sE _ _ _ hl1, upd_same, ?_, fun a na => kq _ a (s3.trans (s4.trans ((sE _).trans (Same.upd na)))) (s3.free (s4.free (Same.free (sE _) na))) ?_⟩
      · rw [iz_len, List.length_map]
        have y3 : (1000 : Nat) < sizeLine := by decide
        show 2 + _ ≤ _
        omega
      · rw [upd_same, hul]
        rfl
/-! ### one call -/
def spCall (K : PySem.W.Frag) : Sp := fun vs H Q E => ∃ (lk nu t : Addr) (c : Nat), vs = [.ref lk, .int c, .ref nu, .ref t] ∧ ((c = 0 ∧ spTake K [.ref lk, .ref t] H Q E) ∨ (c = 1 ∧ spWeigh K [.ref lk, .ref nu, .ref t] H Q E) ∨ (c = 2 ∧ spAhead K [.ref lk, .ref nu, .ref t] H Q E) ∨ (c = 3 ∧ spEachM K [.ref lk, .ref nu, .ref t] H Q E))
theorem Asks.lk {H : Hp} {E : XK} {kQ : Tafl.Rules → Tafl.Pos → Tafl.Weights → List Int → Prop} {lk nu t : Addr} (h : Asks K [.ref lk, .ref nu, .ref t] H E kQ) : ∃ dxl v, H lk = some (.ins (c_Looker K) dxl [("hall", v)]) := by
  obtain ⟨G, lk', dxl, nu', t', st, ns, b, W, e, _, L, _⟩ := h
  cases e
  obtain ⟨v, hv⟩ := L.ins
  exact ⟨dxl, v, hv⟩
theorem ok_answer_call (T : Txt K mg) : FnOk P w K mg base (L2.CX P w) 18 (a_answer_call K) T.fd_answer_call p_answer_call (spCall K) := by
  refine T.F_answer_call.ok sc_answer_call (fun vs H Q E h => ?_) (fun cdv A outer sh H vs Q E hr h => ⟨_, (pss_cons (ps_if (pt_cmpR op_eq (pv 1) (pe_glob (v := .int 0) rfl T.c_RULES ⟨_, rfl⟩) (nomark _)) (pss_one (ps_ret (pe_meth (pv 0) T.cl_Looker T.mt_Looker_take_rules (ok_Looker_take_rules T) (hr.mono (by decide)) (b_Looker_take_rules T) .nil (passes_call (takes_of rfl rfl rfl rfl) (fun _ _ _ _ h => h)) (pa_cons (pv 3) pa_nil)))) pss_nil)
      (pss_cons (ps_if (pt_cmpR op_eq (pv 1) (pe_glob (v := .int 1) rfl T.c_WEIGH ⟨_, rfl⟩) (nomark _)) (pss_one (ps_ret (pe_meth (pv 0) T.cl_Looker T.mt_Looker_weigh (ok_Looker_weigh T) (hr.mono (by decide)) (b_Looker_weigh T) .nil (passes_call (takes_of rfl rfl rfl rfl) (fun _ _ _ _ h => h)) (pa_cons (pv 2) (pa_cons (pv 3) pa_nil))))) pss_nil)
      (pss_cons (ps_if (pt_cmpR op_eq (pv 1) (pe_glob (v := .int 2) rfl T.c_AHEAD ⟨_, rfl⟩) (nomark _)) (pss_one (ps_ret (pe_meth (pv 0) T.cl_Looker T.mt_Looker_look_ahead (ok_Looker_look_ahead T) (hr.mono (by decide)) (b_Looker_look_ahead T) .nil (passes_call (takes_of rfl rfl rfl rfl) (fun _ _ _ _ h => h)) (pa_cons (pv 2) (pa_cons (pv 3) pa_nil))))) pss_nil)
      (pss_one (ps_ret (pe_meth (pv 0) T.cl_Looker T.mt_Looker_look_by_each_move (ok_Looker_look_by_each_move T) (hr.mono (by decide)) (b_Looker_look_by_each_move T) .nil (passes_call (takes_of rfl rfl rfl rfl) (fun _ _ _ _ h => h)) (pa_cons (pv 2) (pa_cons (pv 3) pa_nil)))))))), ?_⟩)
  · obtain ⟨lk, nu, t, c, rfl, _⟩ := h
    rfl
  · obtain ⟨lk, nu, t, c, rfl, h⟩ := h
    rcases h with ⟨rfl, h⟩ | ⟨rfl, h⟩ | ⟨rfl, h⟩ | ⟨rfl, h⟩
    · have h' := h
      obtain ⟨lk', dxl, t', v, b, e, hlk, _⟩ := h'
      cases e
      exact ⟨_, rfl, rfl, _, rfl, ifT rfl ⟨_, rfl, lk, dxl, _, rfl, hlk, rfl, _, rfl, h⟩⟩
    · obtain ⟨dxl, v, hlk⟩ := Asks.lk h
      exact ⟨_, rfl, rfl, _, rfl, ifF rfl ⟨_, rfl, rfl, _, rfl, ifT rfl ⟨_, rfl, lk, dxl, _, rfl, hlk, rfl, _, rfl, _, rfl, h⟩⟩⟩
    · obtain ⟨dxl, v, hlk⟩ := Asks.lk h
      exact ⟨_, rfl, rfl, _, rfl, ifF rfl ⟨_, rfl, rfl, _, rfl, ifF rfl ⟨_, rfl, rfl, _, rfl, ifT rfl ⟨_, rfl, lk, dxl, _, rfl, hlk, rfl, _, rfl, _, rfl, h⟩⟩⟩⟩
    · obtain ⟨dxl, v, hlk⟩ := Asks.lk h
      exact ⟨_, rfl, rfl, _, rfl, ifF rfl ⟨_, rfl, rfl, _, rfl, ifF rfl ⟨_, rfl, rfl, _, rfl, ifF rfl ⟨_, rfl, lk, dxl, _, rfl, hlk, rfl, _, rfl, _, rfl, h⟩⟩⟩⟩
end
end Tf
set_option Elab.async false
set_option linter.all false
set_option maxRecDepth 100000
set_option maxHeartbeats 16000000
/-! A call, answered or refused. -/
namespace Tf
open PySem PySem.Spec PyProof.Rows L2 TfX TfM
section
variable {P : Program} {w : World} {K : PySem.W.Frag} {mg : Str → Option Value} {base : Heap}
inductive CallIs (b : Tafl.Bytes) : Nat → List Int → TaflLook.Call → Prop
  | rules {ns : List Int} : CallIs b 0 ns (.rules b)
  | weigh {h m r : Int} : CallIs b 1 [h, m, r] (.weigh b h m r)
  | ahead {h m r : Int} {n most : Nat} : CallIs b 2 [h, m, r, n, most] (.ahead b h m r n most)
  | each {h m r : Int} {n most : Nat} : CallIs b 3 [h, m, r, n, most] (.each b h m r n most)
def spRefuse (K : PySem.W.Frag) : Sp := fun vs H Q _ => ∃ (G : Hp) (lk dxl nu t : Addr) (c : Nat) (st : Option Tafl.Rules) (ns : List Int) (b : Tafl.Bytes) (cl : TaflLook.Call), vs = [.ref lk, .int c, .ref nu, .ref t] ∧ Same G H ∧ G lk = none ∧ Lo K G H lk dxl st ∧ H nu = some (.lst (iz ns)) ∧ H t = some (.lst (bv b)) ∧ CallIs b c ns cl ∧
  ∀ G' H' a, Gr G H G' H' → But lk H H' → Lo K G' H' lk dxl (TaflLook.step st cl).1 → H a = none → H' a = some (.lst (iz (TaflLook.step st cl).2.nums)) → Q (.ref a) H'
def unG (G Gh : Hp) : Hp := fun a => match G a with
  | some o => some o
  | none => Gh a
theorem unG_l {G Gh : Hp} {a : Addr} {o : HO} (h : G a = some o) : unG G Gh a = some o := by
  unfold unG
  rw [h]
theorem unG_r {G Gh : Hp} {a : Addr} (h : G a = none) : unG G Gh a = Gh a := by
  unfold unG
  rw [h]
theorem Lo.same {G H H' : Hp} {lk dxl : Addr} {st : Option Tafl.Rules} (L : Lo K G H lk dxl st) (s : Same H H') : Lo K G H' lk dxl st := by
  cases st with
  | none => exact s _ _ L
  | some ru =>
    obtain ⟨h, dxh, r, e, X, F⟩ := L
    exact ⟨h, dxh, r, s _ _ e, X, F⟩
theorem within_no {ru : Tafl.Rules} {n most : Nat} {p : Tafl.Pos} (h : most < cnt ru n p) : TaflLook.within ru n most [p] = false := by
  rw [within_one]
  exact decide_eq_false (by omega)
theorem within_yes {ru : Tafl.Rules} {n most : Nat} {p : Tafl.Pos} (h : cnt ru n p ≤ most) : TaflLook.within ru n most [p] = true := by
  rw [within_one]
  exact decide_eq_true h
def Mk (Q : VK) (H' : Hp) (l : List Int) : Prop := ∀ a, H' a = none → Q (.ref a) (L2.upd H' a (.lst (iz l)))
/-- what a call asks for, its errors refused -/
theorem refuse {E : XK} {Q : VK} {G H : Hp} {lk dxl nu t : Addr} {c : Nat} {st : Option Tafl.Rules} {ns : List Int} {b : Tafl.Bytes} {cl : TaflLook.Call} (sG : Same G H) (nlk : G lk = none) (L : Lo K G H lk dxl st) (hnu : H nu = some (.lst (iz ns))) (ht : H t = some (.lst (bv b))) (hc : CallIs b c ns cl)
    (k : ∀ G' H' a, Gr G H G' H' → But lk H H' → Lo K G' H' lk dxl (TaflLook.step st cl).1 → H a = none → H' a = some (.lst (iz (TaflLook.step st cl).2.nums)) → Q (.ref a) H')
    (eT : ∀ (kd p : Nat) (d : Addr) (H' : Hp), H' d = some (.xd [("place", .int p), ("kind", .int kd)]) → Mk Q H' [-6, kd, p] → E (.ref (c_TextFault K)) (some d) H')
    (eL : ∀ (kd p : Nat) (d : Addr) (H' : Hp), H' d = some (.xd [("place", .int p), ("kind", .int kd)]) → Mk Q H' [-5, kd, p] → E (.ref (c_LineFault K)) (some d) H')
    (eN : ∀ H', Mk Q H' [-3] → E (.ref (c_NoRules K)) none H') (eW : ∀ H', Mk Q H' [-8] → E (.ref (c_WeightFault K)) none H') (eB : ∀ H', Mk Q H' [-1] → E (.ref (c_BoundsFault K)) none H') (eM : ∀ H', Mk Q H' [-9] → E (.ref (c_TooManyMoves K)) none H') :
    spCall K [.ref lk, .int c, .ref nu, .ref t] H Q E := by
  obtain ⟨v, hlk⟩ := L.ins
  -- nothing is changed
  have fin : ∀ (l : List Int), (TaflLook.step st cl).1 = st → (TaflLook.step st cl).2.nums = l → ∀ H', Same H H' → Mk Q H' l := fun l e1 e2 H' s a na => by
    refine k G _ a (Gr.start sG (s.trans (Same.upd na))) (Same.toBut (s.trans (Same.upd na))) ?_ (s.free na) ?_
    · rw [e1]
      exact L.same (s.trans (Same.upd na))
    · rw [upd_same, e2]
  have fin2 : ∀ (l : List Int), (TaflLook.step st cl).1 = st → (TaflLook.step st cl).2.nums = l → Answ Q H l := fun l e1 e2 H' a s na ha => by
    refine k G H' a (Gr.start sG s) (Same.toBut s) ?_ na ?_
    · rw [e1]
      exact L.same s
    · rw [ha, e2]
  refine ⟨lk, nu, t, c, rfl, ?_⟩
  cases hc with
  | rules =>
    refine .inl ⟨rfl, lk, dxl, t, v, b, rfl, hlk, ht, fun kd p hj d H' nd s' hd => eT kd p d H' hd (fin _ ?_ ?_ H' s'), fun ru hj F Gh H' h dxh r a XG sg og bt hlk' na ha => ?_⟩
    · unfold TaflLook.step
      dsimp only
      rw [hj]
    · unfold TaflLook.step
      dsimp only
      rw [hj]
      rfl
    · have e : TaflLook.step st (.rules b) = (some ru, Tafl.says 0) := by
        unfold TaflLook.step
        dsimp only
        rw [hj]
      have up : Same Gh (unG G Gh) := fun x o hx => by
        cases y : G x with
        | none =>
          rw [unG_r y]
          exact hx
        | some u =>
          have z := og x (by rw [sG _ _ y]; exact Option.some_ne_none _)
          rw [z] at hx
          cases hx
      refine k (unG G Gh) H' a ⟨fun x o hx => unG_l hx, fun x o hx => ?_, fun x h1 h2 => ?_⟩ bt ?_ na ?_
      · cases y : G x with
        | none =>
          rw [unG_r y] at hx
          exact sg _ _ hx
        | some u =>
          rw [unG_l y] at hx
          cases hx
          exact bt _ _ (sG _ _ y) (ne_of_none y nlk)
      · rw [unG_r h1]
        exact og x h2
      · rw [e]
        exact ⟨h, dxh, r, hlk', XG.same up, F⟩
      · rw [ha, e]
        rfl
  | weigh =>
    rename_i h m r
    refine .inr (.inl ⟨rfl, G, lk, dxl, nu, t, st, _, b, ⟨h, m, r⟩, rfl, sG, L, hnu, rfl, ht, fun e H' s' => eN H' (fin _ rfl (by rw [e]; rfl) H' s'), fun ru e => ⟨fun kd p hp d H' nd s' hd => eL kd p d H' hd (fin _ rfl ?_ H' s'), fun p hp => ⟨fun hw H' s' => eW H' (fin _ rfl ?_ H' s'), fun hw Gd => fin2 _ rfl ?_⟩⟩⟩)
    · rw [e]
      unfold TaflLook.step TaflLook.ofAll
      dsimp only
      rw [hp]
      rfl
    · rw [e]
      unfold TaflLook.step TaflLook.ofAll
      dsimp only
      rw [hp]
      dsimp only
      rw [if_pos hw]
      rfl
    · rw [e]
      unfold TaflLook.step TaflLook.ofAll
      dsimp only
      rw [hp]
      dsimp only
      rw [if_neg (by rw [hw]; exact Bool.noConfusion)]
      rfl
  | ahead =>
    rename_i h m r n most
    refine .inr (.inr (.inl ⟨rfl, G, lk, dxl, nu, t, st, _, b, ⟨h, m, r⟩, rfl, sG, L, hnu, rfl, ht, fun e H' s' => eN H' (fin _ rfl (by rw [e]; rfl) H' s'), fun ru e => ⟨fun kd p hp d H' nd s' hd => eL kd p d H' hd (fin _ rfl ?_ H' s'), fun p hp => ⟨fun hw H' s' => eW H' (fin _ rfl ?_ H' s'), fun hw Gd => ⟨n, most, rfl, rfl, fun hb H' s' => eB H' (fin _ rfl ?_ H' s'), fun hb => ⟨fun hl H' s' => eM H' (fin _ rfl ?_ H' s'), fun hl => fin2 _ rfl ?_⟩⟩⟩⟩⟩))
    · rw [e]
      unfold TaflLook.step TaflLook.ofAll
      dsimp only
      rw [hp]
      rfl
    · rw [e]
      unfold TaflLook.step TaflLook.ofAll
      dsimp only
      rw [hp]
      dsimp only
      rw [if_pos hw]
      rfl
    · rw [e]
      unfold TaflLook.step TaflLook.ofAll
      dsimp only
      rw [hp]
      dsimp only
      rw [if_neg (by rw [hw]; exact Bool.noConfusion)]
      unfold TaflLook.looked TaflLook.DEEP TaflLook.MOST
      rw [if_pos hb]
      rfl
    · rw [e]
      unfold TaflLook.step TaflLook.ofAll
      dsimp only
      rw [hp]
      dsimp only
      rw [if_neg (by rw [hw]; exact Bool.noConfusion)]
      unfold TaflLook.looked TaflLook.DEEP TaflLook.MOST
      rw [if_neg hb, if_pos (within_no hl)]
      rfl
    · rw [e]
      unfold TaflLook.step TaflLook.ofAll
      dsimp only
      rw [hp]
      dsimp only
      rw [if_neg (by rw [hw]; exact Bool.noConfusion)]
      unfold TaflLook.looked TaflLook.DEEP TaflLook.MOST
      rw [if_neg hb, if_neg (by rw [within_yes hl]; exact Bool.noConfusion)]
      unfold aheadL flatR rows Tafl.tells Tafl.Answer.nums
      simp only [List.flatMap_cons, List.flatMap_nil, Tafl.Item.nums, List.append_nil, List.cons_append, List.nil_append]
  | each =>
    rename_i h m r n most
    refine .inr (.inr (.inr ⟨rfl, G, lk, dxl, nu, t, st, _, b, ⟨h, m, r⟩, rfl, sG, L, hnu, rfl, ht, fun e H' s' => eN H' (fin _ rfl (by rw [e]; rfl) H' s'), fun ru e => ⟨fun kd p hp d H' nd s' hd => eL kd p d H' hd (fin _ rfl ?_ H' s'), fun p hp => ⟨fun hw H' s' => eW H' (fin _ rfl ?_ H' s'), fun hw Gd => ⟨n, most, rfl, rfl, fun hb H' s' => eB H' (fin _ rfl ?_ H' s'), fun hb => ⟨fun hl H' s' => eM H' (fin _ rfl ?_ H' s'), fun hl => fin2 _ rfl ?_⟩⟩⟩⟩⟩))
    · rw [e]
      unfold TaflLook.step TaflLook.ofAll
      dsimp only
      rw [hp]
      rfl
    · rw [e]
      unfold TaflLook.step TaflLook.ofAll
      dsimp only
      rw [hp]
      dsimp only
      rw [if_pos hw]
      rfl
    · rw [e]
      unfold TaflLook.step TaflLook.ofAll
      dsimp only
      rw [hp]
      dsimp only
      rw [if_neg (by rw [hw]; exact Bool.noConfusion)]
      unfold TaflLook.looked TaflLook.DEEP TaflLook.MOST
      rw [if_pos hb]
      rfl
    · rw [e]
      unfold TaflLook.step TaflLook.ofAll
      dsimp only
      rw [hp]
      dsimp only
      rw [if_neg (by rw [hw]; exact Bool.noConfusion)]
      unfold TaflLook.looked TaflLook.DEEP TaflLook.MOST
      rw [if_neg hb, if_pos (within_no hl)]
      rfl
    · rw [e]
      unfold TaflLook.step TaflLook.ofAll
      dsimp only
      rw [hp]
      dsimp only
      rw [if_neg (by rw [hw]; exact Bool.noConfusion)]
      unfold TaflLook.looked TaflLook.DEEP TaflLook.MOST
      rw [if_neg hb, if_neg (by rw [within_yes hl]; exact Bool.noConfusion)]
      unfold eachL Tafl.tells Tafl.Answer.nums
      simp only [List.flatMap_cons, List.flatMap_nil, Tafl.Item.nums, List.append_nil, List.cons_append, List.nil_append, List.length_map]
theorem ok_answer_or_refuse (T : Txt K mg) : FnOk P w K mg base CX0 19 (a_answer_or_refuse K) T.fd_answer_or_refuse p_answer_or_refuse (spRefuse K) := by
  refine T.F_answer_or_refuse.ok sc_answer_or_refuse (fun vs H Q E h => ?_) (fun cdv A outer sh H vs Q E hr h => ⟨_, PSs.nox (pss_one (ps_try_manyA (Wout := fun _ _ _ _ => False) rfl rfl sc_answer_or_refuse.nd (fun u s' x => by obtain ⟨a, B, sI, pins, σ, H, cls, d, e, I, nb, up, sky, na, os, ag, w⟩ := x; exact w.elim) (fun W pn xe tk _ => pss_one (ps_ret (pe_callS (ok_answer_call T) (hr.mono (by decide)) rfl T.g_answer_call T.F_answer_call.kp (b_answer_call T) (fun σ => passAt tk σ) (pa_cons (pv 0) (pa_cons (pv 1) (pa_cons (pv 2) (pa_cons (pv 3) pa_nil))))))) (HdsA.as (i := 4) ⟨rfl, by decide, .inl T.gc_TextFault⟩ rfl rfl (fun a oe cls d pn hz hf => pss_one (ps_ret (pe_lst (pa_cons (pe_un un_neg pe_int) (pa_cons (pe_xf T.xf_TextFault T.nf_TextFault_kind hz hf (pv 4)) (pa_cons (pe_xf T.xf_TextFault T.nf_TextFault_place hz hf (pv 4)) pa_nil)))))) (HdsA.as (i := 4) ⟨rfl, by decide, .inl T.gc_LineFault⟩ rfl rfl (fun a oe cls d pn hz hf => pss_one (ps_ret (pe_lst (pa_cons (pe_un un_neg pe_int) (pa_cons (pe_xf T.xf_LineFault T.nf_LineFault_kind hz hf (pv 4)) (pa_cons (pe_xf T.xf_LineFault T.nf_LineFault_place hz hf (pv 4)) pa_nil)))))) (HdsA.cons ⟨rfl, by decide, .inl T.gc_NoRules⟩ (fun a oe cls d pn hz hf => pss_one (ps_ret (pe_lst (pa_cons (pe_un un_neg pe_int) pa_nil)))) (HdsA.cons ⟨rfl, by decide, .inl T.gc_WeightFault⟩ (fun a oe cls d pn hz hf => pss_one (ps_ret (pe_lst (pa_cons (pe_un un_neg pe_int) pa_nil)))) (HdsA.cons ⟨rfl, by decide, .inl T.gc_BoundsFault⟩ (fun a oe cls d pn hz hf => pss_one (ps_ret (pe_lst (pa_cons (pe_un un_neg pe_int) pa_nil)))) (HdsA.cons ⟨rfl, by decide, .inl T.gc_TooManyMoves⟩ (fun a oe cls d pn hz hf => pss_one (ps_ret (pe_lst (pa_cons (pe_un un_neg pe_int) pa_nil)))) HdsA.nil)))))))), ?_⟩)
  · obtain ⟨G, lk, dxl, nu, t, c, st, ns, b, cl, rfl, _⟩ := h
    rfl
  · obtain ⟨G, lk, dxl, nu, t, c, st, ns, b, cl, rfl, sG, nlk, L, hnu, ht, hc, k⟩ := h
    have nf : ∀ {A : Prop}, (true = false → A) := fun {A} y => Bool.noConfusion y
    have nt : ∀ {A : Prop}, (false = true → A) := fun {A} y => Bool.noConfusion y
    refine ⟨_, rfl, _, rfl, _, rfl, _, rfl, refuse sG nlk L hnu ht hc k ?_ ?_ ?_ ?_ ?_ ?_⟩
    · intro kd p d H' hd mk
      exact ⟨true, T.e_TextFault_TextFault, fun _ a na => ⟨_, rfl, _, rfl, rfl, rfl, d, _, _, rfl, hd, rfl, _, rfl, rfl, rfl, d, _, _, rfl, hd, rfl, (by show 3 ≤ sizeLine; decide), mk⟩, nf⟩
    · intro kd p d H' hd mk
      exact ⟨false, T.e_LineFault_TextFault, nt, fun _ => ⟨true, T.e_LineFault_LineFault, fun _ a na => ⟨_, rfl, _, rfl, rfl, rfl, d, _, _, rfl, hd, rfl, _, rfl, rfl, rfl, d, _, _, rfl, hd, rfl, (by show 3 ≤ sizeLine; decide), mk⟩, nf⟩⟩
    · intro H' mk
      exact ⟨false, T.e_NoRules_TextFault, nt, fun _ => ⟨false, T.e_NoRules_LineFault, nt, fun _ => ⟨true, T.e_NoRules_NoRules, fun _ a na => ⟨_, rfl, (by show 1 ≤ sizeLine; decide), mk⟩, nf⟩⟩⟩
    · intro H' mk
      exact ⟨false, T.e_WeightFault_TextFault, nt, fun _ => ⟨false, T.e_WeightFault_LineFault, nt, fun _ => ⟨false, T.e_WeightFault_NoRules, nt, fun _ => ⟨true, T.e_WeightFault_WeightFault, fun _ a na => ⟨_, rfl, (by show 1 ≤ sizeLine; decide), mk⟩, nf⟩⟩⟩⟩
    · intro H' mk
      exact ⟨false, T.e_BoundsFault_TextFault, nt, fun _ => ⟨false, T.e_BoundsFault_LineFault, nt, fun _ => ⟨false, T.e_BoundsFault_NoRules, nt, fun _ => ⟨false, T.e_BoundsFault_WeightFault, nt, fun _ => ⟨true, T.e_BoundsFault_BoundsFault, fun _ a na => ⟨_, rfl, (by show 1 ≤ sizeLine; decide), mk⟩, nf⟩⟩⟩⟩⟩
    · intro H' mk
      exact ⟨false, T.e_TooManyMoves_TextFault, nt, fun _ => ⟨false, T.e_TooManyMoves_LineFault, nt, fun _ => ⟨false, T.e_TooManyMoves_NoRules, nt, fun _ => ⟨false, T.e_TooManyMoves_WeightFault, nt, fun _ => ⟨false, T.e_TooManyMoves_BoundsFault, nt, fun _ => ⟨true, T.e_TooManyMoves_TooManyMoves, fun _ a na => ⟨_, rfl, (by show 1 ≤ sizeLine; decide), mk⟩, nf⟩⟩⟩⟩⟩⟩
end
end Tf
set_option Elab.async false
set_option linter.all false
set_option maxRecDepth 100000
set_option maxHeartbeats 16000000
/-! All calls: the numbers. -/
namespace Tf
open TfM
theorem whole_id (c : List (List Int)) : PyWqacdd.whole c = c := by
  unfold PyWqacdd.whole
  split <;> rfl
def bof (x : List Int) : Tafl.Bytes := x.map fun (n : Int) => UInt8.ofNat n.toNat
theorem bof_iz {x : List Int} (h : ∀ z ∈ x, 0 ≤ z ∧ z ≤ 255) : bv (bof x) = iz x := by
  unfold bv bof iz
  rw [List.map_map]
  refine List.map_congr_left fun z hz => ?_
  obtain ⟨h1, h2⟩ := h z hz
  show L2.V.int (((UInt8.ofNat z.toNat).toNat : Nat) : Int) = L2.V.int z
  have e : (UInt8.ofNat z.toNat).toNat = z.toNat := by
    rw [UInt8.toNat_ofNat']
    omega
  rw [e]
  congr 1
  omega
theorem text_bof {x : List Int} (h : ∀ z ∈ x, 0 ≤ z ∧ z ≤ 255) : Tafl.text? x = some (bof x) := by
  unfold Tafl.text?
  have e : NeutralIO.bytes x = true := by
    unfold NeutralIO.bytes
    rw [List.all_eq_true]
    intro z hz
    obtain ⟨h1, h2⟩ := h z hz
    rw [decide_eq_true h1, decide_eq_true h2]
    rfl
  rw [if_pos e]
  rfl
theorem all_bytes {x : List Int} (h : (x.all fun (z : Int) => decide (0 ≤ z) && decide (z ≤ 255)) = true) : ∀ z ∈ x, 0 ≤ z ∧ z ≤ 255 := fun z hz => by
  have y := List.all_eq_true.mp h z hz
  rw [Bool.and_eq_true, decide_eq_true_eq, decide_eq_true_eq] at y
  exact y
def nums4 : List Int := [0, 3, 5, 5]
/-- a call that may be asked -/
theorem call_ok {c : List (List Int)} (ok : PyFlat.okCall PyWqacdd.shape c) (ask : TaflLookNeutral.asked1 c = true) : ∃ (n : Nat) (a x : List Int) (cl : TaflLook.Call), c = [(n : Int) :: a, x] ∧ (∀ z ∈ x, 0 ≤ z ∧ z ≤ 255) ∧ CallIs (bof x) n a cl ∧ nums4[n]? = some (a.length : Int) ∧
    ∀ s, TaflLookNeutral.step s c = ((TaflLook.step s cl).1, (TaflLook.step s cl).2.nums) := by
  obtain ⟨p, a, xs, rfl, hs⟩ := ok
  unfold PyWqacdd.shape at hs
  have one : ∀ {k : Nat}, some (k, 1) = some (a.length, xs.length) → a.length = k ∧ ∃ x, xs = [x] := fun {k} e => by
    have e := Option.some.inj e
    have e1 := (Prod.mk.inj e).1
    have e2 := (Prod.mk.inj e).2
    refine ⟨e1.symm, ?_⟩
    match xs, e2 with
    | [x], _ => exact ⟨x, rfl⟩
  by_cases h0 : p = 0
  · rw [if_pos h0] at hs
    obtain ⟨e1, x, rfl⟩ := one hs
    have e1 : a = [] := List.length_eq_zero_iff.mp e1
    subst e1 h0
    have hb := all_bytes (x := x) ask
    refine ⟨0, [], x, .rules (bof x), rfl, hb, .rules, rfl, fun s => ?_⟩
    have e : TaflLookNeutral.callOf [[0], x] = some (.rules (bof x)) := by
      show (Tafl.text? x).map TaflLook.Call.rules = _
      rw [text_bof hb]
      rfl
    unfold TaflLookNeutral.step
    rw [e]
  rw [if_neg h0] at hs
  by_cases h1 : p = 1
  · rw [if_pos h1] at hs
    obtain ⟨e1, x, rfl⟩ := one hs
    match a, e1 with
    | [h, m, r], _ =>
      subst h1
      have hb := all_bytes (x := x) ask
      refine ⟨1, [h, m, r], x, .weigh (bof x) h m r, rfl, hb, .weigh, rfl, fun s => ?_⟩
      have e : TaflLookNeutral.callOf [[1, h, m, r], x] = some (.weigh (bof x) h m r) := by
        show (Tafl.text? x).map (fun (x : Tafl.Bytes) => TaflLook.Call.weigh x h m r) = _
        rw [text_bof hb]
        rfl
      unfold TaflLookNeutral.step
      rw [e]
  rw [if_neg h1] at hs
  by_cases h2 : p = 2
  · rw [if_pos h2] at hs
    obtain ⟨e1, x, rfl⟩ := one hs
    match a, e1 with
    | [h, m, r, n, most], _ =>
      subst h2
      have ask : (decide (0 ≤ n) && (decide (0 ≤ most) && x.all (fun (z : Int) => decide (0 ≤ z) && decide (z ≤ 255)))) = true := ask
      rw [Bool.and_eq_true, Bool.and_eq_true, decide_eq_true_eq, decide_eq_true_eq] at ask
      obtain ⟨hn, hm, hx⟩ := ask
      have hb := all_bytes hx
      obtain ⟨n', rfl⟩ : ∃ n' : Nat, n = n' := ⟨n.toNat, by omega⟩
      obtain ⟨m', rfl⟩ : ∃ m' : Nat, most = m' := ⟨most.toNat, by omega⟩
      refine ⟨2, [h, m, r, n', m'], x, .ahead (bof x) h m r n' m', rfl, hb, .ahead, rfl, fun s => ?_⟩
      have e : TaflLookNeutral.callOf [[2, h, m, r, (n' : Int), (m' : Int)], x] = some (.ahead (bof x) h m r n' m') := by
        show (do return TaflLook.Call.ahead (← Tafl.text? x) h m r (← Tafl.nat? (n' : Int)) (← Tafl.nat? (m' : Int))) = _
        have e1 : Tafl.nat? (n' : Int) = some n' := if_pos hn
        have e2 : Tafl.nat? (m' : Int) = some m' := if_pos hm
        rw [text_bof hb, e1, e2]
        rfl
      unfold TaflLookNeutral.step
      rw [e]
  rw [if_neg h2] at hs
  by_cases h3 : p = 3
  · rw [if_pos h3] at hs
    obtain ⟨e1, x, rfl⟩ := one hs
    match a, e1 with
    | [h, m, r, n, most], _ =>
      subst h3
      have ask : (decide (0 ≤ n) && (decide (0 ≤ most) && x.all (fun (z : Int) => decide (0 ≤ z) && decide (z ≤ 255)))) = true := ask
      rw [Bool.and_eq_true, Bool.and_eq_true, decide_eq_true_eq, decide_eq_true_eq] at ask
      obtain ⟨hn, hm, hx⟩ := ask
      have hb := all_bytes hx
      obtain ⟨n', rfl⟩ : ∃ n' : Nat, n = n' := ⟨n.toNat, by omega⟩
      obtain ⟨m', rfl⟩ : ∃ m' : Nat, most = m' := ⟨most.toNat, by omega⟩
      refine ⟨3, [h, m, r, n', m'], x, .each (bof x) h m r n' m', rfl, hb, .each, rfl, fun s => ?_⟩
      have e : TaflLookNeutral.callOf [[3, h, m, r, (n' : Int), (m' : Int)], x] = some (.each (bof x) h m r n' m') := by
        show (do return TaflLook.Call.each (← Tafl.text? x) h m r (← Tafl.nat? (n' : Int)) (← Tafl.nat? (m' : Int))) = _
        have e1 : Tafl.nat? (n' : Int) = some n' := if_pos hn
        have e2 : Tafl.nat? (m' : Int) = some m' := if_pos hm
        rw [text_bof hb, e1, e2]
        rfl
      unfold TaflLookNeutral.step
      rw [e]
  rw [if_neg h3] at hs
  cases hs
/-- what is asked, whole -/
theorem asked_of {l : List Int} (h : PyWqacdd.answers_asked l = true) : ∃ cs, l = PyFlat.put cs ∧ (∀ c ∈ cs, PyFlat.okCall PyWqacdd.shape c ∧ TaflLookNeutral.asked1 c = true) ∧ cs.length ≤ 300 ∧ PyWqacdd.answers l = PyFlat.told (PyFlat.played TaflLookNeutral.step TaflLookNeutral.start cs) := by
  unfold PyWqacdd.answers_asked at h
  cases hc : PyFlat.calls PyWqacdd.shape l.length l with
  | none =>
    rw [hc] at h
    cases h
  | some cs =>
    rw [hc] at h
    dsimp only at h
    have em : cs.map PyWqacdd.whole = cs := by
      have : cs.map PyWqacdd.whole = cs.map id := List.map_congr_left fun c _ => whole_id c
      rw [this, List.map_id]
    rw [em, Bool.and_eq_true, Bool.and_eq_true, Bool.and_eq_true] at h
    obtain ⟨⟨⟨_, h2⟩, _⟩, h4⟩ := h
    obtain ⟨e, ok⟩ := PyFlat.put_calls _ _ _ hc
    unfold TaflLookNeutral.asked at h4
    rw [Bool.and_eq_true, List.all_eq_true] at h4
    refine ⟨cs, e, fun c hcs => ⟨ok c hcs, h4.2 c hcs⟩, of_decide_eq_true h2, ?_⟩
    unfold PyWqacdd.answers PyWqacdd.calls
    rw [hc]
    dsimp only
    rw [em]
/-! ### an answer is not long -/
theorem flat_len : ∀ l : List (List Nat), (∀ x ∈ l, x.length ≤ 195) → (flatR l).length ≤ 196 * l.length
  | [], _ => Nat.zero_le _
  | x :: l, h => by
    have ih := flat_len l fun y hy => h y (List.mem_cons_of_mem _ hy)
    have hx := h x List.mem_cons_self
    unfold flatR at ih ⊢
    have e : (Tafl.asInts x).length = x.length := List.length_map ..
    rw [List.flatMap_cons, List.length_append, List.length_cons, List.length_cons, e]
    omega
theorem nums_len (st : Option Tafl.Rules) (cl : TaflLook.Call) : (TaflLook.step st cl).2.nums.length ≤ 1000 := by
  have all : ∀ (b : Tafl.Bytes) (W : Tafl.Weights) (f : Tafl.Rules → Tafl.Pos → Tafl.Answer), (∀ r p, (f r p).nums.length ≤ 1000) → (TaflLook.ofAll st b W f).2.nums.length ≤ 1000 := fun b W f hf => by
    unfold TaflLook.ofAll
    cases st with
    | none => exact (by decide : 1 ≤ 1000)
    | some r =>
      dsimp only
      cases r.readLine b with
      | error q => exact (by decide : 3 ≤ 1000)
      | ok p =>
        dsimp only
        by_cases h : W.right = false
        · rw [if_pos h]
          exact (by decide : 1 ≤ 1000)
        · rw [if_neg h]
          exact hf r p
  cases cl with
  | rules t =>
    unfold TaflLook.step
    dsimp only
    cases Tafl.judge t with
    | error q => exact (by decide : 3 ≤ 1000)
    | ok r => exact (by decide : 1 ≤ 1000)
  | weigh b h m d =>
    exact all b ⟨h, m, d⟩ _ fun r p => (by decide : 2 ≤ 1000)
  | ahead b h m d n most =>
    refine all b ⟨h, m, d⟩ _ fun r p => ?_
    unfold TaflLook.looked
    by_cases h1 : n < 0 ∨ TaflLook.DEEP < n ∨ most = 0 ∨ TaflLook.MOST < most
    · rw [if_pos h1]
      exact (by decide : 1 ≤ 1000)
    · rw [if_neg h1]
      split
      · exact (by decide : 1 ≤ 1000)
      · have e : (Tafl.tells 0 [.num (r.worth ⟨h, m, d⟩ n 0 p), .rows ((r.rowOn ⟨h, m, d⟩ n 0 p).map fun (x : (Nat × Nat) × Tafl.Pos) => TaflLook.toldMove r x.2 x.1)]).nums = aheadL r ⟨h, m, d⟩ n p := by
          unfold aheadL flatR rows Tafl.tells Tafl.Answer.nums
          simp only [List.flatMap_cons, List.flatMap_nil, Tafl.Item.nums, List.append_nil, List.cons_append, List.nil_append]
        rw [e]
        unfold aheadL
        have rl := rows_len r ⟨h, m, d⟩ n 0 p
        have fl := flat_len (rows r ⟨h, m, d⟩ n 0 p) fun x hx => by
          unfold rows at hx
          obtain ⟨z, _, rfl⟩ := List.mem_map.mp hx
          exact told_len
        unfold TaflLook.DEEP at h1
        simp only [List.length_cons]
        omega
  | each b h m d n most =>
    refine all b ⟨h, m, d⟩ _ fun r p => ?_
    unfold TaflLook.looked
    by_cases h1 : n < 1 ∨ TaflLook.DEEP < n ∨ most = 0 ∨ TaflLook.MOST < most
    · rw [if_pos h1]
      exact (by decide : 1 ≤ 1000)
    · rw [if_neg h1]
      split
      · exact (by decide : 1 ≤ 1000)
      · rename_i hw
        have e : (Tafl.tells 0 [.ints ((r.moves p).map fun (x : Nat × Nat) => r.worth ⟨h, m, d⟩ (n - 1) 1 (r.comes p x))]).nums = eachL r ⟨h, m, d⟩ (n - 1) p := by
          unfold eachL Tafl.tells Tafl.Answer.nums
          simp only [List.flatMap_cons, List.flatMap_nil, Tafl.Item.nums, List.append_nil, List.cons_append, List.nil_append, List.length_map]
        rw [e]
        unfold eachL
        unfold TaflLook.MOST at h1
        rw [within_one] at hw
        obtain ⟨n', rfl⟩ : ∃ n', n = n' + 1 := ⟨n - 1, by omega⟩
        have y : cnt r (n' + 1) p = (r.moves p).length + ((r.moves p).map fun m => cnt r n' (r.comes p m)).sum := rfl
        have hw2 : cnt r (n' + 1) p ≤ most := by simpa using hw
        rw [List.length_cons, List.length_cons, List.length_map]
        omega
end Tf
set_option Elab.async false
set_option linter.all false
set_option maxRecDepth 100000
set_option maxHeartbeats 16000000
/-! All calls. -/
namespace Tf
open PySem PySem.Spec PyProof.Rows L2 TfX TfM
section
variable {P : Program} {w : World} {K : PySem.W.Frag} {mg : Str → Option Value} {base : Heap}
theorem sq_same {H H' : Hp} {a : Addr} {xs : List V} (h : SqL K H a xs) (s : Same H H') : SqL K H' a xs := by
  rcases h with (h | ⟨o, h⟩) | h
  · exact .inl (.inl (s _ _ h))
  · exact .inl (.inr ⟨o, s _ _ h⟩)
  · exact .inr h
theorem cut_mid (A B C : List Int) {i j : Int} (hi : i = (A.length : Nat)) (hj : j = ((A.length + B.length : Nat) : Int)) : cutV (iz (A ++ (B ++ C))) (some i) (some j) = iz B := by
  subst hi hj
  unfold cutV
  rw [HT.sIx_nat, HT.sIx_nat, iz_len, List.length_append, List.length_append]
  have e1 : min A.length (A.length + (B.length + C.length)) = A.length := by omega
  have e2 : min (A.length + B.length) (A.length + (B.length + C.length)) = A.length + B.length := by omega
  rw [e1, e2]
  unfold iz
  rw [← List.map_drop, ← List.map_take, List.drop_left, show A.length + B.length - A.length = B.length by omega, List.take_left]
theorem Lo.put {G H : Hp} {lk dxl D : Addr} {o : HO} {st : Option Tafl.Rules} (L : Lo K G H lk dxl st) (n : lk ≠ D) : Lo K G (L2.upd H D o) lk dxl st := by
  cases st with
  | none =>
    show L2.upd H D o lk = _
    rw [upd_ne n]
    exact L
  | some ru =>
    obtain ⟨h, dxh, r, e, X, F⟩ := L
    exact ⟨h, dxh, r, by rw [upd_ne n]; exact e, X, F⟩
def spAnswers (K : PySem.W.Frag) : Sp := fun vs H Q _ => ∃ (cl : Addr) (l : List Int), vs = [.ref cl] ∧ SqL K H cl (iz l) ∧ PyWqacdd.answers_asked l = true ∧ ∀ H' D, H' D = some (.lst (iz (PyWqacdd.answers l))) → Q (.ref D) H'
theorem ok_answers (T : Txt K mg) : FnOk P w K mg base CX0 20 (a_answers K) T.fd_answers p_answers (spAnswers K) := by
  refine T.F_answers.ok sc_answers (fun vs H Q E h => ?_) (fun cdv A outer sh H vs Q E hr h => ⟨_, PSs.nox (pss_cons (ps_set (i := 1) sc_answers.nd rfl (Or.inl rfl) (pe_make0 T.mk_Looker (ok_Looker_init T) (hr.mono (by decide)) rfl T.gc_Looker (b_Looker_init T) .nil pass0))
      (pss_cons (ps_set (i := 2) sc_answers.nd rfl (Or.inl rfl) (pe_lst pa_nil))
      (pss_cons (ps_set (i := 3) sc_answers.nd rfl (Or.inl rfl) pe_int)
      (pss_cons (ps_while PassesOwn.never (pt_cmpR op_lt (pv 3) (pe_callB call_len_seq (by rfl) T.m_len (by decide +kernel) (pa_cons (pv 0) pa_nil)) (nomark _)) (pss_cons (ps_set (i := 4) sc_answers.nd rfl (Or.inl rfl) (pe_ix ix_list (pv 0) (pv 3) (fun _ _ => rfl)))
      (pss_cons (ps_set (i := 5) sc_answers.nd rfl (Or.inl rfl) (pe_op op_add (pe_op op_add (pv 3) pe_int) (pe_ix ix_tup (pe_glob (v := .ref (He.ga K "NUMBERS")) rfl T.g_NUMBERS rfl) (pv 4) (fun _ _ => rfl))))
      (pss_cons (ps_set (i := 6) sc_answers.nd rfl (Or.inl rfl) (pe_slice sl_list (pv 0) (po_some (pe_op op_add (pv 3) pe_int)) (po_some (pv 5))))
      (pss_cons (ps_set (i := 7) sc_answers.nd rfl (Or.inl rfl) (pe_op op_add (pe_op op_add (pv 5) pe_int) (pe_ix ix_list (pv 0) (pv 5) (fun _ _ => rfl))))
      (pss_cons (ps_set (i := 8) sc_answers.nd rfl (Or.inl rfl) (pe_call (ok_answer_or_refuse T) (hr.mono (by decide)) rfl T.g_answer_or_refuse T.F_answer_or_refuse.kp (b_answer_or_refuse T) .nil pass0 (pa_cons (pv 1) (pa_cons (pv 4) (pa_cons (pv 6) (pa_cons (pe_slice sl_list (pv 0) (po_some (pe_op op_add (pv 5) pe_int)) (po_some (pv 7))) pa_nil))))))
      (pss_cons (ps_expr (pe_bm PySem.F.plainAttrs_list PySem.F.slot_list_append PySem.F.type_list_append mt_append (pv 2) (pa_cons (pe_callB call_len_seq (by rfl) T.m_len (by decide +kernel) (pa_cons (pv 8) pa_nil)) pa_nil)))
      (pss_cons (ps_expr (pe_bm PySem.F.plainAttrs_list PySem.F.slot_list_extend PySem.F.type_list_extend mt_extend (pv 2) (pa_cons (pv 8) pa_nil)))
      (pss_one (ps_set (i := 3) sc_answers.nd rfl (Or.inl rfl) (pv 7)))))))))))
      (pss_one (ps_ret (pv 2))))))), ?_⟩)
  · obtain ⟨cl, l, rfl, _⟩ := h
    rfl
  · obtain ⟨cl, l, rfl, hs, hask, k⟩ := h
    obtain ⟨cs, hl, hok, hcs, hans⟩ := asked_of hask
    refine fun lk dxl nlk ndl nel => ⟨lk, dxl, rfl, upd_same, fun H1 h1 b1 => ⟨rfl, ?_⟩⟩
    have s1 := made_same nlk ndl b1
    refine ⟨Nat.zero_le _, fun D nD => ?_⟩
    have nDl : lk ≠ D := ne_of_none h1 nD
    have nDH : H D = none := s1.free nD
    refine ⟨fun m σ H' => ∃ (pre : List Int) (rest : List (List (List Int))) (st : Option Tafl.Rules) (Tl : List Int) (G : Hp) (x4 x5 x6 x7 x8 : Option V), σ = [some (.ref cl), some (.ref lk), some (.ref D), some (.int (pre.length : Nat)), x4, x5, x6, x7, x8] ∧ m = rest.length ∧ l = pre ++ PyFlat.put rest ∧ (∀ c ∈ rest, PyFlat.okCall PyWqacdd.shape c ∧ TaflLookNeutral.asked1 c = true) ∧
      Tl ++ PyFlat.told (PyFlat.played TaflLookNeutral.step st rest) = PyWqacdd.answers l ∧ Tl.length + 1001 * rest.length ≤ 300300 ∧ Same H H' ∧ Same G H' ∧ G lk = none ∧ G D = none ∧ Lo K G H' lk dxl st ∧ H' D = some (.lst (iz Tl)), ⟨_, [], cs, none, [], fun _ => none, none, none, none, none, none, rfl, rfl, hl, hok, hans.symm, by simp only [List.length_nil]; omega, s1.trans (Same.upd nD), fun _ _ h => (by cases h), rfl, rfl, ?_, upd_same⟩, ?_⟩
    · show L2.upd H1 D _ lk = _
      rw [upd_ne nDl]
      exact h1
    rintro m σ Hc ⟨pre, rest, st, Tl, G, x4, x5, x6, x7, x8, rfl, rfl, el, hok, eT, hlen, sH, sG, nGl, nGD, L, hD⟩
    have hsc := sq_same hs sH
    refine ⟨_, rfl, _, rfl, cl, _, rfl, .inl hsc, _, _, rfl, rfl, _, rfl, ?_⟩
    refine ifB (fun c1 => ?_) fun c1 => ?_
    · have y1 : (pre.length : Int) < ((iz l).length : Int) := of_decide_eq_true c1
      rw [iz_len, el, List.length_append] at y1
      cases rest with
      | nil =>
        exfalso
        have : (PyFlat.put []).length = 0 := rfl
        omega
      | cons c rest =>
        obtain ⟨okc, askc⟩ := hok c List.mem_cons_self
        obtain ⟨n, a, x, call, rfl, hx, hcall, hnum, hstep⟩ := call_ok okc askc
        have en : PyFlat.put ([(n : Int) :: a, x] :: rest) = ((n : Int) :: a) ++ (((x.length : Int) :: x) ++ PyFlat.put rest) := by
          show (((n : Int) :: a) ++ (((x.length : Int) :: x) ++ [])) ++ PyFlat.put rest = _
          rw [List.append_nil, List.append_assoc]
        rw [en] at el
        have el1 : l = pre ++ ((n : Int) :: (a ++ (((x.length : Int) :: x) ++ PyFlat.put rest))) := el
        have el2 : l = (pre ++ [(n : Int)]) ++ (a ++ (((x.length : Int) :: x) ++ PyFlat.put rest)) := by rw [el1]; simp
        have el3 : l = (pre ++ [(n : Int)] ++ a) ++ ((x.length : Int) :: (x ++ PyFlat.put rest)) := by rw [el1]; simp
        have el4 : l = (pre ++ [(n : Int)] ++ a ++ [(x.length : Int)]) ++ (x ++ PyFlat.put rest) := by rw [el1]; simp
        have el5 : l = (pre ++ [(n : Int)] ++ a ++ [(x.length : Int)] ++ x) ++ PyFlat.put rest := by rw [el1]; simp
        have i0 : (iz l)[pre.length]? = some (.int n) := iz_at (by rw [el1, List.getElem?_append_right (Nat.le_refl _), Nat.sub_self]; rfl)
        have le3 : (pre ++ [(n : Int)] ++ a).length = pre.length + 1 + a.length := by simp; omega
        have le4 : (pre ++ [(n : Int)] ++ a ++ [(x.length : Int)]).length = pre.length + 1 + a.length + 1 := by simp; omega
        have le5 : (pre ++ [(n : Int)] ++ a ++ [(x.length : Int)] ++ x).length = pre.length + 1 + a.length + 1 + x.length := by simp; omega
        have i1 : (iz l)[pre.length + 1 + a.length]? = some (.int (x.length : Nat)) := iz_at (by rw [el3, ← le3, List.getElem?_append_right (Nat.le_refl _), Nat.sub_self]; rfl)
        have e5 : (pre.length : Int) + 1 + (a.length : Int) = ((pre.length + 1 + a.length : Nat) : Int) := by omega
        have at5 : atI (iz l) ((pre.length : Int) + 1 + (a.length : Int)) = some (.int (x.length : Nat)) := by
          rw [e5]
          exact atI_nat i1
        have num4 : ([V.int 0, V.int 3, V.int 5, V.int 5] : List V)[n]? = some (.int (a.length : Int)) := iz_at (l := nums4) hnum
        have cutA : cutV (iz l) (some ((pre.length : Int) + 1)) (some ((pre.length : Int) + 1 + (a.length : Int))) = iz a := by
          rw [el2]
          refine cut_mid _ _ _ ?_ ?_
          · simp
          · simp
        have cutX : cutV (iz l) (some ((pre.length : Int) + 1 + (a.length : Int) + 1)) (some ((pre.length : Int) + 1 + (a.length : Int) + 1 + (x.length : Int))) = iz x := by
          rw [el4]
          refine cut_mid _ _ _ ?_ ?_
          · rw [le4]
            omega
          · rw [le4]
            omega
        refine ⟨fun σ' H2 => ∃ m', m' < (([(n : Int) :: a, x] :: rest).length) ∧ ∃ (pre : List Int) (rest : List (List (List Int))) (st : Option Tafl.Rules) (Tl : List Int) (G : Hp) (x4 x5 x6 x7 x8 : Option V), σ' = [some (.ref cl), some (.ref lk), some (.ref D), some (.int (pre.length : Nat)), x4, x5, x6, x7, x8] ∧ m' = rest.length ∧ l = pre ++ PyFlat.put rest ∧ (∀ c ∈ rest, PyFlat.okCall PyWqacdd.shape c ∧ TaflLookNeutral.asked1 c = true) ∧
          Tl ++ PyFlat.told (PyFlat.played TaflLookNeutral.step st rest) = PyWqacdd.answers l ∧ Tl.length + 1001 * rest.length ≤ 300300 ∧ Same H H2 ∧ Same G H2 ∧ G lk = none ∧ G D = none ∧ Lo K G H2 lk dxl st ∧ H2 D = some (.lst (iz Tl)), fun _ _ z => z, ?_⟩
        refine ⟨_, rfl, _, rfl, cl, _, _, _, rfl, rfl, hsc, atI_nat i0, ?_⟩
        refine ⟨_, rfl, _, _, rfl, rfl, _, rfl, _, _, _, _, rfl, rfl, T.t_NUMBERS _, atI_nat num4, _, _, rfl, rfl, ?_⟩
        refine ⟨_, rfl, _, rfl, _, _, rfl, rfl, _, rfl, _, rfl, _, rfl, cl, _, rfl, hsc, fun N nN => ?_⟩
        rw [cutA]
        have sN : Same Hc (L2.upd Hc N (.lst (iz a))) := Same.upd nN
        generalize hH1 : L2.upd Hc N (.lst (iz a)) = Ha at sN
        have hN : Ha N = some (.lst (iz a)) := by rw [← hH1]; exact upd_same
        clear hH1
        refine ⟨_, rfl, _, _, rfl, rfl, _, rfl, _, rfl, cl, _, _, _, rfl, rfl, sq_same hsc sN, at5, _, _, rfl, rfl, ?_⟩
        refine ⟨_, rfl, _, rfl, _, rfl, _, rfl, _, rfl, _, _, rfl, rfl, _, rfl, _, rfl, _, rfl, cl, _, rfl, sq_same hsc sN, fun R nR => ?_⟩
        rw [cutX]
        have sR : Same Ha (L2.upd Ha R (.lst (iz x))) := Same.upd nR
        generalize hH2 : L2.upd Ha R (.lst (iz x)) = Hb at sR
        have hR : Hb R = some (.lst (iz x)) := by rw [← hH2]; exact upd_same
        clear hH2
        have sb : Same Hc Hb := sN.trans sR
        have hDb := sb _ _ hD
        obtain ⟨v, hlk⟩ := L.ins
        have hlkb := sb _ _ hlk
        refine ⟨G, lk, dxl, N, R, n, st, a, bof x, call, rfl, sG.trans sb, nGl, L.same sb, sR _ _ hN, by rw [bof_iz hx]; exact hR, hcall, fun G' H3 an g b3 L3 nan han => ?_⟩
        have hD3 := b3 _ _ hDb (Ne.symm nDl)
        have nGl' : G' lk = none := g.off lk nGl (by rw [hlkb]; exact Option.some_ne_none _)
        have nGD' : G' D = none := g.off D nGD (by rw [hDb]; exact Option.some_ne_none _)
        have nad : an ≠ D := fun e => by rw [e, hDb] at nan; cases nan
        have nl := nums_len st call
        generalize hnums : (TaflLook.step st call).2.nums = nums at han nl
        have y3 : (1000000 : Nat) < sizeLine := by decide
        rw [List.length_cons] at hlen
        refine ⟨_, rfl, tyL hD3, _, rfl, an, _, rfl, .inl (SqL.of han), D, _, _, rfl, rfl, hD3, ?_, ?_⟩
        · rw [iz_len]
          omega
        have han4 : ∀ o, (L2.upd H3 D o) an = some (.lst (iz nums)) := fun o => by rw [upd_ne nad]; exact han
        refine ⟨_, rfl, tyL upd_same, _, rfl, D, an, _, _, rfl, rfl, upd_same, han4 _, ?_, ?_⟩
        · rw [List.length_append, iz_len, iz_len]
          show Tl.length + 1 + nums.length ≤ _
          omega
        rw [upd_upd, iz_len]
        have eD : iz Tl ++ [V.int (nums.length : Int)] ++ iz nums = iz (Tl ++ ((nums.length : Int) :: nums)) := by
          show iz Tl ++ iz [(nums.length : Int)] ++ iz nums = _
          rw [iz_app, iz_app]
          congr 1
          simp
        rw [eD]
        have e7 : (pre.length : Int) + 1 + (a.length : Int) + 1 + (x.length : Int) = (((pre ++ [(n : Int)] ++ a ++ [(x.length : Int)] ++ x).length : Nat) : Int) := by
          rw [le5]
          omega
        refine ⟨_, rfl, rest.length, Nat.lt_succ_self _, pre ++ [(n : Int)] ++ a ++ [(x.length : Int)] ++ x, rest, (TaflLook.step st call).1, Tl ++ ((nums.length : Int) :: nums), G', _, _, _, _, _, congrArg (fun z : Int => [some (V.ref cl), some (V.ref lk), some (V.ref D), some (V.int z), _, _, _, _, _]) e7, rfl, el5, fun c hc => hok c (List.mem_cons_of_mem _ hc), ?_, ?_, ?_, sub_upd g.sub nGD', nGl', nGD', L3.put nDl, upd_same⟩
        · rw [← eT, List.append_assoc]
          congr 1
          show _ = PyFlat.told ((TaflLookNeutral.step st [(n : Int) :: a, x]).2 :: PyFlat.played TaflLookNeutral.step (TaflLookNeutral.step st [(n : Int) :: a, x]).1 rest)
          rw [hstep st, hnums]
          rfl
        · rw [List.length_append, List.length_cons]
          omega
        · intro q o hq
          rw [upd_ne (ne_of_none hq nDH)]
          exact b3 _ _ (sb _ _ (sH _ _ hq)) (ne_of_none hq nlk)
    · have y1 : ¬ (pre.length : Int) < ((iz l).length : Int) := of_decide_eq_false c1
      rw [iz_len, el, List.length_append] at y1
      cases rest with
      | cons c rest =>
        exfalso
        obtain ⟨okc, askc⟩ := hok c List.mem_cons_self
        obtain ⟨n, a, x, call, rfl, _⟩ := call_ok okc askc
        have en : (PyFlat.put ([(n : Int) :: a, x] :: rest)).length = a.length + (x.length + 1) + 1 + (PyFlat.put rest).length := by
          show ((((n : Int) :: a) ++ (((x.length : Int) :: x) ++ [])) ++ PyFlat.put rest).length = _
          simp
          omega
        omega
      | nil =>
        have eT' : Tl = PyWqacdd.answers l := by
          rw [← eT]
          show Tl = Tl ++ []
          rw [List.append_nil]
        rw [eT'] at hD
        exact ⟨_, rfl, k Hc D hD⟩
end
end Tf
set_option Elab.async false
set_option linter.all false
set_option maxRecDepth 100000
set_option maxHeartbeats 8000000
/-! The end: the promise of answers is the row's. -/
namespace Tf
open PySem PySem.Spec PyProof.Rows L2 TfX
abbrev theRow : PySem.W.OpenSpec := PySem.Challenge.rw_taflahead_s01_answers
abbrev theView : Program := PySem.W.view PySem.Challenge.rw_taflahead_s01_answers.prog [95]
abbrev theDef := HandSHeadRun.topDef PySem.Challenge.rw_taflahead_s01_answers.prog 95
theorem the_name : theDef.name = ("answers" : Str) := by kernel_rfl
/-- what the head says is of some written part K; from there on K stands fast -/
theorem walk : PySem.W.WalkOS theView loose (PySem.W.XL theView []) hk.says theRow theDef [] (fun f vs => PySem.call f vs) := by
  intro w s0 s1 mg mb G Y
  obtain ⟨K, KX, c⟩ := Y
  refine L2.walk_spec (r := theRow) (k := 20) (q := theView) (loose := loose) (XP := PySem.W.XL theView []) (YP := fun w' h => K.In h ∧ He.SaysX fal fnl [] [] exK w' h K) (K := fun _ => K) (CX := fun _ => CX0) (ps := p_answers)
    (sp := fun _ => spAnswers K) (by decide +kernel) (by kernel_rfl) rfl ⟨rfl, by decide, by decide⟩ (fun _ _ y => y.1) ?F ?S (fun _ _ _ _ _ z => z) w s0 s1 mg mb G ⟨KX, c⟩
  case F =>
    rintro w mg fa h ⟨X, c⟩ _ N at_
    obtain ⟨T⟩ := txt_of X N c
    rw [the_name] at at_
    have e := at_.symm.trans T.g_answers
    cases e
    exact ⟨T.fd_answers, FunD.bindsA (ps := p_answers) T.F_answers fun _ _ _ _ _ _ us hl => match us, hl with | [_], _ => rfl, fun _ _ _ => ok_answers T⟩
  case S =>
    intro w H xs a _ _ asked given
    cases given with
    | cons first none_more =>
      cases none_more
      cases first with
      | lst at_ whole =>
        have e := ints_dw a.1 _ whole
        subst e
        exact ⟨_, a.1, rfl, at_, asked, fun H' D hD => .lst (SqL.of hD) (dw_ints _)⟩
end Tf
open PySem PySem.W PySem.Calls PyProof.Rows
theorem PySem.Challenge.cw_taflahead_s01_answers_holds : PySem.Challenge.rw_taflahead_s01_answers.Holds := by
  w_on
  exact HandSHeadRun.head_spec (r := PySem.Challenge.rw_taflahead_s01_answers) (q := Tf.theView) (H := Tf.hk) (ob := Tf.ob) (M := 40000) (loose := Tf.loose) (d := Tf.theDef) (kwd := []) Tf.ob_eq (by kernel_rfl) (fun s => by kernel_rfl) Tf.run
    (by kernel_rfl) (by kernel_rfl) (by kernel_rfl) os_shapes (by decide +kernel) (by decide +kernel) ⟨rfl, rfl, rfl, rfl, rfl, by decide +kernel⟩ ⟨[.list [.int 0, .int 0]], by decide +kernel, by decide +kernel⟩ Tf.walk
#print axioms PySem.Challenge.cw_taflahead_s01_answers_holds
