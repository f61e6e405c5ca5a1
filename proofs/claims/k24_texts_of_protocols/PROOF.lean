import PyProof.Rows.All
import Wide.All
import OpenK.AllK
import Wide.FinOn
import HandS.ForMost
import HandS.ForExc
import HandS.IsInst
import HandS.Walk
import HandS.Codes
import HandS.SortKw
import HandS.TryMany
import HandS.ExcInit
import HandS.ExcField
import KE.DatumOrd
import HandS.More
import HandS.CallSlots
import HandS.Defaults
import HandS.TupAny
import HandS.Deep
import HandS.Small
import HandS.Style
import HandS.Words
import HandS.Strs
import HandS.Star
import KE.KUnpackStar
import HandS.Flow
import HandS.SlotsOwn
import HandS.DeepEq
import HandS.DictEq
import HandS.DictComp
import HandS.ExcOwn
import KE.KCallOwn
import HandS.StrMore
import HandS.FStr
import KE.KRevSl
import HandS.Nested
import HandS.MakeKwOnly
import HandS.Conv
import HandS.NoneIn
import HandS.Property
import HandS.SortInts
import HandS.HeadHook4
import HandS.HeadWalk
import HandS.Head0
import HandS.Head1
import HandS.Head2
import HandS.HeadEnd
import KE.SortKeyHeap
import HandS.TryOnly
import HandS.ExcInitHot
import HandS.SuiteRaise
import HandS.RaiseFrom
import PySem.Challenge.RW_hungparts_k24_texts_of_protocols
set_option Elab.async false
set_option linter.all false
set_option maxRecDepth 100000
set_option maxHeartbeats 4000000

namespace My
open PySem L2
def top (i : Nat) : Stmt := PySem.Challenge.pw_hungparts_k24_texts_of_protocols.main.body.getD i (.Pass ⟨0, 0, 0, 0⟩)
abbrev s_InvalidName_init : Stmt := inClass (top 3) 0
theorem sc_InvalidName_init : FnScope ["self", "value"] ["self", "value"] (defScope s_InvalidName_init) := ⟨rfl, rfl, rfl, by decide +kernel, rfl, by decide +kernel, by decide +kernel⟩
abbrev s_InvalidModes_init : Stmt := inClass (top 4) 0
theorem sc_InvalidModes_init : FnScope ["self", "value"] ["self", "value"] (defScope s_InvalidModes_init) := ⟨rfl, rfl, rfl, by decide +kernel, rfl, by decide +kernel, by decide +kernel⟩
abbrev s_InvalidClash_init : Stmt := inClass (top 5) 0
theorem sc_InvalidClash_init : FnScope ["self", "value"] ["self", "value"] (defScope s_InvalidClash_init) := ⟨rfl, rfl, rfl, by decide +kernel, rfl, by decide +kernel, by decide +kernel⟩
abbrev s_InvalidStrengths_init : Stmt := inClass (top 6) 0
theorem sc_InvalidStrengths_init : FnScope ["self", "value"] ["self", "value"] (defScope s_InvalidStrengths_init) := ⟨rfl, rfl, rfl, by decide +kernel, rfl, by decide +kernel, by decide +kernel⟩
abbrev s_InvalidProgram_init : Stmt := inClass (top 7) 0
theorem sc_InvalidProgram_init : FnScope ["self", "value"] ["self", "value"] (defScope s_InvalidProgram_init) := ⟨rfl, rfl, rfl, by decide +kernel, rfl, by decide +kernel, by decide +kernel⟩
abbrev s_InvalidPrograms_init : Stmt := inClass (top 8) 0
theorem sc_InvalidPrograms_init : FnScope ["self", "value"] ["self", "value"] (defScope s_InvalidPrograms_init) := ⟨rfl, rfl, rfl, by decide +kernel, rfl, by decide +kernel, by decide +kernel⟩
abbrev s_InvalidText_init : Stmt := inClass (top 9) 0
theorem sc_InvalidText_init : FnScope ["self", "value"] ["self", "value"] (defScope s_InvalidText_init) := ⟨rfl, rfl, rfl, by decide +kernel, rfl, by decide +kernel, by decide +kernel⟩
abbrev s_Duplicate_init : Stmt := inClass (top 10) 0
theorem sc_Duplicate_init : FnScope ["self", "name"] ["self", "name"] (defScope s_Duplicate_init) := ⟨rfl, rfl, rfl, by decide +kernel, rfl, by decide +kernel, by decide +kernel⟩
abbrev s_UnknownMode_init : Stmt := inClass (top 11) 0
theorem sc_UnknownMode_init : FnScope ["self", "name"] ["self", "name"] (defScope s_UnknownMode_init) := ⟨rfl, rfl, rfl, by decide +kernel, rfl, by decide +kernel, by decide +kernel⟩
abbrev s_NoProgram_init : Stmt := inClass (top 12) 0
theorem sc_NoProgram_init : FnScope ["self", "kind"] ["self", "kind"] (defScope s_NoProgram_init) := ⟨rfl, rfl, rfl, by decide +kernel, rfl, by decide +kernel, by decide +kernel⟩
abbrev s_is_name : Stmt := top 15
theorem sc_is_name : FnScope ["value", "sign"] ["value"] (defScope s_is_name) := ⟨rfl, rfl, rfl, by decide +kernel, rfl, by decide +kernel, by decide +kernel⟩
abbrev s_require_name : Stmt := top 16
theorem sc_require_name : FnScope ["value"] ["value"] (defScope s_require_name) := ⟨rfl, rfl, rfl, by decide +kernel, rfl, by decide +kernel, by decide +kernel⟩
abbrev s_is_kind : Stmt := top 25
theorem sc_is_kind : FnScope ["value"] ["value"] (defScope s_is_kind) := ⟨rfl, rfl, rfl, by decide +kernel, rfl, by decide +kernel, by decide +kernel⟩
abbrev s_require_kind : Stmt := top 26
theorem sc_require_kind : FnScope ["value"] ["value"] (defScope s_require_kind) := ⟨rfl, rfl, rfl, by decide +kernel, rfl, by decide +kernel, by decide +kernel⟩
abbrev s_is_step : Stmt := top 27
theorem sc_is_step : FnScope ["value", "kind", "word", "thing", "mode"] ["value", "kind"] (defScope s_is_step) := ⟨rfl, rfl, rfl, by decide +kernel, rfl, by decide +kernel, by decide +kernel⟩
abbrev s_is_program : Stmt := top 28
theorem sc_is_program : FnScope ["value", "kind", "words", "step"] ["value", "kind"] (defScope s_is_program) := ⟨rfl, rfl, rfl, by decide +kernel, rfl, by decide +kernel, by decide +kernel⟩
abbrev s_ends_well : Stmt := top 29
theorem sc_ends_well : FnScope ["words", "at", "word"] ["words"] (defScope s_ends_well) := ⟨rfl, rfl, rfl, by decide +kernel, rfl, by decide +kernel, by decide +kernel⟩
abbrev s_has_needed : Stmt := top 30
theorem sc_has_needed : FnScope ["words", "kind", "word", "group"] ["words", "kind"] (defScope s_has_needed) := ⟨rfl, rfl, rfl, by decide +kernel, rfl, by decide +kernel, by decide +kernel⟩
abbrev s_is_in_order : Stmt := top 31
theorem sc_is_in_order : FnScope ["words", "earlier", "later"] ["words"] (defScope s_is_in_order) := ⟨rfl, rfl, rfl, by decide +kernel, rfl, by decide +kernel, by decide +kernel⟩
abbrev s_comes_before : Stmt := top 32
theorem sc_comes_before : FnScope ["words", "earlier", "later", "last", "first", "at", "word"] ["words", "earlier", "later"] (defScope s_comes_before) := ⟨rfl, rfl, rfl, by decide +kernel, rfl, by decide +kernel, by decide +kernel⟩
abbrev s_step_text : Stmt := top 33
theorem sc_step_text : FnScope ["step"] ["step"] (defScope s_step_text) := ⟨rfl, rfl, rfl, by decide +kernel, rfl, by decide +kernel, by decide +kernel⟩
abbrev s_program_text : Stmt := top 34
theorem sc_program_text : FnScope ["program", "step"] ["program"] (defScope s_program_text) := ⟨rfl, rfl, rfl, by decide +kernel, rfl, by decide +kernel, by decide +kernel⟩
abbrev s_Strengths_init : Stmt := inClass (top 37) 0
theorem sc_Strengths_init : FnScope ["self", "modes", "clashes", "mode"] ["self", "modes", "clashes"] (defScope s_Strengths_init) := ⟨rfl, rfl, rfl, by decide +kernel, rfl, by decide +kernel, by decide +kernel⟩
abbrev s_Strengths_modes : Stmt := inClass (top 37) 1
theorem sc_Strengths_modes : FnScope ["self"] ["self"] (defScope s_Strengths_modes) := ⟨rfl, rfl, rfl, by decide +kernel, rfl, by decide +kernel, by decide +kernel⟩
abbrev s_Strengths_clashes : Stmt := inClass (top 37) 5
theorem sc_Strengths_clashes : FnScope ["self", "found", "at", "one", "other"] ["self"] (defScope s_Strengths_clashes) := ⟨rfl, rfl, rfl, by decide +kernel, rfl, by decide +kernel, by decide +kernel⟩
abbrev s_Strengths_eq : Stmt := inClass (top 37) 6
theorem sc_Strengths_eq : FnScope ["self", "other"] ["self", "other"] (defScope s_Strengths_eq) := ⟨rfl, rfl, rfl, by decide +kernel, rfl, by decide +kernel, by decide +kernel⟩
abbrev s_Strengths_str : Stmt := inClass (top 37) 10
theorem sc_Strengths_str : FnScope ["self", "pairs", "one", "other", "words"] ["self"] (defScope s_Strengths_str) := ⟨rfl, rfl, rfl, by decide +kernel, rfl, by decide +kernel, by decide +kernel⟩
abbrev s_require_modes : Stmt := top 38
theorem sc_require_modes : FnScope ["modes", "at", "name"] ["modes"] (defScope s_require_modes) := ⟨rfl, rfl, rfl, by decide +kernel, rfl, by decide +kernel, by decide +kernel⟩
abbrev s_require_clashes : Stmt := top 39
theorem sc_require_clashes : FnScope ["clashes", "modes", "item", "name"] ["clashes", "modes"] (defScope s_require_clashes) := ⟨rfl, rfl, rfl, by decide +kernel, rfl, by decide +kernel, by decide +kernel⟩
abbrev s_clashing_modes : Stmt := top 40
theorem sc_clashing_modes : FnScope ["mode", "modes", "clashes", "other"] ["mode", "modes", "clashes"] (defScope s_clashing_modes) := ⟨rfl, rfl, rfl, by decide +kernel, rfl, by decide +kernel, by decide +kernel⟩
abbrev s_standard : Stmt := top 41
theorem sc_standard : FnScope ["clashes"] [] (defScope s_standard) := ⟨rfl, rfl, rfl, by decide +kernel, rfl, by decide +kernel, by decide +kernel⟩
abbrev s_read_strengths : Stmt := top 42
theorem sc_read_strengths : FnScope ["text", "strengths"] ["text"] (defScope s_read_strengths) := ⟨rfl, rfl, rfl, by decide +kernel, rfl, by decide +kernel, by decide +kernel⟩
abbrev s_parsed_strengths : Stmt := top 43
theorem sc_parsed_strengths : FnScope ["text", "modes", "_", "told", "pairs", "pair"] ["text"] (defScope s_parsed_strengths) := ⟨rfl, rfl, rfl, by decide +kernel, rfl, by decide +kernel, by decide +kernel⟩
abbrev s_Rulebook_init : Stmt := inClass (top 45) 0
theorem sc_Rulebook_init : FnScope ["self", "strengths", "programs", "given", "kind"] ["self", "strengths", "programs"] (defScope s_Rulebook_init) := ⟨rfl, rfl, rfl, by decide +kernel, rfl, by decide +kernel, by decide +kernel⟩
abbrev s_Rulebook_eq : Stmt := inClass (top 45) 6
theorem sc_Rulebook_eq : FnScope ["self", "other"] ["self", "other"] (defScope s_Rulebook_eq) := ⟨rfl, rfl, rfl, by decide +kernel, rfl, by decide +kernel, by decide +kernel⟩
abbrev s_Rulebook_str : Stmt := inClass (top 45) 7
theorem sc_Rulebook_str : FnScope ["self", "lines", "kind"] ["self"] (defScope s_Rulebook_str) := ⟨rfl, rfl, rfl, by decide +kernel, rfl, by decide +kernel, by decide +kernel⟩
abbrev s_require_strengths : Stmt := top 46
theorem sc_require_strengths : FnScope ["value"] ["value"] (defScope s_require_strengths) := ⟨rfl, rfl, rfl, by decide +kernel, rfl, by decide +kernel, by decide +kernel⟩
abbrev s_require_programs : Stmt := top 47
theorem sc_require_programs : FnScope ["value", "kind"] ["value"] (defScope s_require_programs) := ⟨rfl, rfl, rfl, by decide +kernel, rfl, by decide +kernel, by decide +kernel⟩
abbrev s_require_program : Stmt := top 48
theorem sc_require_program : FnScope ["strengths", "kind", "value", "step"] ["strengths", "kind", "value"] (defScope s_require_program) := ⟨rfl, rfl, rfl, by decide +kernel, rfl, by decide +kernel, by decide +kernel⟩
abbrev s_require_mode : Stmt := top 49
theorem sc_require_mode : FnScope ["strengths", "value"] ["strengths", "value"] (defScope s_require_mode) := ⟨rfl, rfl, rfl, by decide +kernel, rfl, by decide +kernel, by decide +kernel⟩
abbrev s_read_protocol : Stmt := top 50
theorem sc_read_protocol : FnScope ["text", "protocol"] ["text"] (defScope s_read_protocol) := ⟨rfl, rfl, rfl, by decide +kernel, rfl, by decide +kernel, by decide +kernel⟩
abbrev s_parsed_protocol : Stmt := top 51
theorem sc_parsed_protocol : FnScope ["text", "first", "lines", "programs", "line", "kind", "_", "told", "step"] ["text"] (defScope s_parsed_protocol) := ⟨rfl, rfl, rfl, by decide +kernel, rfl, by decide +kernel, by decide +kernel⟩
abbrev s_law_cell : Stmt := top 53
theorem sc_law_cell : FnScope ["_law_script", "_law_k"] ["_law_script", "_law_k"] (defScope s_law_cell) := ⟨rfl, rfl, rfl, by decide +kernel, rfl, by decide +kernel, by decide +kernel⟩
abbrev s_law_box : Stmt := top 54
theorem sc_law_box : FnScope ["_law_cell_here"] ["_law_cell_here"] (defScope s_law_box) := ⟨rfl, rfl, rfl, by decide +kernel, rfl, by decide +kernel, by decide +kernel⟩
abbrev s_law_take : Stmt := top 55
theorem sc_law_take : FnScope ["_law_box_here", "_law_many", "_law_digit", "_law_number"] ["_law_box_here", "_law_many"] (defScope s_law_take) := ⟨rfl, rfl, rfl, by decide +kernel, rfl, by decide +kernel, by decide +kernel⟩
abbrev s_law_mixed : Stmt := top 56
theorem sc_law_mixed : FnScope ["_law_box_here", "_law_some", "_law_left", "_law_k"] ["_law_box_here", "_law_some"] (defScope s_law_mixed) := ⟨rfl, rfl, rfl, by decide +kernel, rfl, by decide +kernel, by decide +kernel⟩
abbrev s_law_names : Stmt := top 57
theorem sc_law_names : FnScope ["_law_box_here", "_law_many", "_law_letters", "_law_words", "_law_stem", "_law_first", "_law_step", "_law_way", "_law_found", "_law_k", "_law_sign", "_law_name"] ["_law_box_here", "_law_many"] (defScope s_law_names) := ⟨rfl, rfl, rfl, by decide +kernel, rfl, by decide +kernel, by decide +kernel⟩
abbrev s_law_kinds : Stmt := top 58
theorem sc_law_kinds : FnScope [] [] (defScope s_law_kinds) := ⟨rfl, rfl, rfl, by decide +kernel, rfl, by decide +kernel, by decide +kernel⟩
abbrev s_law_is_name : Stmt := top 59
theorem sc_law_is_name : FnScope ["_law_value", "_law_sign"] ["_law_value"] (defScope s_law_is_name) := ⟨rfl, rfl, rfl, by decide +kernel, rfl, by decide +kernel, by decide +kernel⟩
abbrev s_law_is_step : Stmt := top 60
theorem sc_law_is_step : FnScope ["_law_value", "_law_kind", "_law_askers", "_law_changes", "_law_at", "_law_where", "_law_word", "_law_item"] ["_law_value", "_law_kind"] (defScope s_law_is_step) := ⟨rfl, rfl, rfl, by decide +kernel, rfl, by decide +kernel, by decide +kernel⟩
abbrev s_law_count : Stmt := top 61
theorem sc_law_count : FnScope ["_law_words", "_law_some", "_law_word"] ["_law_words", "_law_some"] (defScope s_law_count) := ⟨rfl, rfl, rfl, by decide +kernel, rfl, by decide +kernel, by decide +kernel⟩
abbrev s_law_order : Stmt := top 62
theorem sc_law_order : FnScope ["_law_words", "_law_first", "_law_later", "_law_ends", "_law_at"] ["_law_words", "_law_first", "_law_later"] (defScope s_law_order) := ⟨rfl, rfl, rfl, by decide +kernel, rfl, by decide +kernel, by decide +kernel⟩
abbrev s_law_is_program : Stmt := top 63
theorem sc_law_is_program : FnScope ["_law_value", "_law_kind", "_law_words", "_law_last", "_law_deeds", "_law_scans", "_law_step", "_law_at"] ["_law_value", "_law_kind"] (defScope s_law_is_program) := ⟨rfl, rfl, rfl, by decide +kernel, rfl, by decide +kernel, by decide +kernel⟩
abbrev s_law_drawn_step : Stmt := top 64
theorem sc_law_drawn_step : FnScope ["_law_box_here", "_law_modes", "_law_plain", "_law_where"] ["_law_box_here", "_law_modes"] (defScope s_law_drawn_step) := ⟨rfl, rfl, rfl, by decide +kernel, rfl, by decide +kernel, by decide +kernel⟩
abbrev s_law_base : Stmt := top 65
theorem sc_law_base : FnScope ["_law_box_here", "_law_kind", "_law_deed", "_law_last"] ["_law_box_here", "_law_kind"] (defScope s_law_base) := ⟨rfl, rfl, rfl, by decide +kernel, rfl, by decide +kernel, by decide +kernel⟩
abbrev s_law_program : Stmt := top 66
theorem sc_law_program : FnScope ["_law_box_here", "_law_kind", "_law_modes", "_law_found", "_law_turn", "_law_step", "_law_at", "_law_more"] ["_law_box_here", "_law_kind", "_law_modes"] (defScope s_law_program) := ⟨rfl, rfl, rfl, by decide +kernel, rfl, by decide +kernel, by decide +kernel⟩
abbrev s_law_programs : Stmt := top 67
theorem sc_law_programs : FnScope ["_law_box_here", "_law_modes", "_law_found", "_law_kind"] ["_law_box_here", "_law_modes"] (defScope s_law_programs) := ⟨rfl, rfl, rfl, by decide +kernel, rfl, by decide +kernel, by decide +kernel⟩
abbrev s_law_ordered : Stmt := top 68
theorem sc_law_ordered : FnScope ["_law_programs_here", "_law_kind"] ["_law_programs_here"] (defScope s_law_ordered) := ⟨rfl, rfl, rfl, by decide +kernel, rfl, by decide +kernel, by decide +kernel⟩
abbrev s_law_text : Stmt := top 69
theorem sc_law_text : FnScope ["_law_model", "_law_modes", "_law_pairs", "_law_programs_here", "_law_text_here", "_law_told_here", "_law_kind", "_law_one", "_law_other", "_law_step"] ["_law_model"] (defScope s_law_text) := ⟨rfl, rfl, rfl, by decide +kernel, rfl, by decide +kernel, by decide +kernel⟩
abbrev s_law_read_head : Stmt := top 70
theorem sc_law_read_head : FnScope ["_law_line", "_law_halves", "_law_modes", "_law_bad", "_law_pairs", "_law_word", "_law_parts", "_law_pair", "_law_k"] ["_law_line"] (defScope s_law_read_head) := ⟨rfl, rfl, rfl, by decide +kernel, rfl, by decide +kernel, by decide +kernel⟩
abbrev s_law_places : Stmt := top 71
theorem sc_law_places : FnScope ["_law_modes", "_law_pair"] ["_law_modes", "_law_pair"] (defScope s_law_places) := ⟨rfl, rfl, rfl, by decide +kernel, rfl, by decide +kernel, by decide +kernel⟩
abbrev s_law_read : Stmt := top 72
theorem sc_law_read : FnScope ["_law_text_here", "_law_lines", "_law_head", "_law_programs_here", "_law_line", "_law_halves", "_law_program_here", "_law_part", "_law_step"] ["_law_text_here"] (defScope s_law_read) := ⟨rfl, rfl, rfl, by decide +kernel, rfl, by decide +kernel, by decide +kernel⟩
abbrev s_law_told : Stmt := top 73
theorem sc_law_told : FnScope ["_law_value", "e"] ["_law_value"] (defScope s_law_told) := ⟨rfl, rfl, rfl, by decide +kernel, rfl, by decide +kernel, by decide +kernel⟩
abbrev s_law_bent : Stmt := top 74
theorem sc_law_bent : FnScope ["_law_box_here", "_law_text_here", "_law_at", "_law_more", "_law_head", "_law_tail", "_law_lines", "_law_about"] ["_law_box_here", "_law_text_here"] (defScope s_law_bent) := ⟨rfl, rfl, rfl, by decide +kernel, rfl, by decide +kernel, by decide +kernel⟩
abbrev s_law : Stmt := top 75
theorem sc_law : FnScope ["_law_script", "_law_k", "_law_box_here", "_law_modes", "_law_pairs", "_law_model", "_law_protocol", "_law_text_here", "_law_turn", "_law_bent_here", "_law_due", "_law_told_here", "_law_made", "_law_odd"] ["_law_script"] (defScope s_law) := ⟨rfl, rfl, rfl, by decide +kernel, rfl, by decide +kernel, by decide +kernel⟩

/-! ### properties: how the end tells of them -/
section
open PySem.Spec PySem.Calls PyProof.Rows
def prAt (K : PySem.W.Frag) (C f : Str) : Addr := He.ma K (He.ga K C) f
def prG (K : PySem.W.Frag) (C f : Str) : Addr := match PySem.W.recIn K (prAt K C f) "property" with
  | some (.ref g :: _) => g
  | _ => 0
def fnWa (K : PySem.W.Frag) (a : Addr) : He.FnW := match K.lookup a with
  | some ⟨_, _, .func fd, _⟩ => some (fd.name, fd.qualname, fd.params, fd.body, fd.scope, fd.globals, fd.closure, fd.builtins)
  | _ => none
def prB (K : PySem.W.Frag) (C f q : Str) : Bool := decide (PySem.W.findIn K (.ref (He.ga K C)) f = some (some (.ref (prAt K C f)))) && (decide (PySem.W.specialIn K (.ref (prAt K C f)) "__get__" = some (some (.builtin "property.__get__"))) && (decide (PySem.W.takesIn K (.ref (prAt K C f)) = some true) && ((match PySem.W.recIn K (prAt K C f) "property" with
  | some (.ref _ :: _) => true
  | _ => false) && (PySem.W.keepIn K (.ref (prG K C f)) && (match K.lookup (prG K C f) with
  | some ⟨_, _, .func fd, _⟩ => PySem.W.codeIn K fd.code q && (He.dflB K fd.defaults [] && He.kwdB K fd.kwdefaults [])
  | _ => false)))))
theorem pr_ok {K : PySem.W.Frag} {C f qual name : Str} {params : Arguments} {body : List Stmt} {scope : Scope} (h : prB K C f qual = true) (e : fnWa K (prG K C f) = some (name, qual, params, .stmts body, scope, mainGlobals, [], builtinsNs)) :
    PropOf K (He.ga K C) f (prAt K C f) (prG K C f) ∧ ∃ fd, FunD K name qual params body scope [] [] (prG K C f) fd := by
  obtain ⟨h1, h⟩ := He.ba h
  obtain ⟨h2, h⟩ := He.ba h
  obtain ⟨h3, h⟩ := He.ba h
  obtain ⟨h4, h⟩ := He.ba h
  obtain ⟨kp, h5⟩ := He.ba h
  refine ⟨⟨of_decide_eq_true h1, of_decide_eq_true h2, of_decide_eq_true h3, ?_⟩, ?_⟩
  · unfold prG
    cases q : PySem.W.recIn K (prAt K C f) "property" with
    | none =>
      rw [q] at h4
      cases h4
    | some l =>
      rw [q] at h4
      cases l with
      | nil => cases h4
      | cons u r =>
        cases u with
        | ref g => exact ⟨r, rfl⟩
        | _ => cases h4
  · generalize prG K C f = g at kp h5 e ⊢
    unfold fnWa at e
    cases q : K.lookup g with
    | none =>
      rw [q] at h5
      cases h5
    | some o =>
      obtain ⟨oc, od, dt, osl⟩ := o
      rw [q] at h5 e
      cases dt with
      | func fd =>
        obtain ⟨n1, n2, n3, n4, n5, n6, n7, n8, n9, n10, n11, n12, n13, n14, n15⟩ := fd
        have e2 : (some (n1, n2, n3, n4, n5, n6, n7, n15) : He.FnW) = some (name, qual, params, .stmts body, scope, mainGlobals, [], builtinsNs) := e
        simp only [Option.some.injEq, Prod.mk.injEq] at e2
        obtain ⟨a1, a2, a3, a4, a5, a6, a7, a8⟩ := e2
        subst a1 a2 a3 a4 a5 a6 a7 a8
        have c3 : (PySem.W.codeIn K n13 n2 && (He.dflB K n8 [] && He.kwdB K n9 [])) = true := h5
        obtain ⟨k1, k2⟩ := He.ba c3
        obtain ⟨k3, k4⟩ := He.ba k2
        exact ⟨_, ⟨oc, od, n8, n9, n10, n11, n12, n13, n14, osl, rfl, q, k1, He.dflB_ok k3, He.kwdB_ok k4⟩, kp⟩
      | _ => cases h5
def obPr (pr : List (Str × Str)) (K : PySem.W.Frag) : List He.FnW := pr.map fun p => fnWa K (prG K p.1 p.2)
theorem List.get_of_map {α β : Type} {f : α → β} {l : List α} {v : List β} (h : l.map f = v) (i : Nat) {x : α} {y : β} (hx : l[i]? = some x) (hy : v[i]? = some y) : f x = y := by
  rw [← h, List.getElem?_map, hx] at hy
  exact Option.some.inj hy
def obsPr (n : Nat) (fa : List He.Fa) (fn : List He.DefD) (tf : List He.Defn) (ex : PySem.W.Frag → Bool) (pr : List (Str × Str)) (g : Addr → Option Obj) : He.AlX × List He.FnW := (He.obsX n fa fn [] tf ex g, obPr pr (He.frT g (He.asD g n)))
def hookPr (n : Nat) (fa : List He.Fa) (fn : List He.DefD) (tf : List He.Defn) (ex : PySem.W.Frag → Bool) (pr : List (Str × Str)) (pv : List He.FnW) : PySem.W.Hook where
  α := He.AlX × List He.FnW
  obs := fun s => obsPr n fa fn tf ex pr s.heap.get?
  val := fun w => (He.valX fn [] w, pv)
  says := fun w h => ∃ K : PySem.W.Frag, K.In h ∧ He.SaysX fa fn [] tf ex w h K ∧ obPr pr K = pv
  of := fun _ _ e => ⟨_, He.frT_in, He.saysX_of (congrArg (fun z : He.AlX × List He.FnW => z.1) e), congrArg (fun z : He.AlX × List He.FnW => z.2) e⟩
  keeps := fun _ _ _ ⟨K, hK, c, o⟩ k => ⟨K, PySem.W.Frag.In.keeps hK k, ⟨c.t, c.more, c.hd, c.out, fun p hp => k _ _ (c.empty p hp)⟩, o⟩
theorem obsPr_eq {n : Nat} {fa : List He.Fa} {fn : List He.DefD} {tf : List He.Defn} {ex : PySem.W.Frag → Bool} {pr : List (Str × Str)} {pv : List He.FnW} {g : Addr → Option Obj} {s : Shared} (h : ∀ a, g a = s.heap.get? a) : obsPr n fa fn tf ex pr g = (hookPr n fa fn tf ex pr pv).obs s := by
  have e : g = s.heap.get? := funext h
  rw [e] <;> rfl
end
/-! ### what stands written at the top (ahead of the run) -/
def seqK (K : PySem.W.Frag) (a : Addr) : Option (List Value) := match K.lookup a with
  | some ⟨.type c, _, .seq its _, _⟩ => if (c == "tuple" && decide (its.size ≤ 1000)) = true then some its.toList else none
  | _ => none
def mapO {α β : Type} (f : α → Option β) : List α → Option (List β)
  | [] => some []
  | x :: r => (f x).bind fun y => (mapO f r).bind fun ys => some (y :: ys)
def datK (K : PySem.W.Frag) : Nat → Value → Option PyData
  | n, .str x _ => some (.str x)
  | n + 1, .ref a => (seqK K a).bind fun us => (mapO (datK K n) us).bind fun ds => some (.tuple ds)
  | _, _ => none
def nsD (K : PySem.W.Frag) (a : Addr) (x : Str) : Option PyData := match PySem.W.nsIn K a x with
  | some (some u) => datK K 4 u
  | _ => none
/-! ### runhook with tables and data of the top -/
section
open PySem.Spec PySem.Calls PyProof.Rows
def frR (N : Nat) (g : Addr → Option Obj) : PySem.W.Frag := He.frT g (List.range N)
abbrev BxO : Type := List (List (Option PyData))
def obsRb (N : Nat) (fa : List He.Fa) (fn : List He.DefD) (ts : List He.Tab) (tf : List He.Defn) (ex : PySem.W.Frag → Bool) (pr : List (Str × Str)) (bx : PySem.W.Frag → BxO) (g : Addr → Option Obj) : He.AlX × List He.FnW × BxO := ((He.obsT fa fn ts (frR N g), ex (frR N g) && He.tabsB g tf (frR N g)), obPr pr (frR N g), bx (frR N g))
theorem saysRb {N : Nat} {fa : List He.Fa} {fn : List He.DefD} {ts : List He.Tab} {tf : List He.Defn} {ex : PySem.W.Frag → Bool} {w : World} {h : Heap} (e1 : He.obsT fa fn ts (frR N h.get?) = He.valT fn ts w) (e2 : (ex (frR N h.get?) && He.tabsB h.get? tf (frR N h.get?)) = true) : He.SaysX fa fn ts tf ex w h (frR N h.get?) := by
  rw [Bool.and_eq_true] at e2
  have all := List.all_eq_true.mp e2.2
  have one : ∀ p ∈ tf, ∃ o, h.get? (He.cT (frR N h.get?) p).2 = some o ∧ He.emptyTab o = true := fun p hp => by
    have z := all p hp
    rw [Bool.and_eq_true] at z
    cases q : h.get? (He.cT (frR N h.get?) p).2 with
    | some o =>
      rw [q] at z
      exact ⟨o, rfl, z.2⟩
    | none =>
      rw [q] at z
      cases z.2
  refine ⟨e1, e2.1, fun p hp => (Bool.and_eq_true_iff.mp (all p hp)).1, fun p hp => ?_, fun p hp => ?_⟩
  all_goals obtain ⟨o, q, z⟩ := one p hp
  · exact He.frT_none q z
  · rw [q, He.emptyTab_eq z]
def hookRb (N : Nat) (fa : List He.Fa) (fn : List He.DefD) (ts : List He.Tab) (tf : List He.Defn) (ex : PySem.W.Frag → Bool) (pr : List (Str × Str)) (pv : List He.FnW) (bx : PySem.W.Frag → BxO) (bv : BxO) : PySem.W.Hook where
  α := He.AlX × List He.FnW × BxO
  obs := fun s => obsRb N fa fn ts tf ex pr bx s.heap.get?
  val := fun w => (He.valX fn ts w, pv, bv)
  says := fun w h => ∃ K : PySem.W.Frag, K.In h ∧ He.SaysX fa fn ts tf ex w h K ∧ obPr pr K = pv ∧ bx K = bv
  of := fun _ _ e => ⟨_, He.frT_in, saysRb (congrArg (fun z : He.AlX × List He.FnW × BxO => z.1.1) e) (congrArg (fun z : He.AlX × List He.FnW × BxO => z.1.2) e), congrArg (fun z : He.AlX × List He.FnW × BxO => z.2.1) e, congrArg (fun z : He.AlX × List He.FnW × BxO => z.2.2) e⟩
  keeps := fun _ _ _ ⟨K, hK, c, o⟩ k => ⟨K, PySem.W.Frag.In.keeps hK k, ⟨c.t, c.more, c.hd, c.out, fun p hp => k _ _ (c.empty p hp)⟩, o⟩
theorem obsRb_eq {N : Nat} {fa : List He.Fa} {fn : List He.DefD} {ts : List He.Tab} {tf : List He.Defn} {ex : PySem.W.Frag → Bool} {pr : List (Str × Str)} {pv : List He.FnW} {bx : PySem.W.Frag → BxO} {bv : BxO} {g : Addr → Option Obj} {s : Shared} (h : ∀ a, g a = s.heap.get? a) : obsRb N fa fn ts tf ex pr bx g = (hookRb N fa fn ts tf ex pr pv bx bv).obs s := by
  have e : g = s.heap.get? := funext h
  rw [e] <;> rfl
end
def oexB (K : PySem.W.Frag) (C : Addr) : Bool := match K.lookup C with
  | some ⟨.type c, _, .cls cd, sl⟩ => decide (c = "type") && ((match cd.mro with
    | .ref a :: bm => decide (a = C) && PySem.HandSPX.refsVE bm
    | _ => false) && (cd.hasDict && (!cd.hasDel && (match sl.toList with
    | [_, _, _, _, some (.builtin i), _] => decide (i = "ValueError.__new__")
    | _ => false))))
  | _ => false
def clsX (K : PySem.W.Frag) (c : Str × Str) : Bool := oexB K (He.ga K c.1) && (decide (PySem.W.findIn K (.ref (He.ga K c.1)) "__setattr__" = some (some (.builtin "object.__setattr__"))) && (decide (PySem.W.typeIn K (.ref (He.ga K c.1)) = some (.type "type")) && (PySem.W.keepIn K (.ref (He.ga K c.1)) && (xfB K (He.ga K c.1) &&
  (decide (PySem.W.findIn K (.ref (He.ga K c.1)) c.2 = some none) && (decide (PySem.W.findIn K (.ref (He.ga K c.1)) "__init__" = some (some (.ref (He.ma K (He.ga K c.1) "__init__")))) && decide (PySem.W.typeIn K (.ref (He.ma K (He.ga K c.1) "__init__")) = some (.type "function"))))))))
def insX (K : PySem.W.Frag) (x : Str) : Bool := decide (PySem.W.findIn K (.ref (He.ga K x)) "__class__" = some (some (.builtin "object.__class__"))) && (decide (PySem.W.specialIn K (.builtin "object.__class__") "__get__" = some (some (.builtin "getset_descriptor.__get__"))) && (decide (PySem.W.takesIn K (.builtin "object.__class__") = some true) && (decide (PySem.W.mroIn K (He.ga K x) (.type "object") = some true) && (decide (PySem.W.kitOne K (.ref (He.ga K x)) (.ref (He.ga K x)) = some true) &&
  (decide (PySem.W.kitOne K (.type "list") (.ref (He.ga K x)) = some false) && (PySem.W.notFirst K (He.ga K x) (.type "list") && (decide (PySem.W.kitOne K (.type "str") (.ref (He.ga K x)) = some false) && PySem.W.notFirst K (He.ga K x) (.type "str"))))))))
def fd0 : He.DefD := { at_ := ("InvalidName", some "__init__"), name := "__init__", qual := "InvalidName.__init__", params := defArgs s_InvalidName_init, body := defBody s_InvalidName_init, scope := defScope s_InvalidName_init, dfl := [], kwd := [] }
def fd1 : He.DefD := { at_ := ("InvalidModes", some "__init__"), name := "__init__", qual := "InvalidModes.__init__", params := defArgs s_InvalidModes_init, body := defBody s_InvalidModes_init, scope := defScope s_InvalidModes_init, dfl := [], kwd := [] }
def fd2 : He.DefD := { at_ := ("InvalidClash", some "__init__"), name := "__init__", qual := "InvalidClash.__init__", params := defArgs s_InvalidClash_init, body := defBody s_InvalidClash_init, scope := defScope s_InvalidClash_init, dfl := [], kwd := [] }
def fd3 : He.DefD := { at_ := ("InvalidStrengths", some "__init__"), name := "__init__", qual := "InvalidStrengths.__init__", params := defArgs s_InvalidStrengths_init, body := defBody s_InvalidStrengths_init, scope := defScope s_InvalidStrengths_init, dfl := [], kwd := [] }
def fd4 : He.DefD := { at_ := ("InvalidProgram", some "__init__"), name := "__init__", qual := "InvalidProgram.__init__", params := defArgs s_InvalidProgram_init, body := defBody s_InvalidProgram_init, scope := defScope s_InvalidProgram_init, dfl := [], kwd := [] }
def fd5 : He.DefD := { at_ := ("InvalidPrograms", some "__init__"), name := "__init__", qual := "InvalidPrograms.__init__", params := defArgs s_InvalidPrograms_init, body := defBody s_InvalidPrograms_init, scope := defScope s_InvalidPrograms_init, dfl := [], kwd := [] }
def fd6 : He.DefD := { at_ := ("InvalidText", some "__init__"), name := "__init__", qual := "InvalidText.__init__", params := defArgs s_InvalidText_init, body := defBody s_InvalidText_init, scope := defScope s_InvalidText_init, dfl := [], kwd := [] }
def fd7 : He.DefD := { at_ := ("Duplicate", some "__init__"), name := "__init__", qual := "Duplicate.__init__", params := defArgs s_Duplicate_init, body := defBody s_Duplicate_init, scope := defScope s_Duplicate_init, dfl := [], kwd := [] }
def fd8 : He.DefD := { at_ := ("UnknownMode", some "__init__"), name := "__init__", qual := "UnknownMode.__init__", params := defArgs s_UnknownMode_init, body := defBody s_UnknownMode_init, scope := defScope s_UnknownMode_init, dfl := [], kwd := [] }
def fd9 : He.DefD := { at_ := ("NoProgram", some "__init__"), name := "__init__", qual := "NoProgram.__init__", params := defArgs s_NoProgram_init, body := defBody s_NoProgram_init, scope := defScope s_NoProgram_init, dfl := [], kwd := [] }
def fd10 : He.DefD := { at_ := ("is_name", none), name := "is_name", qual := "is_name", params := defArgs s_is_name, body := defBody s_is_name, scope := defScope s_is_name, dfl := [], kwd := [] }
def fd11 : He.DefD := { at_ := ("require_name", none), name := "require_name", qual := "require_name", params := defArgs s_require_name, body := defBody s_require_name, scope := defScope s_require_name, dfl := [], kwd := [] }
def fd12 : He.DefD := { at_ := ("is_kind", none), name := "is_kind", qual := "is_kind", params := defArgs s_is_kind, body := defBody s_is_kind, scope := defScope s_is_kind, dfl := [], kwd := [] }
def fd13 : He.DefD := { at_ := ("require_kind", none), name := "require_kind", qual := "require_kind", params := defArgs s_require_kind, body := defBody s_require_kind, scope := defScope s_require_kind, dfl := [], kwd := [] }
def fd14 : He.DefD := { at_ := ("is_step", none), name := "is_step", qual := "is_step", params := defArgs s_is_step, body := defBody s_is_step, scope := defScope s_is_step, dfl := [], kwd := [] }
def fd15 : He.DefD := { at_ := ("is_program", none), name := "is_program", qual := "is_program", params := defArgs s_is_program, body := defBody s_is_program, scope := defScope s_is_program, dfl := [], kwd := [] }
def fd16 : He.DefD := { at_ := ("ends_well", none), name := "ends_well", qual := "ends_well", params := defArgs s_ends_well, body := defBody s_ends_well, scope := defScope s_ends_well, dfl := [], kwd := [] }
def fd17 : He.DefD := { at_ := ("has_needed", none), name := "has_needed", qual := "has_needed", params := defArgs s_has_needed, body := defBody s_has_needed, scope := defScope s_has_needed, dfl := [], kwd := [] }
def fd18 : He.DefD := { at_ := ("is_in_order", none), name := "is_in_order", qual := "is_in_order", params := defArgs s_is_in_order, body := defBody s_is_in_order, scope := defScope s_is_in_order, dfl := [], kwd := [] }
def fd19 : He.DefD := { at_ := ("comes_before", none), name := "comes_before", qual := "comes_before", params := defArgs s_comes_before, body := defBody s_comes_before, scope := defScope s_comes_before, dfl := [], kwd := [] }
def fd20 : He.DefD := { at_ := ("step_text", none), name := "step_text", qual := "step_text", params := defArgs s_step_text, body := defBody s_step_text, scope := defScope s_step_text, dfl := [], kwd := [] }
def fd21 : He.DefD := { at_ := ("program_text", none), name := "program_text", qual := "program_text", params := defArgs s_program_text, body := defBody s_program_text, scope := defScope s_program_text, dfl := [], kwd := [] }
def fd22 : He.DefD := { at_ := ("Strengths", some "__init__"), name := "__init__", qual := "Strengths.__init__", params := defArgs s_Strengths_init, body := defBody s_Strengths_init, scope := defScope s_Strengths_init, dfl := [], kwd := [] }
def fd23 : He.DefD := { at_ := ("Strengths", some "modes"), name := "modes", qual := "Strengths.modes", params := defArgs s_Strengths_modes, body := defBody s_Strengths_modes, scope := defScope s_Strengths_modes, dfl := [], kwd := [] }
def fd24 : He.DefD := { at_ := ("Strengths", some "clashes"), name := "clashes", qual := "Strengths.clashes", params := defArgs s_Strengths_clashes, body := defBody s_Strengths_clashes, scope := defScope s_Strengths_clashes, dfl := [], kwd := [] }
def fd25 : He.DefD := { at_ := ("Strengths", some "__eq__"), name := "__eq__", qual := "Strengths.__eq__", params := defArgs s_Strengths_eq, body := defBody s_Strengths_eq, scope := defScope s_Strengths_eq, dfl := [], kwd := [] }
def fd26 : He.DefD := { at_ := ("Strengths", some "__str__"), name := "__str__", qual := "Strengths.__str__", params := defArgs s_Strengths_str, body := defBody s_Strengths_str, scope := defScope s_Strengths_str, dfl := [], kwd := [] }
def fd27 : He.DefD := { at_ := ("require_modes", none), name := "require_modes", qual := "require_modes", params := defArgs s_require_modes, body := defBody s_require_modes, scope := defScope s_require_modes, dfl := [], kwd := [] }
def fd28 : He.DefD := { at_ := ("require_clashes", none), name := "require_clashes", qual := "require_clashes", params := defArgs s_require_clashes, body := defBody s_require_clashes, scope := defScope s_require_clashes, dfl := [], kwd := [] }
def fd29 : He.DefD := { at_ := ("clashing_modes", none), name := "clashing_modes", qual := "clashing_modes", params := defArgs s_clashing_modes, body := defBody s_clashing_modes, scope := defScope s_clashing_modes, dfl := [], kwd := [] }
def fd30 : He.DefD := { at_ := ("standard", none), name := "standard", qual := "standard", params := defArgs s_standard, body := defBody s_standard, scope := defScope s_standard, dfl := [], kwd := [] }
def fd31 : He.DefD := { at_ := ("read_strengths", none), name := "read_strengths", qual := "read_strengths", params := defArgs s_read_strengths, body := defBody s_read_strengths, scope := defScope s_read_strengths, dfl := [], kwd := [] }
def fd32 : He.DefD := { at_ := ("parsed_strengths", none), name := "parsed_strengths", qual := "parsed_strengths", params := defArgs s_parsed_strengths, body := defBody s_parsed_strengths, scope := defScope s_parsed_strengths, dfl := [], kwd := [] }
def fd33 : He.DefD := { at_ := ("Rulebook", some "__init__"), name := "__init__", qual := "Rulebook.__init__", params := defArgs s_Rulebook_init, body := defBody s_Rulebook_init, scope := defScope s_Rulebook_init, dfl := [], kwd := [] }
def fd34 : He.DefD := { at_ := ("Rulebook", some "__eq__"), name := "__eq__", qual := "Rulebook.__eq__", params := defArgs s_Rulebook_eq, body := defBody s_Rulebook_eq, scope := defScope s_Rulebook_eq, dfl := [], kwd := [] }
def fd35 : He.DefD := { at_ := ("Rulebook", some "__str__"), name := "__str__", qual := "Rulebook.__str__", params := defArgs s_Rulebook_str, body := defBody s_Rulebook_str, scope := defScope s_Rulebook_str, dfl := [], kwd := [] }
def fd36 : He.DefD := { at_ := ("require_strengths", none), name := "require_strengths", qual := "require_strengths", params := defArgs s_require_strengths, body := defBody s_require_strengths, scope := defScope s_require_strengths, dfl := [], kwd := [] }
def fd37 : He.DefD := { at_ := ("require_programs", none), name := "require_programs", qual := "require_programs", params := defArgs s_require_programs, body := defBody s_require_programs, scope := defScope s_require_programs, dfl := [], kwd := [] }
def fd38 : He.DefD := { at_ := ("require_program", none), name := "require_program", qual := "require_program", params := defArgs s_require_program, body := defBody s_require_program, scope := defScope s_require_program, dfl := [], kwd := [] }
def fd39 : He.DefD := { at_ := ("require_mode", none), name := "require_mode", qual := "require_mode", params := defArgs s_require_mode, body := defBody s_require_mode, scope := defScope s_require_mode, dfl := [], kwd := [] }
def fd40 : He.DefD := { at_ := ("read_protocol", none), name := "read_protocol", qual := "read_protocol", params := defArgs s_read_protocol, body := defBody s_read_protocol, scope := defScope s_read_protocol, dfl := [], kwd := [] }
def fd41 : He.DefD := { at_ := ("parsed_protocol", none), name := "parsed_protocol", qual := "parsed_protocol", params := defArgs s_parsed_protocol, body := defBody s_parsed_protocol, scope := defScope s_parsed_protocol, dfl := [], kwd := [] }
def fd42 : He.DefD := { at_ := ("_law_cell", none), name := "_law_cell", qual := "_law_cell", params := defArgs s_law_cell, body := defBody s_law_cell, scope := defScope s_law_cell, dfl := [], kwd := [] }
def fd43 : He.DefD := { at_ := ("_law_box", none), name := "_law_box", qual := "_law_box", params := defArgs s_law_box, body := defBody s_law_box, scope := defScope s_law_box, dfl := [], kwd := [] }
def fd44 : He.DefD := { at_ := ("_law_take", none), name := "_law_take", qual := "_law_take", params := defArgs s_law_take, body := defBody s_law_take, scope := defScope s_law_take, dfl := [], kwd := [] }
def fd45 : He.DefD := { at_ := ("_law_mixed", none), name := "_law_mixed", qual := "_law_mixed", params := defArgs s_law_mixed, body := defBody s_law_mixed, scope := defScope s_law_mixed, dfl := [], kwd := [] }
def fd46 : He.DefD := { at_ := ("_law_names", none), name := "_law_names", qual := "_law_names", params := defArgs s_law_names, body := defBody s_law_names, scope := defScope s_law_names, dfl := [], kwd := [] }
def fd47 : He.DefD := { at_ := ("_law_kinds", none), name := "_law_kinds", qual := "_law_kinds", params := defArgs s_law_kinds, body := defBody s_law_kinds, scope := defScope s_law_kinds, dfl := [], kwd := [] }
def fd48 : He.DefD := { at_ := ("_law_is_name", none), name := "_law_is_name", qual := "_law_is_name", params := defArgs s_law_is_name, body := defBody s_law_is_name, scope := defScope s_law_is_name, dfl := [], kwd := [] }
def fd49 : He.DefD := { at_ := ("_law_is_step", none), name := "_law_is_step", qual := "_law_is_step", params := defArgs s_law_is_step, body := defBody s_law_is_step, scope := defScope s_law_is_step, dfl := [], kwd := [] }
def fd50 : He.DefD := { at_ := ("_law_count", none), name := "_law_count", qual := "_law_count", params := defArgs s_law_count, body := defBody s_law_count, scope := defScope s_law_count, dfl := [], kwd := [] }
def fd51 : He.DefD := { at_ := ("_law_order", none), name := "_law_order", qual := "_law_order", params := defArgs s_law_order, body := defBody s_law_order, scope := defScope s_law_order, dfl := [], kwd := [] }
def fd52 : He.DefD := { at_ := ("_law_is_program", none), name := "_law_is_program", qual := "_law_is_program", params := defArgs s_law_is_program, body := defBody s_law_is_program, scope := defScope s_law_is_program, dfl := [], kwd := [] }
def fd53 : He.DefD := { at_ := ("_law_drawn_step", none), name := "_law_drawn_step", qual := "_law_drawn_step", params := defArgs s_law_drawn_step, body := defBody s_law_drawn_step, scope := defScope s_law_drawn_step, dfl := [], kwd := [] }
def fd54 : He.DefD := { at_ := ("_law_base", none), name := "_law_base", qual := "_law_base", params := defArgs s_law_base, body := defBody s_law_base, scope := defScope s_law_base, dfl := [], kwd := [] }
def fd55 : He.DefD := { at_ := ("_law_program", none), name := "_law_program", qual := "_law_program", params := defArgs s_law_program, body := defBody s_law_program, scope := defScope s_law_program, dfl := [], kwd := [] }
def fd56 : He.DefD := { at_ := ("_law_programs", none), name := "_law_programs", qual := "_law_programs", params := defArgs s_law_programs, body := defBody s_law_programs, scope := defScope s_law_programs, dfl := [], kwd := [] }
def fd57 : He.DefD := { at_ := ("_law_ordered", none), name := "_law_ordered", qual := "_law_ordered", params := defArgs s_law_ordered, body := defBody s_law_ordered, scope := defScope s_law_ordered, dfl := [], kwd := [] }
def fd58 : He.DefD := { at_ := ("_law_text", none), name := "_law_text", qual := "_law_text", params := defArgs s_law_text, body := defBody s_law_text, scope := defScope s_law_text, dfl := [], kwd := [] }
def fd59 : He.DefD := { at_ := ("_law_read_head", none), name := "_law_read_head", qual := "_law_read_head", params := defArgs s_law_read_head, body := defBody s_law_read_head, scope := defScope s_law_read_head, dfl := [], kwd := [] }
def fd60 : He.DefD := { at_ := ("_law_places", none), name := "_law_places", qual := "_law_places", params := defArgs s_law_places, body := defBody s_law_places, scope := defScope s_law_places, dfl := [], kwd := [] }
def fd61 : He.DefD := { at_ := ("_law_read", none), name := "_law_read", qual := "_law_read", params := defArgs s_law_read, body := defBody s_law_read, scope := defScope s_law_read, dfl := [], kwd := [] }
def fd62 : He.DefD := { at_ := ("_law_told", none), name := "_law_told", qual := "_law_told", params := defArgs s_law_told, body := defBody s_law_told, scope := defScope s_law_told, dfl := [], kwd := [] }
def fd63 : He.DefD := { at_ := ("_law_bent", none), name := "_law_bent", qual := "_law_bent", params := defArgs s_law_bent, body := defBody s_law_bent, scope := defScope s_law_bent, dfl := [], kwd := [] }
def fd64 : He.DefD := { at_ := ("law", none), name := "law", qual := "law", params := defArgs s_law, body := defBody s_law, scope := defScope s_law, dfl := [], kwd := [] }
def fnL : List He.DefD := [fd0, fd1, fd2, fd3, fd4, fd5, fd6, fd7, fd8, fd9, fd10, fd11, fd12, fd13, fd14, fd15, fd16, fd17, fd18, fd19, fd20, fd21, fd22, fd23, fd24, fd25, fd26, fd27, fd28, fd29, fd30, fd31, fd32, fd33, fd34, fd35, fd36, fd37, fd38, fd39, fd40, fd41, fd42, fd43, fd44, fd45, fd46, fd47, fd48, fd49, fd50, fd51, fd52, fd53, fd54, fd55, fd56, fd57, fd58, fd59, fd60, fd61, fd62, fd63, fd64]
def faL : List He.Fa := [.glo "is_name", .glo "require_name", .glo "is_kind", .glo "require_kind", .glo "is_step", .glo "is_program", .glo "ends_well", .glo "has_needed", .glo "is_in_order", .glo "comes_before", .glo "step_text", .glo "program_text", .glo "require_modes", .glo "require_clashes", .glo "clashing_modes", .glo "standard", .glo "read_strengths", .glo "parsed_strengths", .glo "require_strengths", .glo "require_programs", .glo "require_program", .glo "require_mode", .glo "read_protocol", .glo "parsed_protocol", .glo "_law_cell", .glo "_law_box", .glo "_law_take", .glo "_law_mixed", .glo "_law_names", .glo "_law_kinds", .glo "_law_is_name", .glo "_law_is_step", .glo "_law_count", .glo "_law_order", .glo "_law_is_program", .glo "_law_drawn_step", .glo "_law_base", .glo "_law_program", .glo "_law_programs", .glo "_law_ordered", .glo "_law_text", .glo "_law_read_head", .glo "_law_places", .glo "_law_read", .glo "_law_told", .glo "_law_bent", .glo "law", .glo "InvalidName", .glo "InvalidModes", .glo "InvalidClash", .glo "InvalidStrengths", .glo "InvalidProgram", .glo "InvalidPrograms", .glo "InvalidText", .glo "Duplicate", .glo "UnknownMode", .glo "NoProgram", .glo "PartsError", .cls "Strengths", .glo "Strengths", .mkr "Strengths", .meth "Strengths" "__init__", .meth "Strengths" "modes", .meth "Strengths" "clashes", .meth "Strengths" "__eq__", .meth "Strengths" "__str__", .noat "Strengths" "_modes", .noat "Strengths" "_against", .cls "Rulebook", .glo "Rulebook", .mkr "Rulebook", .meth "Rulebook" "__init__", .meth "Rulebook" "__eq__", .meth "Rulebook" "__str__", .noat "Rulebook" "_strengths", .noat "Rulebook" "_programs", .exm "InvalidModes" "PartsError" true, .exm "InvalidName" "PartsError" true, .exm "Duplicate" "PartsError" true, .exm "InvalidStrengths" "PartsError" true, .exm "InvalidClash" "PartsError" true, .exm "UnknownMode" "PartsError" true, .exm "InvalidText" "PartsError" true, .exm "InvalidText" "InvalidText" true, .exm "NoProgram" "PartsError" true, .exm "InvalidProgram" "PartsError" true, .exm "InvalidPrograms" "PartsError" true, .int "LONGEST_NAME" 8, .int "MOST_STEPS" 12, .int "MOST_MODES" 8, .glo "KINDS", .glo "LOCKS", .glo "STEPS", .glo "NEEDED", .glo "AT_MOST_ONCE", .glo "ORDERS", .free "all", .free "isinstance", .free "str", .free "len", .free "tuple", .free "list", .free "enumerate", .free "max", .free "min", .free "dict", .free "range"]
def clsL : List (Str × Str) := [(("InvalidName" : Str), ("value" : Str)), (("InvalidModes" : Str), ("value" : Str)), (("InvalidClash" : Str), ("value" : Str)), (("InvalidStrengths" : Str), ("value" : Str)), (("InvalidProgram" : Str), ("value" : Str)), (("InvalidPrograms" : Str), ("value" : Str)), (("InvalidText" : Str), ("value" : Str)), (("Duplicate" : Str), ("name" : Str)), (("UnknownMode" : Str), ("name" : Str)), (("NoProgram" : Str), ("kind" : Str))]
def tfL : List He.Defn := []
def exB (K : PySem.W.Frag) : Bool := clsL.all (clsX K) && (insX K "Strengths" && (decide (PySem.W.kitOne K (.ref (He.ga K "Strengths")) (.type "str") = some false) && (insX K "Rulebook" && (decide (PySem.W.kitOne K (.ref (He.ga K "Rulebook")) (.type "str") = some false)))))
def loose0 : List Str := ["_wall", "__name__", "PartsError", "InvalidName", "InvalidModes", "InvalidClash", "InvalidStrengths", "InvalidProgram", "InvalidPrograms", "InvalidText", "Duplicate", "UnknownMode", "NoProgram", "LONGEST_NAME", "is_name", "require_name", "MOST_STEPS", "KINDS", "LOCKS", "STEPS", "NEEDED", "AT_MOST_ONCE", "ORDERS", "is_kind", "require_kind", "is_step", "is_program", "ends_well", "has_needed", "is_in_order"]
def loose1 : List Str := ["comes_before", "step_text", "program_text", "MOST_MODES", "Strengths", "require_modes", "require_clashes", "clashing_modes", "standard", "read_strengths", "parsed_strengths", "Rulebook", "require_strengths", "require_programs", "require_program", "require_mode", "read_protocol", "parsed_protocol", "_law_cell", "_law_box", "_law_take", "_law_mixed", "_law_names", "_law_kinds", "_law_is_name", "_law_is_step", "_law_count", "_law_order", "_law_is_program", "_law_drawn_step"]
def loose2 : List Str := ["_law_base", "_law_program", "_law_programs", "_law_ordered", "_law_text", "_law_read_head", "_law_places", "_law_read", "_law_told", "_law_bent"]
def looseL : List Str := loose0 ++ loose1 ++ loose2
abbrev RW : PySem.W.OpenRow := PySem.W.OpenLaw.row PySem.Challenge.rw_hungparts_k24_texts_of_protocols
def bt_KINDS : PyData := (.tuple [(.str "put"), (.str "strike"), (.str "read"), (.str "direct"), (.str "hang"), (.str "take"), (.str "split"), (.str "join")])
def bt_LOCKS : List (Str × PyData) := [("put", (.tuple [(.str "table"), (.str "part")])), ("strike", (.tuple [(.str "table"), (.str "part")])), ("read", (.tuple [(.str "table"), (.str "part")])), ("direct", (.tuple [(.str "part")])), ("hang", (.tuple [(.str "table"), (.str "new"), (.str "rest")])), ("take", (.tuple [(.str "table"), (.str "old"), (.str "rest")])), ("split", (.tuple [(.str "table"), (.str "old"), (.str "new"), (.str "rest")])), ("join", (.tuple [(.str "table"), (.str "old"), (.str "new"), (.str "rest")]))]
def bt_STEPS : List (Str × PyData) := [("put", (.tuple [(.tuple [(.str "look")]), (.tuple [(.str "again")]), (.tuple [(.str "key")]), (.tuple [(.str "put")]), (.tuple [(.str "claim")]), (.tuple [(.str "end")])])), ("strike", (.tuple [(.tuple [(.str "look")]), (.tuple [(.str "again")]), (.tuple [(.str "strike")]), (.tuple [(.str "end")])])), ("read", (.tuple [(.tuple [(.str "look")]), (.tuple [(.str "again")]), (.tuple [(.str "view")]), (.tuple [(.str "read")]), (.tuple [(.str "end")])])), ("direct", (.tuple [(.tuple [(.str "border")]), (.tuple [(.str "key")]), (.tuple [(.str "put")]), (.tuple [(.str "claim")]), (.tuple [(.str "end")])])), ("hang", (.tuple [(.tuple [(.str "scan"), (.str "new")]), (.tuple [(.str "scan"), (.str "rest")]), (.tuple [(.str "switch")]), (.tuple [(.str "wait")]), (.tuple [(.str "close")]), (.tuple [(.str "end")])])), ("take", (.tuple [(.tuple [(.str "switch")]), (.tuple [(.str "wait")]), (.tuple [(.str "close")]), (.tuple [(.str "end")])])), ("split", (.tuple [(.tuple [(.str "move")]), (.tuple [(.str "switch")]), (.tuple [(.str "wait")]), (.tuple [(.str "close")]), (.tuple [(.str "end")])])), ("join", (.tuple [(.tuple [(.str "move")]), (.tuple [(.str "switch")]), (.tuple [(.str "wait")]), (.tuple [(.str "close")]), (.tuple [(.str "end")])]))]
def bt_NEEDED : List (Str × PyData) := [("put", (.tuple [(.tuple [(.str "look")]), (.tuple [(.str "put"), (.str "claim")])])), ("strike", (.tuple [(.tuple [(.str "look")]), (.tuple [(.str "strike")])])), ("read", (.tuple [(.tuple [(.str "look")]), (.tuple [(.str "view")]), (.tuple [(.str "read")])])), ("direct", (.tuple [(.tuple [(.str "put"), (.str "claim")])])), ("hang", (.tuple [(.tuple [(.str "switch"), (.str "close")])])), ("take", (.tuple [(.tuple [(.str "switch"), (.str "close")])])), ("split", (.tuple [(.tuple [(.str "switch"), (.str "close")]), (.tuple [(.str "move")])])), ("join", (.tuple [(.tuple [(.str "switch"), (.str "close")]), (.tuple [(.str "move")])]))]
def bt_AT_MOST_ONCE : PyData := (.tuple [(.str "border"), (.str "key"), (.str "scan new"), (.str "scan rest")])
def bt_ORDERS : PyData := (.tuple [(.tuple [(.tuple [(.str "look")]), (.tuple [(.str "lock part"), (.str "again"), (.str "key"), (.str "put"), (.str "claim"), (.str "strike"), (.str "read")])]), (.tuple [(.tuple [(.str "view")]), (.tuple [(.str "read")])]), (.tuple [(.tuple [(.str "border"), (.str "key"), (.str "again")]), (.tuple [(.str "put"), (.str "claim"), (.str "strike"), (.str "read")])]), (.tuple [(.tuple [(.str "move"), (.str "scan new"), (.str "scan rest")]), (.tuple [(.str "switch"), (.str "close")])]), (.tuple [(.tuple [(.str "switch")]), (.tuple [(.str "wait")])])])
def tsL : List He.Tab := [(fun K => He.ga K "LOCKS", bt_LOCKS.map (·.1)), (fun K => He.ga K "STEPS", bt_STEPS.map (·.1)), (fun K => He.ga K "NEEDED", bt_NEEDED.map (·.1))]
def bxL (K : PySem.W.Frag) : BxO := [[datK K 4 (.ref (He.ga K "KINDS"))], bt_LOCKS.map (fun p => nsD K (He.ga K "LOCKS") p.1), bt_STEPS.map (fun p => nsD K (He.ga K "STEPS") p.1), bt_NEEDED.map (fun p => nsD K (He.ga K "NEEDED") p.1), [datK K 4 (.ref (He.ga K "AT_MOST_ONCE"))], [datK K 4 (.ref (He.ga K "ORDERS"))]]
def bxV : BxO := [[some bt_KINDS], bt_LOCKS.map fun p => some p.2, bt_STEPS.map fun p => some p.2, bt_NEEDED.map fun p => some p.2, [some bt_AT_MOST_ONCE], [some bt_ORDERS]]
def prL : List (Str × Str) := []
def prV : List He.FnW := []
abbrev hookM : PySem.W.Hook := hookRb 1000 faL fnL tsL tfL exB prL prV bxL bxV
def obN (s : PySem.W.SharedT) : He.AlX × List He.FnW × BxO := obsRb 1000 faL fnL tsL tfL exB prL bxL (HandSHeadRun.getT s)
theorem obN_eq (s : PySem.W.SharedT) : obN s = hookM.obs s.abs := obsRb_eq (HandSHeadRun.getT_eq s)
theorem opt3 {α β γ δ : Type} {o : Option α} {f : α → β} {g : α → γ} {h : α → δ} {b : β} {c : γ} {d : δ} (h1 : o.map f = some b) (h2 : o.map g = some c) (h3 : o.map h = some d) : o.map (fun s => (f s, g s, h s)) = some (b, c, d) := by
  cases o with
  | none => cases h1
  | some a => cases h1; cases h2; cases h3; rfl
def setF (w : World) (b : Bool) : World := { w with params := { w.params with followText := fun r => if r = "special-get-raises" then b else w.params.followText r } }
theorem setF_eq (w : World) : setF w (w.params.followText "special-get-raises") = w := by
  have e : (fun r => if r = "special-get-raises" then w.params.followText "special-get-raises" else w.params.followText r) = w.params.followText := funext fun r => by
    by_cases h : r = "special-get-raises"
    · rw [if_pos h, h]
    · rw [if_neg h]
  unfold setF
  rw [e]
theorem flagged {P : World → Prop} (h1 : ∀ w, P (setF w true)) (h0 : ∀ w, P (setF w false)) (w : World) : P w := by
  rw [← setF_eq w]
  cases w.params.followText "special-get-raises" with
  | true => exact h1 w
  | false => exact h0 w
theorem runA1 (w : World) (os : PySem.OsState) : (HandSHeadRun.endF (HandSHeadRun.stepQ (HandSHeadRun.denQ HandSHeadRun.tabQ) RW.prog (setF w true)) 6000 RW.prog (setF w true) os).map (fun s => HandSHeadRun.looksF RW.prog (PySem.W.boot_heap (setF w true).params) s.abs) = some true := by
  kernel_rfl
theorem runB1 (w : World) (os : PySem.OsState) : (HandSHeadRun.endF (HandSHeadRun.stepQ (HandSHeadRun.denQ HandSHeadRun.tabQ) RW.prog (setF w true)) 6000 RW.prog (setF w true) os).map (fun s => HandSHeadRun.seenQ (PySem.W.view RW.prog [75]) looseL (PySem.importedModules RW.prog.main.body) (fun s => PySem.W.xlAt (PySem.W.view RW.prog [75]) [] s && PySem.W.recOk RW.toRowW.records s) s.abs) = some (PySem.W.openGood (PySem.W.view RW.prog [75]) looseL) := by
  kernel_rfl
theorem runC1 (w : World) (os : PySem.OsState) : (HandSHeadRun.endF (HandSHeadRun.stepQ (HandSHeadRun.denQ HandSHeadRun.tabQ) RW.prog (setF w true)) 6000 RW.prog (setF w true) os).map obN = some (hookM.val (setF w true)) := by
  kernel_rfl
theorem runA0 (w : World) (os : PySem.OsState) : (HandSHeadRun.endF (HandSHeadRun.stepQ (HandSHeadRun.denQ HandSHeadRun.tabQ) RW.prog (setF w false)) 6000 RW.prog (setF w false) os).map (fun s => HandSHeadRun.looksF RW.prog (PySem.W.boot_heap (setF w false).params) s.abs) = some true := by
  kernel_rfl
theorem runB0 (w : World) (os : PySem.OsState) : (HandSHeadRun.endF (HandSHeadRun.stepQ (HandSHeadRun.denQ HandSHeadRun.tabQ) RW.prog (setF w false)) 6000 RW.prog (setF w false) os).map (fun s => HandSHeadRun.seenQ (PySem.W.view RW.prog [75]) looseL (PySem.importedModules RW.prog.main.body) (fun s => PySem.W.xlAt (PySem.W.view RW.prog [75]) [] s && PySem.W.recOk RW.toRowW.records s) s.abs) = some (PySem.W.openGood (PySem.W.view RW.prog [75]) looseL) := by
  kernel_rfl
theorem runC0 (w : World) (os : PySem.OsState) : (HandSHeadRun.endF (HandSHeadRun.stepQ (HandSHeadRun.denQ HandSHeadRun.tabQ) RW.prog (setF w false)) 6000 RW.prog (setF w false) os).map obN = some (hookM.val (setF w false)) := by
  kernel_rfl
theorem run (w : World) : HandSHeadRun.RunEq RW (PySem.W.view RW.prog [75]) hookM obN 6000 looseL w := flagged (P := fun w => HandSHeadRun.RunEq RW (PySem.W.view RW.prog [75]) hookM obN 6000 looseL w) (fun w os => opt3 (runA1 w os) (runB1 w os) (runC1 w os)) (fun w os => opt3 (runA0 w os) (runB0 w os) (runC0 w os)) w
/-! ### further rules -/
section
variable {X : Cx}
theorem holdAll_ints {h : Heap} : ∀ {us : List Value} {ns : List Int}, Vals (ns.map V.int) us → PySem.W.HoldAll (α := Int) h us ns
  | _, [], .nil => ⟨_, .nil⟩
  | _, n :: r, .cons ⟨t, e⟩ k => by
    subst e
    obtain ⟨as, q⟩ := holdAll_ints (h := h) k
    exact ⟨_, .cons (.int n t) q⟩
theorem holds_int {h : Heap} {v : Value} {n : Int} (H : PySem.W.Holds (α := Int) h v n) : ∃ t, v = .int n t := by
  obtain ⟨as, r⟩ := H
  cases r
  exact ⟨_, rfl⟩
theorem maxOf_ints : ∀ (ys : List Int) (y : Int), PySem.W.maxOf y ys ∈ y :: ys ∧ ∀ n ∈ y :: ys, n ≤ PySem.W.maxOf y ys := by
  intro ys
  induction ys with
  | nil =>
    intro y
    exact ⟨List.mem_cons_self, fun n hn => by cases List.mem_singleton.mp hn; exact Int.le_refl _⟩
  | cons z r ih =>
    intro y
    have e : PySem.W.maxOf y (z :: r) = PySem.W.maxOf (if y < z then z else y) r := by
      show List.foldl _ (if decide (y < z) = true then z else y) r = _
      simp only [decide_eq_true_eq]
      rfl
    rw [e]
    obtain ⟨h1, h2⟩ := ih (if y < z then z else y)
    have hy := h2 _ List.mem_cons_self
    have hyz : y ≤ (if y < z then z else y) ∧ z ≤ (if y < z then z else y) := by
      split <;> omega
    refine ⟨?_, fun n hn => ?_⟩
    · rcases List.mem_cons.mp h1 with q | q
      · rw [q]
        split <;> simp
      · exact List.mem_cons_of_mem _ (List.mem_cons_of_mem _ q)
    · rcases List.mem_cons.mp hn with rfl | hn
      · omega
      · rcases List.mem_cons.mp hn with rfl | hn
        · omega
        · exact h2 n (List.mem_cons_of_mem _ hn)
theorem minOf_ints : ∀ (ys : List Int) (y : Int), PySem.W.minOf y ys ∈ y :: ys ∧ ∀ n ∈ y :: ys, PySem.W.minOf y ys ≤ n := by
  intro ys
  induction ys with
  | nil =>
    intro y
    exact ⟨List.mem_cons_self, fun n hn => by cases List.mem_singleton.mp hn; exact Int.le_refl _⟩
  | cons z r ih =>
    intro y
    have e : PySem.W.minOf y (z :: r) = PySem.W.minOf (if z < y then z else y) r := by
      show List.foldl _ (if decide (z < y) = true then z else y) r = _
      simp only [decide_eq_true_eq]
      rfl
    rw [e]
    obtain ⟨h1, h2⟩ := ih (if z < y then z else y)
    have hy := h2 _ List.mem_cons_self
    have hyz : (if z < y then z else y) ≤ y ∧ (if z < y then z else y) ≤ z := by
      split <;> omega
    refine ⟨?_, fun n hn => ?_⟩
    · rcases List.mem_cons.mp h1 with q | q
      · rw [q]
        split <;> simp
      · exact List.mem_cons_of_mem _ (List.mem_cons_of_mem _ q)
    · rcases List.mem_cons.mp hn with rfl | hn
      · omega
      · rcases List.mem_cons.mp hn with rfl | hn
        · omega
        · exact h2 n (List.mem_cons_of_mem _ hn)
/-- max(xs, default=d), xs a list of whole numbers -/
def rMaxD (K : PySem.W.Frag) : List V → List V → Hp → VK → Prop := fun xs zs H Q => ∃ (a : Addr) (ns : List Int) (d : V), xs = [.ref a] ∧ zs = [d] ∧ SqL K H a (ns.map V.int) ∧ (ns = [] → Q d H) ∧ ∀ m, m ∈ ns → (∀ n ∈ ns, n ≤ m) → Q (.int m) H
def rMinD (K : PySem.W.Frag) : List V → List V → Hp → VK → Prop := fun xs zs H Q => ∃ (a : Addr) (ns : List Int) (d : V), xs = [.ref a] ∧ zs = [d] ∧ SqL K H a (ns.map V.int) ∧ (ns = [] → Q d H) ∧ ∀ m, m ∈ ns → (∀ n ∈ ns, m ≤ n) → Q (.int m) H
theorem cr_maxD (hc : X.calm = true) (hu : X.A.units + 64 < cLine) : CallRK X (.builtin "max") ["default"] (rMaxD X.K) := by
  intro pins s σ H xs zs us ws Q I rx rz h
  obtain ⟨a, ns, d, rfl, rfl, hS, h0, h1⟩ := h
  obtain ⟨its, rv, pl, _⟩ := I.list hS
  obtain ⟨u, rfl, ru⟩ := vals1 rx
  obtain ⟨dv, rfl, rd⟩ := vals1 rz
  cases ru
  refine PySem.W.max_list_datum_default (α := Int) (xs := ns) (I.ok.hd hc) pl.isList (holdAll_ints (by simpa using rv)) (by show X.A.units + 1 + 0 < cLine; omega) (fun e h' tk k => ⟨d, H, I.kept k, rd, h0 e⟩) fun y ys i v h' tk e hi hh k => ?_
  subst e
  obtain ⟨t, rfl⟩ := holds_int hh
  have m := maxOf_ints ys y
  exact ⟨.int _, H, I.kept k, ⟨t, rfl⟩, h1 _ m.1 m.2⟩
theorem cr_minD (hc : X.calm = true) (hu : X.A.units + 64 < cLine) : CallRK X (.builtin "min") ["default"] (rMinD X.K) := by
  intro pins s σ H xs zs us ws Q I rx rz h
  obtain ⟨a, ns, d, rfl, rfl, hS, h0, h1⟩ := h
  obtain ⟨its, rv, pl, _⟩ := I.list hS
  obtain ⟨u, rfl, ru⟩ := vals1 rx
  obtain ⟨dv, rfl, rd⟩ := vals1 rz
  cases ru
  refine PySem.W.min_list_datum_default (α := Int) (xs := ns) (I.ok.hd hc) pl.isList (holdAll_ints (by simpa using rv)) (by show X.A.units + 1 + 0 < cLine; omega) (fun e h' tk k => ⟨d, H, I.kept k, rd, h0 e⟩) fun y ys i v h' tk e hi hh k => ?_
  subst e
  obtain ⟨t, rfl⟩ := holds_int hh
  have m := minOf_ints ys y
  exact ⟨.int _, H, I.kept k, ⟨t, rfl⟩, h1 _ m.1 m.2⟩
/-- what is surely the same: a flat value, or one object -/
def sureV (v : V) : Bool := flatB v || (match v with | .ref _ => true | _ => false)
theorem sure_eq {A : Around} {s : Shared} {v : V} {u u' : Value} (r : RelV v u) (r' : RelV v u') (f : sureV v = true) : SeqAt.EqAt A s u u' true := by
  cases v with
  | ref a =>
    cases (show u = Value.ref a from r)
    cases (show u' = Value.ref a from r')
    exact SeqAt.EqAt.same _
  | ty n => cases f
  | flt b => cases f
  | _ => exact eqAt_same r r' rfl
/-- two lists of the same items: they are not unlike -/
def rNeS (K : PySem.W.Frag) : R2 := fun x y H Q => ∃ (a b : Addr) (xs : List V), x = .ref a ∧ y = .ref b ∧ SqL K H a xs ∧ SqL K H b xs ∧ xs.all sureV = true ∧ Q (.bl false) H
theorem op_neS (hu : X.A.units + 64 < cLine) : OpR X (compareOp .NotEq) (rNeS X.K) := by
  intro pins s σ H x y v u Q I rx ry h
  obtain ⟨a, b, xs, rfl, rfl, ha, hb, hf, q⟩ := h
  cases (show v = Value.ref a from rx)
  cases (show u = Value.ref b from ry)
  obtain ⟨us, r1, p1, _⟩ := I.list ha
  obtain ⟨ws, r2, p2, _⟩ := I.list hb
  have hl : us.toArray.size = ws.toArray.size := by
    rw [List.size_toArray, List.size_toArray, ← r1.length, ← r2.length]
  refine SeqAt.RcNeAt.lists (e := fun _ => true) p1.isList p2.isList hl (by omega) (fun j h1 h2 => ?_) X.prog X.w _ _ ?_
  · have hj : j < xs.length := by
      rw [r1.length]
      simpa using h1
    obtain ⟨u1, e1, q1⟩ := r1.get (List.getElem?_eq_getElem hj)
    obtain ⟨u2, e2, q2⟩ := r2.get (List.getElem?_eq_getElem hj)
    have k1 : us.toArray[j] = u1 := by
      have := List.getElem?_eq_some_iff.mp e1
      simpa using this.2
    have k2 : ws.toArray[j] = u2 := by
      have := List.getElem?_eq_some_iff.mp e2
      simpa using this.2
    rw [k1, k2]
    exact sure_eq q1 q2 (List.all_eq_true.mp hf _ (List.getElem_mem hj))
  · have ea : ((List.range us.toArray.size).all fun _ => true) = true := List.all_eq_true.mpr fun _ _ => rfl
    rw [ea]
    exact ⟨.bl false, H, I, rfl, q⟩
end
/-- list(..) within a comprehension -/
def rListOfN (K : PySem.W.Frag) : List V → Hp → VK → Prop := fun xs H Q => ∃ p ys, xs = [V.ref p] ∧ (SqL K H p ys ∨ SqT K H p ys) ∧ ∀ l, H l = none → Q (V.ref l) (upd H l (.lst ys))
/-! ### try with several clauses, each of which names the exception: slot i is the name's -/
/-- what the clauses wish of an exception of the body, one after the other -/
def wManyAs (K : PySem.W.Frag) (i : Nat) (Wout : WX) (D : Ends) : List (Value × (Addr → Value → Option Addr → TS)) → WX
  | [] => Wout
  | (c, ts) :: r => wAs K c i ts (wManyAs K i Wout D r) D
inductive HdsAs (X : Cx) (n : Str) : List ExceptHandler → List (Value × (Addr → Value → Option Addr → TS)) → Prop
  | nil : HdsAs X n [] []
  | cons {x : Str} {c : Value} {ts : Addr → Value → Option Addr → TS} {st : Stmt} {sts : List Stmt} {p1 p2 : Pos} {hs : List ExceptHandler} {l : List (Value × (Addr → Value → Option Addr → TS))} (hc : Names X x c)
      (hb : ∀ (a : Addr) (o : Obj) (cls : Value) (d : Option Addr) (pn : List (Addr × Obj)), Zc cls d o → (∃ vs, o.data = .fields vs) → PSs (X.suite a ((a, o) :: pn)) (st :: sts) (ts a cls d)) (r : HdsAs X n hs l) :
      HdsAs X n (.ExceptHandler (some (.Name x p1)) (some n) (st :: sts) p2 :: hs) ((c, ts) :: l)
section
variable {X : Cx} {n : Str} {i : Nat} {pos : Pos} {tb : WX → TS} {Wout : WX} {body : List Stmt}
theorem ps_try_manyAs {g₀ : ExceptHandler} {gs : List ExceptHandler} {l : List (Value × (Addr → Value → Option Addr → TS))} (stk : X.stack = X.env :: X.outer) (frm : X.env.frame = some X.env.locals) (nodup : X.N.Nodup) (at_i : X.N[i]? = some n) (lcl : X.env.kindOf n = some .local)
    (out : Takes X Wout) (hbody : ∀ (W : WX) (pn : List (Addr × Obj)) (xe : Value → Shared → Prop), Takes (X.tr pn xe) W → PassesOwn (model X.prog X.w) X.A X.env xe → PSs (X.tr pn xe) body (tb W)) (hands : HdsAs X n (g₀ :: gs) l) :
    PS X (.Try body (g₀ :: gs) [] [] pos) (fun D σ H => tb (wManyAs X.K i Wout D l) D σ H) := by
  constructor
  intro pins s σ H D I hw
  have fr2 : X.A.frames = some (X.env :: X.outer) := by
    rw [I.ok.frames, stk]
  apply wpAny_Try_except
  let xe' : Value → Shared → Prop := fun e s₁ => wpAny (model X.prog X.w) X.A (noteFrame e X.env)
    (fun _ s₂ => wpAny (model X.prog X.w) X.A (setFlight e none) (fun _ s₃ => wpAny (model X.prog X.w) X.A (handleBy e X.env (g₀ :: gs)) (SP X pins D) X.xe s₃) X.xe s₂) X.xe s₁
  have caught : Takes (X.tr (X.pn ++ pins) xe') (wManyAs X.K i Wout D l) := by
    rintro u s' ⟨a, B, sI, pins', σ', H', cls, d, rfl, J1, nb, up, sky, na, os, ag, wish⟩
    have J := J1.ofTry I.ok
    have sky2 : Sky B (X.env :: X.outer) a (Zc cls d) X.env.locals s'.heap := by
      rw [← stk]
      exact sky
    show wpAny _ X.A (noteFrame (.ref a) X.env) _ _ _
    apply Sky.land Zc.steady fr2 frm sky2
    intro hA fly upA
    have JA : Inv X pins σ' H' { s' with heap := hA } := J.landed nb fly.1 (up.trans upA) os ag
    obtain ⟨oA, wA, getA, zA, dataA⟩ := fly.there
    have off : a ∉ frs (X.env :: X.outer) := by
      intro hm
      obtain ⟨_, o2, get2, nodata⟩ := fly.2.2.1.mem hm
      have same := get2.symm.trans getA
      cases same
      exact nodata _ dataA
    have offL : a ≠ X.env.locals := by
      intro z
      refine off (List.mem_filterMap.mpr ⟨X.env, List.mem_cons_self, ?_⟩)
      rw [frm, z]
    have offF : a ∉ X.fs := by
      intro hm
      obtain ⟨e, he, q⟩ := List.mem_filterMap.mp hm
      exact off (List.mem_filterMap.mpr ⟨e, List.mem_cons_of_mem _ he, q⟩)
    have SA := JA.suite getA dataA na offL offF
    suffices go : ∀ {hs : List ExceptHandler} {l' : List (Value × (Addr → Value → Option Addr → TS))}, HdsAs X n hs l' → wManyAs X.K i Wout D l' cls d σ' H' →
        wpAny (model X.prog X.w) X.A (handleBy (.ref a) X.env hs) (SP X pins D) X.xe { s' with heap := hA } from go hands wish
    intro hs l' hk
    induction hk with
    | nil =>
      intro wi
      apply wpAny_handleBy_nil
      obtain ⟨_, _, _, o5, w5, T5, oT5, t5, g5, z5, d5, e5, r5⟩ := id fly
      unfold PySem.passOn
      apply wpAny_bind
      refine wpAny_field g5 d5 e5 ?_
      rw [if_neg (show ¬ ((Value.ref T5 == Value.none) = true) by simp)]
      have leave : wpAny (model X.prog X.w) X.A (setFlight (.ref a) X.env.frame) (fun _ s4 => wpAny (model X.prog X.w) X.A (throw (.ref a) : Sem Flow) (SP X pins D) X.xe s4) X.xe { s' with heap := hA } := by
        rw [frm]
        refine HandSPX.setFlight_upZ fly fun hB heldB upB => ?_
        apply wpAny_throw
        exact out _ _ ⟨a, B, sI, pins, σ', H', cls, d, rfl, J, nb, (up.trans upA).trans upB, .inr (.inr (by rw [stk]; exact heldB)), na, os, ag, wi⟩
      first
        | exact wpAny_bind leave
        | exact wpAny_bind (wpAny_pure (wpAny_bind leave))
    | @cons x c ts st sts p1 p2 hs2 l2 hc hb r ih =>
      rintro ⟨b, isb, yes, no⟩
      refine wpAny_handleBy_cons (codeAny_handlers_test ?_) (by intro q; cases q)
      have lookT : PySem.W.Looks (model X.prog X.w) hA (typeOf (.ref a)) cls := by
        intro A' Q E s2 k q
        exact wpAny_typeOf_ref (k _ _ getA) (by rw [zA.1]; exact q)
      have lookM := PySem.W.exm_one (M := model X.prog X.w) JA.kIn lookT isb
      have named : ∀ {Q E : Value → Shared → Prop}, Q c { s' with heap := hA } → wpAny (model X.prog X.w) (X.A.mark (some (.ref a))) (eval (.Name x p1) X.env) Q E { s' with heap := hA } := by
        intro Q E q
        obtain ⟨gl, nd, hm⟩ := hc
        rcases hm with hm | ⟨hm, bv, nn⟩
        · exact ld_glob (X := X.suite a ((a, oA) :: (X.pn ++ pins))) SA gl hm q nd
        · exact ld_blt (X := X.suite a ((a, oA) :: (X.pn ++ pins))) SA gl hm bv q nn nd
      apply named
      apply lookM.here
      cases b with
      | false =>
        show wpAny _ X.A (handleBy (.ref a) X.env hs2) _ _ _
        exact ih (no rfl)
      | true =>
        apply codeAny_handlers_suite_as
        refine HandSPX.lands_againZ fly fun hC flyC upC => ?_
        have JC : Inv X pins σ' H' { s' with heap := hC } := J.landed nb flyC.1 ((up.trans upA).trans upC) os ag
        obtain ⟨oC, wC, getC, zC, dataC⟩ := flyC.there
        have SC := JC.suite getC dataC na offL offF
        refine store_ok (X := X.suite a ((a, oC) :: (X.pn ++ pins))) (v := .ref a) SC nodup at_i (.inl lcl) rfl (fun s5 S5 => ?_) (.inr lcl)
        refine wpAny_mono ((hb a oC cls d (X.pn ++ pins) zC ⟨_, dataC⟩).run [] s5 _ H' _ S5 (yes rfl a na)) (fun fl s6 hq => ?_) (fun _ _ z => z.elim)
        have fin : ∀ {σ6 : L2.St} {H6 : Hp} {Q : Shared → Prop}, Inv (X.suite a ((a, oC) :: (X.pn ++ pins))) [] σ6 H6 s6 → (∀ s7, Inv X pins (σ6.set i none) H6 s7 → Q s7) →
            wpAny (model X.prog X.w) X.A (do bindName X.env n .none; unbindBehindTheSuite X.env n p2) (fun _ s7 => Q s7) X.xe s6 := by
          intro σ6 H6 Q S6 q
          exact gone_ok (S6.unsuite I.ok) nodup at_i lcl q
        cases fl with
        | ret u =>
          obtain ⟨v6, σ6, H6, S6, r6, q6⟩ := hq
          exact fin S6 fun s7 J7 => ⟨_, _, _, J7, r6, q6⟩
        | next =>
          obtain ⟨σ6, H6, S6, q6⟩ := hq
          exact fin S6 fun s7 J7 => ⟨_, _, J7, q6⟩
        | brk =>
          obtain ⟨σ6, H6, S6, q6⟩ := hq
          exact fin S6 fun s7 J7 => ⟨_, _, J7, q6⟩
        | cont =>
          obtain ⟨σ6, H6, S6, q6⟩ := hq
          exact fin S6 fun s7 J7 => ⟨_, _, J7, q6⟩
  refine wpAny_mono ((hbody _ (X.pn ++ pins) xe' caught PassesOwn.looking).run [] s σ H D (I.toTry _) hw) (fun fl s1 hq => ?_) (fun _ _ he => he)
  cases fl with
  | ret u =>
    obtain ⟨v, σ', H', J', r', q⟩ := hq
    exact ⟨v, σ', H', J'.ofTry I.ok, r', q⟩
  | next =>
    obtain ⟨σ', H', J', q⟩ := hq
    exact wpAny_execs_nil ⟨σ', H', J'.ofTry I.ok, q⟩
  | brk =>
    obtain ⟨σ', H', J', q⟩ := hq
    exact ⟨σ', H', J'.ofTry I.ok, q⟩
  | cont =>
    obtain ⟨σ', H', J', q⟩ := hq
    exact ⟨σ', H', J'.ofTry I.ok, q⟩
end
/-! ### a def called with keywords (and perhaps positional values ahead), what leaves it wished for at the caller's slots -/
/-- what such a call binds, the parameters' order by a permutation of the values -/
structure KwB (K : PySem.W.Frag) (fd : FuncData) (ps : List Str) (n : Nat) (ks : List Str) (g : {α : Type} → List α → List α → List α) : Prop where
  to : ∀ (us ws : List Value), us.length = n → ws.length = ks.length → bindArgs fd ⟨us, ks.zip ws⟩ = pure (ps.zip (g us ws))
  rel : ∀ {vs : List V} {us : List Value} {zs : List V} {ws : List Value}, vs.length = n → zs.length = ks.length → Vals vs us → Vals zs ws → Vals (g vs zs) (g us ws)
def tCallKw (n m : Nat) (sp : Sp) (g : List V → List V → List V) (E : L2.St → XK) (t tk : TA) : TE := fun σ H Q => t σ H fun vs H1 => tk σ H1 fun zs H2 => vs.length = n ∧ zs.length = m ∧ sp (g vs zs) H2 Q (E σ)
section
variable {X : Cx} {CX : CXT} {k n : Nat} {f : Addr} {fd : FuncData} {ps ks : List Str} {sp : Sp} {E : L2.St → XK} {x : Str} {p pos : Pos} {e : Expr} {es : List Expr} {kws : List Keyword} {t tk : TA} {g : {α : Type} → List α → List α → List α}
theorem run_kw {pins : List (Addr × Obj)} {σ : L2.St} {H : Hp} {s : Shared} {Q : VK} {us ws : List Value} {vs zs : List V} (F : FnOk X.prog X.w X.K X.mg X.base CX k f fd ps sp) (room : Room k X.A) (bnd : KwB X.K fd ps n ks g) (px : PassesAt CX X σ (E σ))
    (I : Inv X pins σ H s) (rv : Vals vs us) (rz : Vals zs ws) (l1 : vs.length = n) (l2 : zs.length = ks.length) (hsp : sp (g vs zs) H Q (E σ)) : wpAny (model X.prog X.w) X.A (call (.ref f) us (ks.zip ws)) (EP X pins σ Q) X.xe s := by
  apply wpAny_call
  refine codeAny_mono (F.run X.A X.stack s H ⟨us, ks.zip ws⟩ (g us ws) (g vs zs) Q (E σ) room I.env0 (.of_eq (bnd.to us ws (rv.length.symm.trans l1) (rz.length.symm.trans l2))) (bnd.rel l1 l2 rv rz) hsp) fun r s' got => ?_
  match r, got with
  | .error er, got => exact px pins H s er s' I got
  | .ok (.ret u), got => exact I.after got
  | .ok .next, got => exact got.elim
  | .ok .brk, got => exact got.elim
  | .ok .cont, got => exact got.elim
/-- f(k = v, ..) -/
theorem pe_kw0 (F : FnOk X.prog X.w X.K X.mg X.base CX k f fd ps sp) (room : Room k X.A) (gl : Gl X x) (m : X.mg x = some (.ref f)) (kp : PySem.W.keepIn X.K (.ref f) = true) (bnd : KwB X.K fd ps 0 ks g) (px : ∀ σ, PassesAt CX X σ (E σ)) (kw : PK X kws tk)
    (h1 : (backToKw pos (keywordEach kws X.env)).all (·.1.isSome) = true := by rfl) (h2 : (backToKw pos (keywordEach kws X.env)).filterMap (·.1) = ks := by rfl) (h3 : (x == ("__debug__" : Str)) = false := by decide)
    (h4 : ((backTo pos (starEach [] X.env)).any (·.1) || (backToKw pos (keywordEach kws X.env)).any (·.1.isNone)) = false := by rfl) : PE X (.Call (.Name x p) [] kws pos) (tCallKw 0 ks.length sp g E tNil tk) := by
  constructor
  intro pins s σ H Q I h
  apply wpAny_Call_Name_kw
  refine ld_glob I gl m ?_ h3
  refine PySem.W.callWith_KW0 (h₀ := X.base) I.ok.mod.kin kp h1 ?_ h4
  refine thn (kw.run pos pins s σ H _ I h) fun ws s2 got => ?_
  obtain ⟨zs, H2, I2, rz, l1, l2, q2⟩ := got
  rw [h2]
  exact ⟨I2.kIn, run_kw (us := []) (vs := []) F room bnd (px σ) I2 .nil rz rfl l2 q2⟩
/-- f(e, .., k = v, ..) -/
theorem pe_kw (F : FnOk X.prog X.w X.K X.mg X.base CX k f fd ps sp) (room : Room k X.A) (gl : Gl X x) (m : X.mg x = some (.ref f)) (kp : PySem.W.keepIn X.K (.ref f) = true) (bnd : KwB X.K fd ps n ks g) (px : ∀ σ, PassesAt CX X σ (E σ)) (ha : PA X (e :: es) t) (kw : PK X kws tk)
    (h1 : (backToKw pos (keywordEach kws X.env)).all (·.1.isSome) = true := by rfl) (h2 : (backToKw pos (keywordEach kws X.env)).filterMap (·.1) = ks := by rfl) (h3 : (x == ("__debug__" : Str)) = false := by decide)
    (h5 : starEach (e :: es) X.env = (false, eval e X.env) :: starEach es X.env := by rfl) (h4 : ((backTo pos (starEach (e :: es) X.env)).any (·.1) || (backToKw pos (keywordEach kws X.env)).any (·.1.isNone)) = false := by rfl) :
    PE X (.Call (.Name x p) (e :: es) kws pos) (tCallKw n ks.length sp g E t tk) := by
  constructor
  intro pins s σ H Q I h
  apply wpAny_Call_Name_kw
  refine ld_glob I gl m ?_ h3
  refine PySem.W.callWith_KW (h₀ := X.base) I.ok.mod.kin kp h1 (thn (ha.run pos pins s σ H _ I h) fun us s1 got => ?_) h4 h5
  obtain ⟨vs, H1, I1, rv, q⟩ := got
  refine thn (kw.run pos pins s1 σ H1 _ I1 q) fun ws s2 got => ?_
  obtain ⟨zs, H2, I2, rz, l1, l2, q2⟩ := got
  rw [h2]
  exact ⟨I2.kIn, run_kw F room bnd (px σ) I2 rv rz l1 l2 q2⟩
theorem passAt_of {X : Cx} {CX : CXT} {E : XK} (h : Passes CX X E) (σ : L2.St) : PassesAt CX X σ E := fun pins H s e s' I c => h pins σ H s e s' I c
/-- in a def that lets exceptions out: what a callee lets out goes on -/
theorem passC {X : Cx} {E : XK} (tk : Takes X (fun cls d _ H => E cls d H)) : Passes (L2.CX X.prog X.w) X E := passes_call tk fun _ _ _ _ h => h
end
/-- the drawing box at p: three ints, drawn n times at most -/
def BoxAt (H : Hp) (p : Addr) (n : Nat) : Prop := ∃ d s c : Int, H p = some (.lst [.int d, .int s, .int c]) ∧ 0 ≤ d ∧ 0 ≤ s ∧ s < 2147483629 ∧ 0 ≤ c ∧ c ≤ n
/-- H0: all that is known beside the box -/
structure BoxIn (H0 H : Hp) (p : Addr) (n : Nat) : Prop where
  same : Same H0 H
  free : H0 p = none
  box : BoxAt H p n
theorem BoxAt.mono {H : Hp} {p : Addr} {n m : Nat} (b : BoxAt H p n) (h : n ≤ m) : BoxAt H p m := by
  obtain ⟨d, s, c, h1, h2, h3, h4, h5, h6⟩ := b
  exact ⟨d, s, c, h1, h2, h3, h4, h5, by omega⟩
theorem BoxIn.mono {H0 H : Hp} {p : Addr} {n m : Nat} (b : BoxIn H0 H p n) (h : n ≤ m) : BoxIn H0 H p m := ⟨b.same, b.free, b.box.mono h⟩
/-- a pure step behind it -/
theorem BoxIn.keep {H0 H H' : Hp} {p : Addr} {n : Nat} (b : BoxIn H0 H p n) (s : Same H H') : BoxIn H0 H' p n := by
  obtain ⟨d, s', c, h1, h⟩ := b.box
  exact ⟨b.same.trans s, b.free, d, s', c, s _ _ h1, h⟩
/-- a new object becomes known -/
theorem BoxIn.new {H0 H : Hp} {p q : Addr} {n : Nat} {o : HO} (b : BoxIn H0 H p n) (hq : H q = none) : BoxIn (upd H0 q o) (upd H q o) p n ∧ Same H0 (upd H0 q o) := by
  obtain ⟨d, s', c, h1, h⟩ := b.box
  have npq : p ≠ q := ne_of_none h1 hq
  refine ⟨⟨fun x u e => ?_, by rw [upd_ne npq]; exact b.free, d, s', c, by rw [upd_ne npq]; exact h1, h⟩, fun x u e => ?_⟩
  · by_cases hx : x = q
    · subst hx
      rw [upd_same] at e ⊢
      exact e
    · rw [upd_ne hx] at e ⊢
      exact b.same _ _ e
  · rw [upd_ne (ne_of_none e (b.same.free hq))]
    exact e
/-- all that is tracked now, the box aside, is known -/
def but (H : Hp) (p : Addr) : Hp := fun q => if q = p then none else H q
theorem but_same {H : Hp} {p : Addr} : but H p p = none := by unfold but; rw [if_pos rfl]
theorem but_ne {H : Hp} {p q : Addr} (h : q ≠ p) : but H p q = H q := by unfold but; rw [if_neg h]
theorem BoxIn.all {H0 H : Hp} {p : Addr} {n : Nat} (b : BoxIn H0 H p n) : BoxIn (but H p) H p n ∧ Same H0 (but H p) := by
  refine ⟨⟨fun x u e => ?_, but_same, b.box⟩, fun x u e => ?_⟩
  · by_cases hx : x = p
    · subst hx
      rw [but_same] at e
      cases e
    · rw [but_ne hx] at e
      exact e
  · have hx : x ≠ p := fun q => by
      rw [q, b.free] at e
      cases e
    rw [but_ne hx]
    exact b.same _ _ e

def sp_law_cell (K : PySem.W.Frag) : Sp := fun vs H Q _ => ∃ (a : Addr) (ns : List Int) (k : Int), vs = [.ref a, .int k] ∧ SqL K H a (ns.map V.int) ∧ 0 ≤ k ∧ ∀ z, Q (.int z) H
def sp_law_box : Sp := fun vs H Q _ => ∃ z : Int, vs = [.int z] ∧ ∀ p o, H p = none → BoxAt (upd H p o) p 0 → Q (.ref p) (upd H p o)
def sp_law_take : Sp := fun vs H Q _ => ∃ (H0 : Hp) (p : Addr) (n : Nat) (m : Int), vs = [.ref p, .int m] ∧ BoxIn H0 H p n ∧ n < 1000000 ∧ 0 < m ∧ m < 1000000 ∧
  ∀ (z : Int) (H' : Hp), 0 ≤ z → z < m → BoxIn H0 H' p (n + 1) → Q (.int z) H'
/-- what the law's promise is: a list of at most 63 ints is handed in, True comes out -/
def sp_law (K : PySem.W.Frag) : Sp := fun vs H Q _ => ∃ (a : Addr) (ns : List Int), vs = [.ref a] ∧ SqL K H a (ns.map V.int) ∧ ns.length ≤ 63 ∧ ∀ H', Q (.bl true) H'
/-! ### values as data -/
theorem same_t {K : PySem.W.Frag} {H H' : Hp} {a : Addr} {xs : List V} (e : Same H H') (h : SqT K H a xs) : SqT K H' a xs := by
  rcases h with (h | ⟨o, h⟩) | h
  · exact .inl (.inl (e _ _ h))
  · exact .inl (.inr ⟨o, e _ _ h⟩)
  · exact .inr h
mutual
theorem dp_mono {K : PySem.W.Frag} {H H' : Hp} (e : Same H H') : ∀ {v : V} {d : PyData}, Dp K H v d → Dp K H' v d
  | _, _, .non => .non
  | _, _, .bl b => .bl b
  | _, _, .int i => .int i
  | _, _, .str x => .str x
  | _, _, .lst h a => .lst (e.seq h) (dpAll_mono e a)
  | _, _, .tup h a => .tup (same_t e h) (dpAll_mono e a)
theorem dpAll_mono {K : PySem.W.Frag} {H H' : Hp} (e : Same H H') : ∀ {vs : List V} {ds : List PyData}, DpAll K H vs ds → DpAll K H' vs ds
  | _, _, .nil => .nil
  | _, _, .cons a b => .cons (dp_mono e a) (dpAll_mono e b)
end
theorem dpAll_get {K : PySem.W.Frag} {H : Hp} : ∀ {vs : List V} {ds : List PyData} {i : Nat} {v : V}, DpAll K H vs ds → vs[i]? = some v → ∃ d, ds[i]? = some d ∧ Dp K H v d
  | _, _, 0, _, .cons a _, h => ⟨_, rfl, by cases h; exact a⟩
  | _, _, i + 1, _, .cons _ b, h => dpAll_get (i := i) b h
theorem dpAll_len {K : PySem.W.Frag} {H : Hp} : ∀ {vs : List V} {ds : List PyData}, DpAll K H vs ds → vs.length = ds.length
  | _, _, .nil => rfl
  | _, _, .cons _ b => congrArg (· + 1) (dpAll_len b)
theorem dpAll_strs {K : PySem.W.Frag} {H : Hp} : ∀ ss : List Str, DpAll K H (ss.map V.str) (ss.map PyData.str)
  | [] => .nil
  | s :: r => .cons (.str s) (dpAll_strs r)
theorem dpAll_bls {K : PySem.W.Frag} {H : Hp} : ∀ bs : List Bool, DpAll K H (bs.map V.bl) (bs.map PyData.bool)
  | [] => .nil
  | b :: r => .cons (.bl b) (dpAll_bls r)
theorem eqv_nil (ds : List PyData) : PyData.eqv (.list ds) (.list []) = ds.isEmpty := by
  cases ds with
  | nil => simp [PyData.eqv, PyData.eqvAll]
  | cons d r => simp [PyData.eqv, PyData.eqvAll]
theorem shaped_nil : SeqAt.shaped (.list []) = true := by decide +kernel
theorem canAll_mem {ds : List PyData} : PyData.canLayAll0 ds = true ↔ ∀ d ∈ ds, d.canLay0 = true := by
  induction ds with
  | nil => simp [PyData.canLayAll0]
  | cons d r ih => simp [PyData.canLayAll0, ih]
theorem depthAll_le {ds : List PyData} {n : Nat} (h : ∀ d ∈ ds, d.depth ≤ n) : PyData.depthAll ds ≤ n := by
  induction ds with
  | nil => simp [PyData.depthAll]
  | cons d r ih =>
    have h1 := h d (List.mem_cons_self)
    have h2 := ih fun x hx => h x (List.mem_cons_of_mem _ hx)
    simp only [PyData.depthAll]
    omega
theorem depthAll_mem {ds : List PyData} {d : PyData} (h : d ∈ ds) : d.depth ≤ PyData.depthAll ds := by
  induction ds with
  | nil => cases h
  | cons e r ih =>
    simp only [PyData.depthAll]
    rcases List.mem_cons.mp h with rfl | h
    · omega
    · have := ih h
      omega
theorem shaped_iff {d : PyData} : SeqAt.shaped d = true ↔ d.canLay0 = true ∧ d.depth ≤ 64 := by
  unfold SeqAt.shaped
  rw [Bool.and_eq_true, decide_eq_true_iff]
/-- a list of data that are d deep at most -/
theorem shaped_list {ds : List PyData} {n : Nat} (hn : n < 64) (h : ∀ d ∈ ds, d.canLay0 = true ∧ d.depth ≤ n) : SeqAt.shaped (.list ds) = true := by
  refine shaped_iff.mpr ⟨?_, ?_⟩
  · simp only [PyData.canLay0]
    exact canAll_mem.mpr fun d hd => (h d hd).1
  · have := depthAll_le fun d hd => (h d hd).2
    simp only [PyData.depth]
    omega
theorem shaped_of_tuple {ds : List PyData} (h : SeqAt.shaped (.tuple ds) = true) {d : PyData} (hd : d ∈ ds) : d.canLay0 = true ∧ d.depth ≤ 63 := by
  obtain ⟨h1, h2⟩ := shaped_iff.mp h
  simp only [PyData.canLay0] at h1
  simp only [PyData.depth] at h2
  have := depthAll_mem hd
  exact ⟨canAll_mem.mp h1 d hd, by omega⟩
/-- a value and what it is: data of any depth, or a dict (none) -/
inductive VD (K : PySem.W.Frag) (H : Hp) : V → Option PyData → Prop where
  | dat {v : V} {d : PyData} : Dp K H v d → SeqAt.shaped d = true → (∀ s, d = .str s → s.length ≤ 100000) → VD K H v (some d)
  | dic {a : Addr} {kvs : List (Key × V)} : H a = some (.dK kvs) → VD K H (.ref a) none
theorem VD.mono {K : PySem.W.Frag} {H H' : Hp} (e : Same H H') {v : V} {o : Option PyData} (h : VD K H v o) : VD K H' v o := by
  cases h with
  | dat a b c => exact .dat (dp_mono e a) b c
  | dic a => exact .dic (e _ _ a)
def tyD : PyData → String
  | .none => "NoneType" | .bool _ => "bool" | .int _ => "int" | .str _ => "str" | .list _ => "list" | .tuple _ => "tuple" | .dict _ => "dict"
def tyO : Option PyData → String
  | none => "dict"
  | some d => tyD d
theorem dp_ty {K : PySem.W.Frag} {H : Hp} {v : V} {d : PyData} (h : Dp K H v d) : TyX K H v (.type (tyD d)) := by
  cases h with
  | non => exact .base .non
  | bl b => exact .base (.bl b)
  | int i => exact .base (.int i)
  | str x => exact .base (.str x)
  | lst h _ =>
    rcases h with (h | ⟨o, h⟩) | ⟨o, its, n, h, c, _⟩
    · exact .base (.lst h)
    · exact .base (.frz h)
    · exact .kList h c
  | tup h _ =>
    rcases h with (h | ⟨o, h⟩) | ⟨o, its, n, h, c, _⟩
    · exact .base (.tup h)
    · exact .fTuple h
    · exact .kTuple h c
theorem VD.ty {K : PySem.W.Frag} {H : Hp} {v : V} {o : Option PyData} (h : VD K H v o) : TyX K H v (.type (tyO o)) := by
  cases h with
  | dat a _ _ => exact dp_ty a
  | dic a => exact .base (.dK a)
def isT (T : String) (o : Option PyData) : Bool := tyO o == T || (T == "int" && tyO o == "bool")
theorem tyO_mem (o : Option PyData) : tyO o = "NoneType" ∨ tyO o = "bool" ∨ tyO o = "int" ∨ tyO o = "str" ∨ tyO o = "list" ∨ tyO o = "tuple" ∨ tyO o = "dict" := by
  rcases o with _ | d
  · simp [tyO]
  · cases d <;> simp [tyO, tyD]
theorem kit_o {K : PySem.W.Frag} (o : Option PyData) {T : String} (hT : T = "int" ∨ T = "bool" ∨ T = "str" ∨ T = "tuple") : PySem.W.kitOne K (.type (tyO o)) (.type T) = some (isT T o) := by
  have h := tyO_mem o
  unfold isT
  generalize tyO o = nm at h ⊢
  rcases hT with rfl | rfl | rfl | rfl
  all_goals
    rcases h with rfl | rfl | rfl | rfl | rfl | rfl | rfl
    all_goals exact kit_ty (by decide +kernel)
def nonO : Option PyData → Bool
  | some .none => true
  | _ => false
theorem vd_non {K : PySem.W.Frag} {H : Hp} {v : V} {o : Option PyData} (h : VD K H v o) : decide (v = .non) = nonO o := by
  cases h with
  | dat a _ _ => cases a <;> rfl
  | dic a => rfl
theorem iteFe {c : Bool} {A B : Prop} (h : c = false) (q : B) : if c = true then A else B := by
  subst h
  exact iteF q
theorem iteTe {c : Bool} {A B : Prop} (h : c = true) (q : A) : if c = true then A else B := by
  subst h
  exact iteT q
theorem tyes {te : TE} {σ : L2.St} {H : Hp} {R : V → Hp → Prop} {S : Hp → Prop} (h : te σ H R) : tYes σ H (fun b H3 => if b = true then te σ H3 R else S H3) := by
  show (if true = true then te σ H R else S H)
  exact iteT h
/-! ### comprehensions that change nothing: acc i is what is made behind i turns -/
theorem lc_acc {J : It} {n : Nat} {G : Hp → Prop} {item : Nat → V → Prop} {g : TG} {tt : TT} {te : TE} {vs : List Nat} {σ : L2.St} {H1 : Hp} {D : Addr} {Qd : Hp → Prop} (w : Walk J n G (fun i H x H' => H' = H ∧ item i x)) (hD : H1 D = none) (hG : ∀ H, Same H1 H → G H) (acc : Nat → List V) (h0 : acc 0 = []) (hz : ∀ i, i < n → (acc i).length < sizeLine)
    (hs : ∀ (i : Nat) (x : V) (H : Hp), i < n → item i x → Same H1 H → ∀ (R : V → Hp → Prop) (S : Hp → Prop), (∀ y H4, acc (i + 1) = acc i ++ [y] → Same H H4 → R y H4) → (∀ H3, acc (i + 1) = acc i → Same H H3 → S H3) →
      g x (wipe σ vs) H fun σ2 H2 => wipe σ2 vs = wipe σ vs ∧ tt σ2 H2 fun b H3 => if b = true then te σ2 H3 R else S H3)
    (hd : ∀ H, Same H1 H → H D = some (.lst (acc n)) → Qd H) : ∃ W : Nat → Nat → Hp → Prop, (∃ m, W 0 m (upd H1 D (.lst []))) ∧ ∀ i m H, W i m H →
      (J.stop i H ∧ Qd H) ∨ (J.go i H ∧ ∃ Nx : Hp → Prop, (∀ H', Nx H' → ∃ m', m' < m ∧ W (i + 1) m' H') ∧ ∀ x H', J.yld i H x H' → g x (wipe σ vs) H' fun σ2 H2 => wipe σ2 vs = wipe σ vs ∧ tt σ2 H2 fun b H3 =>
        if b = true then te σ2 H3 fun y H4 => ∃ acc, H4 D = some (.lst acc) ∧ acc.length < sizeLine ∧ Nx (upd H4 D (.lst (acc ++ [y]))) else Nx H3) := by
  refine lc_it w (fun i H => Same H1 H ∧ H D = some (.lst (acc i))) ⟨fun b o e => ?_, ?_⟩ (fun i H _ p => hG H p.1) ?_ (fun H p => hd H p.1 p.2)
  · rw [upd_ne (ne_of_none e hD)]
    exact e
  · rw [upd_same, h0]
  · rintro i x H H' hi ⟨s1, hl⟩ ⟨rfl, hx⟩
    refine hs i x _ hi hx s1 _ _ (fun y H4 e s2 => ⟨acc i, s2 _ _ hl, hz i hi, ⟨fun b o eb => ?_, by rw [upd_same, e]⟩⟩) (fun H3 e s2 => ⟨s1.trans s2, by rw [e]; exact s2 _ _ hl⟩)
    rw [upd_ne (ne_of_none eb hD)]
    exact s2 _ _ (s1 _ _ eb)
/-! ### texts and their bounds -/
theorem same_new {H : Hp} {q : Addr} {o : HO} (h : H q = none) : Same H (upd H q o) := fun b u e => by
  rw [upd_ne (ne_of_none e h)]
  exact e
/-- at most n signs, all of them signs -/
def sOk (n : Nat) (s : Str) : Prop := s.length ≤ n ∧ PyData.strOk s = true
theorem strOk_iff {s : Str} : PyData.strOk s = true ↔ ∀ c ∈ s.cps.toList, c < 0x110000 := by
  unfold PyData.strOk
  rw [Array.all_eq_true']
  constructor
  · intro h c hc
    exact of_decide_eq_true (h c (by simpa using hc))
  · intro h c hc
    exact decide_eq_true (h c (by simpa using hc))
theorem sOk.mono {n m : Nat} {s : Str} (h : sOk n s) (e : n ≤ m) : sOk m s := ⟨Nat.le_trans h.1 e, h.2⟩
theorem sOk.app {n m : Nat} {a b : Str} (h : sOk n a) (k : sOk m b) : sOk (n + m) (a ++ b) := by
  refine ⟨?_, strOk_iff.mpr fun c hc => ?_⟩
  · rw [Str.length_append]
    exact Nat.add_le_add h.1 k.1
  · rw [Str.cps_append, Array.toList_append] at hc
    rcases List.mem_append.mp hc with q | q
    · exact strOk_iff.mp h.2 c q
    · exact strOk_iff.mp k.2 c q
theorem sOk.cut {n : Nat} {a : Str} (h : sOk n a) (lo hi : Option Int) : sOk n (cutS a lo hi) := by
  refine ⟨Nat.le_trans (cutS_length _ _ _) h.1, strOk_iff.mpr fun c hc => ?_⟩
  unfold cutS at hc
  have hc' : c ∈ a.cps.toList := List.mem_of_mem_drop (List.mem_of_mem_take (by simpa using hc))
  exact strOk_iff.mp h.2 c hc'
theorem joinL_nil : ∀ ps : List (List Nat), TL.joinL [] ps = ps.flatten
  | [] => rfl
  | [p] => by simp [TL.joinL]
  | p :: q :: r => by
    have ih := joinL_nil (q :: r)
    simp only [TL.joinL, ih]
    simp
theorem flat_len : ∀ (ys : List Str) (n : Nat), (∀ y ∈ ys, y.length ≤ n) → ((ys.map TL.tl).flatten).length ≤ ys.length * n
  | [], _, _ => by simp
  | y :: r, n, h => by
    have ih := flat_len r n fun z hz => h z (List.mem_cons_of_mem _ hz)
    have h1 : y.length ≤ n := h y List.mem_cons_self
    have h2 : (TL.tl y).length = y.length := by simp [TL.tl, Str.length]
    simp only [List.map_cons, List.flatten_cons, List.length_append, List.length_cons, Nat.add_mul, Nat.one_mul]
    omega
theorem join_ok {ys : List Str} {n : Nat} (h : ∀ y ∈ ys, sOk n y) : sOk (ys.length * n) (Txt.join Str.empty ys) := by
  have e : TL.tl (Txt.join Str.empty ys) = (ys.map TL.tl).flatten := by
    rw [TL.join_eq, TL.tl_join]
    exact joinL_nil _
  refine ⟨?_, strOk_iff.mpr fun c hc => ?_⟩
  · have h1 : (Txt.join Str.empty ys).length = (TL.tl (Txt.join Str.empty ys)).length := by simp [TL.tl, Str.length]
    rw [h1, e]
    exact flat_len ys n fun y hy => (h y hy).1
  · have hc' : c ∈ TL.tl (Txt.join Str.empty ys) := hc
    rw [e] at hc'
    obtain ⟨l, hl, hcl⟩ := List.mem_flatten.mp hc'
    obtain ⟨y, hy, rfl⟩ := List.mem_map.mp hl
    exact strOk_iff.mp (h y hy).2 c hcl
theorem sum_le : ∀ (ys : List Str) (n : Nat), (∀ y ∈ ys, y.length ≤ n) → (ys.map (·.length)).sum ≤ ys.length * n
  | [], _, _ => by simp
  | y :: r, n, h => by
    have ih := sum_le r n fun z hz => h z (List.mem_cons_of_mem _ hz)
    have h1 : y.length ≤ n := h y List.mem_cons_self
    simp only [List.map_cons, List.sum_cons, List.length_cons, Nat.add_mul, Nat.one_mul]
    omega
/-- an item at an open place within -/
theorem atI_in {α : Type} {xs : List α} {z : Int} (h0 : 0 ≤ z) (h1 : z < xs.length) : ∃ v, atI xs z = some v ∧ v ∈ xs := by
  obtain ⟨j, rfl⟩ := Int.eq_ofNat_of_zero_le h0
  have hj : j < xs.length := by omega
  exact ⟨xs[j], atI_nat (List.getElem?_eq_getElem hj), List.getElem_mem hj⟩
theorem op_mul_str {X : Cx} : OpR X (binaryOp .Mult) (fun x y H Q => ∃ z n, x = .str z ∧ y = .int n ∧ MulOk z n ∧ Q (.str (Txt.mul z n)) H) := by
  intro pins s σ H x y v u Q I rx ry h
  obtain ⟨z, n, rfl, rfl, hz, q⟩ := h
  obtain ⟨t, rfl⟩ := rx
  obtain ⟨t', rfl⟩ := ry
  exact SB.mul hz fun t' tk => ⟨.str (Txt.mul z n), H, I.tok _, ⟨_, rfl⟩, q⟩
theorem BoxIn.low {H0 H1 H : Hp} {p : Addr} {n : Nat} (b : BoxIn H1 H p n) (s : Same H0 H1) : BoxIn H0 H p n := ⟨s.trans b.same, s.free b.free, b.box⟩
theorem BoxIn.mut {H0 H : Hp} {p D : Addr} {n : Nat} {o : HO} (b : BoxIn H0 H p n) (h1 : D ≠ p) (h2 : H0 D = none) : BoxIn H0 (upd H D o) p n := by
  obtain ⟨d, s', c, h, hh⟩ := b.box
  refine ⟨fun x u e => ?_, b.free, d, s', c, by rw [upd_ne h1.symm]; exact h, hh⟩
  rw [upd_ne (ne_of_none e h2)]
  exact b.same _ _ e
/-- what a def draws: Good of the value, with what is known then -/
def sp_draw (c : Nat) (Good : Hp → V → Prop) : Sp := fun vs H Q _ => ∃ (H0 : Hp) (p : Addr) (n : Nat), vs = [.ref p] ∧ BoxIn H0 H p n ∧ n + c < 1000000 ∧ ∀ (H1 H' : Hp) (v : V), Same H0 H1 → BoxIn H1 H' p (n + c) → Good H1 v → Q v H'
/-! ### the mirror -/
def intO (o : Option PyData) : Bool := isT "int" o && !isT "bool" o
def limO (o : Option PyData) : Bool := nonO o || intO o
def okSign (c : Nat) : Bool := !decide (([c] : List Nat) < [97]) && !decide (([122] : List Nat) < [c])
def nameS (s : Str) : Bool := !(s == ("table" : Str)) && (decide ((1 : Int) ≤ s.length) && (decide ((s.length : Int) ≤ 8) && s.cps.toList.all okSign))
def nameO : Option PyData → Bool
  | some (.str s) => nameS s
  | _ => false
def ltO : PyData → PyData → Bool
  | .int i, .int j => decide (i < j)
  | _, _ => true
def spanO : Option PyData → Bool
  | some (.tuple [l, h]) => limO (some l) && (limO (some h) && ltO l h)
  | _ => false
theorem spanO_no {ds : List PyData} (h : ds.length ≠ 2) : spanO (some (.tuple ds)) = false := by
  match ds, h with
  | [], _ => rfl
  | [_], _ => rfl
  | [_, _], hl => exact absurd rfl hl
  | _ :: _ :: _ :: _, _ => rfl
theorem dp_two {K : PySem.W.Frag} {H : Hp} {xs : List V} {ds : List PyData} (h : DpAll K H xs ds) (e : xs.length = 2) : ∃ x y d e, xs = [x, y] ∧ ds = [d, e] ∧ Dp K H x d ∧ Dp K H y e := by
  match xs, ds, h, e with
  | [x, y], [d, e], .cons h1 (.cons h2 .nil), _ => exact ⟨x, y, d, e, rfl, rfl, h1, h2⟩
theorem spanO_ty {o : Option PyData} (e : isT "tuple" o = false) : spanO o = false := by
  rcases o with _ | d
  · rfl
  · cases d with
    | tuple s => cases e
    | _ => rfl
theorem nameO_no {o : Option PyData} (e : isT "str" o = false) : nameO o = false := by
  rcases o with _ | d
  · rfl
  · cases d with
    | str s => cases e
    | _ => rfl
theorem VD.str_of {K : PySem.W.Frag} {H : Hp} {v : V} {o : Option PyData} (hv : VD K H v o) (e : isT "str" o = true) : ∃ s, v = .str s ∧ o = some (.str s) ∧ s.length ≤ 100000 ∧ PyData.strOk s = true := by
  cases hv with
  | dat a b c =>
    cases a with
    | str s =>
      have := (shaped_iff.mp b).1
      simp only [PyData.canLay0] at this
      exact ⟨s, rfl, rfl, c s rfl, this⟩
    | _ => cases e
  | dic a => cases e
theorem VD.tup_of {K : PySem.W.Frag} {H : Hp} {v : V} {o : Option PyData} (hv : VD K H v o) (e : isT "tuple" o = true) : ∃ a xs ds, v = .ref a ∧ o = some (.tuple ds) ∧ SqT K H a xs ∧ DpAll K H xs ds ∧ SeqAt.shaped (.tuple ds) = true := by
  cases hv with
  | dat a b c =>
    cases a with
    | tup h1 h2 => exact ⟨_, _, _, rfl, rfl, h1, h2, b⟩
    | _ => cases e
  | dic a => cases e
theorem strOk_mem {s : Str} (h : PyData.strOk s = true) {c : Nat} (hc : c ∈ s.cps.toList) : c < 0x110000 := by
  unfold PyData.strOk at h
  rw [Array.all_eq_true'] at h
  exact of_decide_eq_true (h c (by simpa using hc))
theorem strOk_sign {c : Nat} (h : c < 0x110000) : PyData.strOk ⟨#[c]⟩ = true := by
  unfold PyData.strOk
  simp
  omega
/-- the values that are no limits -/
def filt : List V → List PyData → List V
  | x :: xs, d :: ds => if limO (some d) = true then filt xs ds else x :: filt xs ds
  | _, _ => []
theorem filt_len : ∀ (xs : List V) (ds : List PyData), (filt xs ds).length ≤ xs.length
  | [], _ => by simp [filt]
  | _ :: _, [] => by simp [filt]
  | x :: xs, d :: ds => by
    have ih := filt_len xs ds
    simp only [filt]
    split
    · simp only [List.length_cons]
      omega
    · simp only [List.length_cons]
      omega
theorem filt_step : ∀ {xs : List V} {ds : List PyData} {i : Nat} {x : V} {d : PyData}, xs[i]? = some x → ds[i]? = some d → filt (xs.take (i + 1)) (ds.take (i + 1)) = if limO (some d) = true then filt (xs.take i) (ds.take i) else filt (xs.take i) (ds.take i) ++ [x]
  | [], _, _, _, _, h, _ => by simp at h
  | _ :: _, [], _, _, _, _, h => by simp at h
  | y :: ys, e :: es, 0, x, d, h1, h2 => by
    cases h1
    cases h2
    simp [filt]
  | y :: ys, e :: es, i + 1, x, d, h1, h2 => by
    have ih := filt_step (xs := ys) (ds := es) (i := i) (x := x) (d := d) (by simpa using h1) (by simpa using h2)
    simp only [List.take_succ_cons, filt, ih]
    split <;> split <;> simp
theorem filt_dp {K : PySem.W.Frag} {H : Hp} : ∀ {xs : List V} {ds : List PyData}, DpAll K H xs ds → DpAll K H (filt xs ds) (ds.filter fun d => !limO (some d))
  | _, _, .nil => by simp [filt]; exact .nil
  | _, _, .cons (v := v) (d := d) a b => by
    have ih := filt_dp b
    simp only [filt]
    cases h : limO (some d) with
    | true =>
      simp [h]
      exact ih
    | false =>
      simp [h]
      exact .cons a ih
theorem okSign_is (c : Nat) : okSign c = decide (c ∈ ("abcdefghijklmnopqrstuvwxyz" : Str).cps.toList) := by
  have e : ("abcdefghijklmnopqrstuvwxyz" : Str).cps.toList = [97, 98, 99, 100, 101, 102, 103, 104, 105, 106, 107, 108, 109, 110, 111, 112, 113, 114, 115, 116, 117, 118, 119, 120, 121, 122] := by decide +kernel
  rw [e]
  unfold okSign
  rw [Bool.eq_iff_iff, Bool.and_eq_true, decide_eq_true_iff, Bool.not_eq_true', Bool.not_eq_true', decide_eq_false_iff_not, decide_eq_false_iff_not]
  simp only [List.cons_lt_cons_iff, List.not_lt_nil, and_false, or_false, List.mem_cons, List.not_mem_nil]
  omega
def sp_v1 (K : PySem.W.Frag) (f : Option PyData → Bool) : Sp := fun vs H Q _ => ∃ (v : V) (o : Option PyData), vs = [v] ∧ VD K H v o ∧ ∀ H', Same H H' → Q (.bl (f o)) H'
/-- the same without a word on the heap: nothing is made -/
def sp_v0 (K : PySem.W.Frag) (f : Option PyData → Bool) : Sp := fun vs H Q _ => ∃ (v : V) (d : PyData), vs = [v] ∧ Dp K H v d ∧ Q (.bl (f (some d))) H
def sp_vO (K : PySem.W.Frag) (f : Option PyData → Bool) : Sp := fun vs H Q _ => ∃ (v : V) (o : Option PyData), vs = [v] ∧ TyX K H v (.type (tyO o)) ∧ decide (v = .non) = nonO o ∧ Q (.bl (f o)) H
theorem dp_vO {K : PySem.W.Frag} {H : Hp} {v : V} {d : PyData} (h : Dp K H v d) : TyX K H v (.type (tyO (some d))) ∧ decide (v = .non) = nonO (some d) := by
  refine ⟨dp_ty h, ?_⟩
  cases h <;> rfl
theorem vd_vO {K : PySem.W.Frag} {H : Hp} {v : V} {o : Option PyData} (h : VD K H v o) : TyX K H v (.type (tyO o)) ∧ decide (v = .non) = nonO o := ⟨h.ty, vd_non h⟩
/-! ### what is raised -/
/-- an exception of the class at C leaves, with v as its field f -/
def Rz (H : Hp) (E : XK) (C : Addr) (f : Str) (v : V) : Prop := ∀ (d : Addr) (H' : Hp), H d = none → H' d = some (.xd [(f, v)]) → Same H H' → E (.ref C) (some d) H'
theorem Rz.back {H H1 : Hp} {E : XK} {C : Addr} {f : Str} {v : V} (s : Same H H1) (h : Rz H E C f v) : Rz H1 E C f v := fun d H' n x k => h d H' (s.free n) x (s.trans k)
/-- X.__init__: the one field -/
def sp_xinit (K : PySem.W.Frag) (C : Addr) (f : Str) : Sp := fun vs H Q _ => ∃ (a : Addr) (v : V), vs = [.ref a, v] ∧ OexC K C ∧ PySem.W.findIn K (.ref C) f = some none ∧ H a = some (exo a C none) ∧ ∀ dx, H dx = none → dx ≠ a → Q .non (upd (upd H dx (exd dx [(f, v)])) a (exo a C (some dx)))
/-- the reading of «raise X(v)» -/
theorem raise_x {K : PySem.W.Frag} {H : Hp} {E : XK} {C : Addr} {f : Str} {v : V} (x : OexC K C) (n : PySem.W.findIn K (.ref C) f = some none) (h : Rz H E C f v) : ([v] : List V).length ≤ 1000 ∧ ∀ a, H a = none → sp_xinit K C f (.ref a :: ([v] ++ [])) (upd H a (exo a C none))
    (fun v' H2 => v' = .non ∧ ∃ (d : Addr) (fs : List (Str × V)), H2 a = some (exo a C (some d)) ∧ H2 d = some (exd d fs) ∧ H d = none ∧ E (.ref C) (some d) (upd (del H2 a) d (.xd fs))) (fun _ _ _ => False) := by
  refine ⟨by show 1 ≤ 1000; decide, fun a ha => ⟨a, v, rfl, x, n, upd_same, fun dx hdx ne => ⟨rfl, dx, [(f, v)], upd_same, by rw [upd_ne ne, upd_same], ?_, ?_⟩⟩⟩
  · rw [upd_ne ne] at hdx
    exact hdx
  · rw [upd_ne ne] at hdx
    refine h dx _ hdx upd_same fun b o e => ?_
    have nb : b ≠ a := ne_of_none e ha
    have nd : b ≠ dx := ne_of_none e hdx
    rw [upd_ne nd, del_ne nb, upd_ne nb, upd_ne nd, upd_ne nb]
    exact e
/-! ### x in t, t a tuple, data of any depth -/
section
variable {X : Cx}
def rInT (K : PySem.W.Frag) : R2 := fun x y H Q => ∃ d ds, Dp K H x d ∧ Dp K H y (.tuple ds) ∧ SeqAt.shaped d = true ∧ SeqAt.shaped (.tuple ds) = true ∧ Q (.bl (ds.any fun z => PyData.eqv z d)) H
theorem op_inT (hu : X.A.units + 65 < cLine) : OpR X (compareOp .In) (rInT X.K) := by
  intro pins s σ H x y v u Q I rx ry h
  obtain ⟨d, ds, hd, he, sd, se, q⟩ := h
  obtain ⟨as, r1⟩ := Dp.reads I d x v hd rx
  obtain ⟨bs, r2⟩ := Dp.reads I (.tuple ds) y u he ry
  exact SeqAt.in_tuple_reads r2 r1 (SeqAt.canLay_of_shaped se) (SeqAt.canLay_of_shaped sd) (PyProof.Rows.room_in_shaped sd hu) ⟨.bl _, H, I, rfl, q⟩
end
/-! ### what stands written at the top: tuples of texts, dicts of such -/
theorem seqK_ok {K : PySem.W.Frag} {a : Addr} {us : List Value} {xs : List V} (h : seqK K a = some us) (r : Vals xs us) (H : Hp) : SqT K H a xs := by
  unfold seqK at h
  split at h
  · rename_i c dd its n sl q
    split at h
    · rename_i z
      rw [Bool.and_eq_true] at z
      have e1 : c = "tuple" := of_decide_eq_true (by simpa using z.1)
      have e2 := of_decide_eq_true z.2
      have e3 : its.toList = us := Option.some.inj h
      subst e1 e3
      exact .inr ⟨_, its, n, q, rfl, rfl, Nat.le_trans e2 (by decide), r⟩
    · cases h
  · cases h
mutual
theorem datK_ok {K : PySem.W.Frag} : ∀ (n : Nat) {u : Value} {d : PyData}, datK K n u = some d → ∃ v, RelV v u ∧ ∀ H, Dp K H v d
  | 0, .str x t, d, h => by
    have e : PyData.str x = d := Option.some.inj (by simpa [datK] using h)
    subst e
    exact ⟨.str x, ⟨t, rfl⟩, fun H => .str x⟩
  | n + 1, .str x t, d, h => by
    have e : PyData.str x = d := Option.some.inj (by simpa [datK] using h)
    subst e
    exact ⟨.str x, ⟨t, rfl⟩, fun H => .str x⟩
  | n + 1, .ref a, d, h => by
    have h' : ((seqK K a).bind fun us => (mapO (datK K n) us).bind fun ds => some (.tuple ds)) = some d := by simpa [datK] using h
    cases e1 : seqK K a with
    | none => rw [e1] at h'; cases h'
    | some us =>
      rw [e1, Option.bind_some] at h'
      cases e2 : mapO (datK K n) us with
      | none => rw [e2] at h'; cases h'
      | some ds =>
        rw [e2, Option.bind_some] at h'
        have e3 : PyData.tuple ds = d := Option.some.inj h'
        subst e3
        obtain ⟨vs, r, q⟩ := datsK_ok n us e2
        exact ⟨.ref a, rfl, fun H => .tup (seqK_ok e1 r H) (q H)⟩
theorem datsK_ok {K : PySem.W.Frag} : ∀ (n : Nat) (us : List Value) {ds : List PyData}, mapO (datK K n) us = some ds → ∃ vs, Vals vs us ∧ ∀ H, DpAll K H vs ds
  | n, [], ds, h => by
    have e : [] = ds := Option.some.inj h
    subst e
    exact ⟨[], .nil, fun H => .nil⟩
  | n, u :: r, ds, h => by
    have h' : ((datK K n u).bind fun y => (mapO (datK K n) r).bind fun ys => some (y :: ys)) = some ds := h
    cases e1 : datK K n u with
    | none => rw [e1] at h'; cases h'
    | some d =>
      rw [e1, Option.bind_some] at h'
      cases e2 : mapO (datK K n) r with
      | none => rw [e2] at h'; cases h'
      | some es =>
        rw [e2, Option.bind_some] at h'
        have e3 : d :: es = ds := Option.some.inj h'
        subst e3
        obtain ⟨v, rv, qv⟩ := datK_ok n e1
        obtain ⟨vs, rvs, qvs⟩ := datsK_ok n r e2
        exact ⟨v :: vs, .cons rv rvs, fun H => .cons (qv H) (qvs H)⟩
end
/-- an item of a dict of the top -/
theorem nsD_ok {K : PySem.W.Frag} {w : World} {a : Addr} {tb : List (Str × PyData)} (l : ∃ es n, K.lookup a = some ⟨.type "dict", none, .dict es n, #[]⟩ ∧ PySem.W.KeysLit w.params es.toList) (h : tb.map (fun p => nsD K a p.1) = tb.map fun p => some p.2)
    {x : Str} {d : PyData} (m : (x, d) ∈ tb) : ∃ v, KDct K w a x v ∧ ∀ H, Dp K H v d := by
  have e : nsD K a x = some d := by
    have : ∀ {l : List (Str × PyData)}, l.map (fun p => nsD K a p.1) = l.map (fun p => some p.2) → (x, d) ∈ l → nsD K a x = some d := by
      intro l
      induction l with
      | nil => intro _ m; cases m
      | cons p r ih =>
        intro hl m
        rw [List.map_cons, List.map_cons] at hl
        injection hl with h1 h2
        rcases List.mem_cons.mp m with q | q
        · subst q; exact h1
        · exact ih h2 q
    exact this h m
  obtain ⟨es, n, hl, hk⟩ := l
  unfold nsD at e
  split at e
  · rename_i u q
    obtain ⟨v, rv, qv⟩ := datK_ok 4 e
    exact ⟨v, ⟨es, n, u, hl, hk, q, rv⟩, qv⟩
  · cases e
theorem relref {v : V} {a : Addr} (h : RelV v (.ref a)) : v = .ref a := by
  cases v with
  | ref b => cases h; rfl
  | _ => first | cases h; done | exact (by obtain ⟨_, h⟩ := h; exact absurd h (by simp))
theorem u65 {A : Around} {k : Nat} (hr : Room k A) : A.units + 65 < cLine := by
  have := hr.un
  omega
theorem dp_three {K : PySem.W.Frag} {H : Hp} {xs : List V} {ds : List PyData} (h : DpAll K H xs ds) (e : xs.length = 3) : ∃ x y z d e f, xs = [x, y, z] ∧ ds = [d, e, f] ∧ Dp K H x d ∧ Dp K H y e ∧ Dp K H z f := by
  match xs, ds, h, e with
  | [x, y, z], [d, e, f], .cons h1 (.cons h2 (.cons h3 .nil)), _ => exact ⟨x, y, z, d, e, f, rfl, rfl, h1, h2, h3⟩
/-! ### names drawn -/
abbrev ZZ (s : Str) : Prop := s ≠ ("zzzz" : Str) ∧ s ≠ ("pqy" : Str) ∧ s ≠ ("pqz" : Str) ∧ s ≠ ("zzzzz" : Str)
/-- the items of l, in another order -/
def sp_mixed : Sp := fun vs H Q _ => ∃ (H0 : Hp) (p l : Addr) (n : Nat) (xs : List V), vs = [.ref p, .ref l] ∧ BoxIn H0 H p n ∧ H l = some (.lst xs) ∧ xs.length ≤ 100 ∧ n + xs.length < 1000000 ∧
  ∀ (q : Addr) (H' : Hp) (ys : List V), Same H0 H' → H0 q = none → q ≠ p → H' q = some (.lst ys) → ys.Perm xs → BoxIn H0 H' p (n + xs.length) → Q (.ref q) H'
/-- m names -/
def sp_names : Sp := fun vs H Q _ => ∃ (H0 : Hp) (p : Addr) (n m : Nat), vs = [.ref p, .int m] ∧ BoxIn H0 H p n ∧ m ≤ 13 ∧ n + 40 < 1000000 ∧
  ∀ (q : Addr) (H' : Hp) (ss : List Str), Same H0 H' → H0 q = none → q ≠ p → H' q = some (.lst (ss.map V.str)) → ss.length = m → (∀ s ∈ ss, sOk 16 s) → (∀ s ∈ ss, nameS s = true ∧ s ≠ ("pqz" : Str) ∧ ZZ s) → ss.Nodup → BoxIn H0 H' p (n + 40) → Q (.ref q) H'
theorem strs_of {W : List Str} : ∀ {xs : List V}, (∀ y ∈ xs, ∃ s, s ∈ W ∧ y = V.str s) → ∃ ss : List Str, xs = ss.map V.str ∧ ∀ s ∈ ss, s ∈ W
  | [], _ => ⟨[], rfl, fun s h => by cases h⟩
  | x :: r, h => by
    obtain ⟨s, hs, rfl⟩ := h x List.mem_cons_self
    obtain ⟨ss, rfl, h2⟩ := strs_of (xs := r) fun y hy => h y (List.mem_cons_of_mem _ hy)
    refine ⟨s :: ss, rfl, fun y hy => ?_⟩
    rcases List.mem_cons.mp hy with rfl | q
    · exact hs
    · exact h2 y q
/-! ### the names drawn are names, all different -/
def nmC (stem : Str) (w c : Nat) : Str :=
  let nm : Str := if w = 0 then stem ++ ⟨#[c]⟩ else if w = 1 then (⟨#[c]⟩ : Str) ++ stem else ⟨#[c]⟩
  if nm = "table" then "tables" else nm
def stemsL : List Str := ["", "a", "tabl", "rest", "part", "zzzzzzz"]
theorem nmC_ok : ∀ stem ∈ stemsL, ∀ w ∈ List.range 3, ∀ c ∈ List.range 26, nameS (nmC stem w (97 + c)) = true ∧ nmC stem w (97 + c) ≠ ("pqz" : Str) ∧ ZZ (nmC stem w (97 + c)) := by decide +kernel
theorem nmC_ne : ∀ stem ∈ stemsL, ∀ w ∈ List.range 3, ∀ c ∈ List.range 26, ∀ d ∈ List.range 26, c ≠ d → nmC stem w (97 + c) ≠ nmC stem w (97 + d) ∧ nmC stem 0 (97 + c) ≠ nmC stem w (97 + d) := by decide +kernel
def nmS (stem : Str) (f st zw : Int) (i : Nat) : Str := nmC stem (if i = 0 then 0 else zw.toNat) (97 + ((f + st * (i : Int)) % 26).toNat)
theorem sign_ne {f st : Int} (hs : st ∈ ([1, 3, 5, 7, 9, 11] : List Int)) {i j : Nat} (hi : i < 14) (hj : j < 14) (h : i ≠ j) : ((f + st * (i : Int)) % 26).toNat ≠ ((f + st * (j : Int)) % 26).toNat := by
  simp only [List.mem_cons, List.not_mem_nil, or_false] at hs
  rcases hs with rfl | rfl | rfl | rfl | rfl | rfl
  all_goals omega
theorem sign_lt {f st : Int} {i : Nat} : ((f + st * (i : Int)) % 26).toNat ∈ List.range 26 := by
  rw [List.mem_range]
  omega
theorem nmS_ok {stem : Str} (hst : stem ∈ stemsL) {f st zw : Int} (h0 : 0 ≤ zw) (h1 : zw < 3) (i : Nat) : nameS (nmS stem f st zw i) = true ∧ nmS stem f st zw i ≠ ("pqz" : Str) ∧ ZZ (nmS stem f st zw i) := by
  refine nmC_ok stem hst _ ?_ _ sign_lt
  rw [List.mem_range]
  split <;> omega
theorem nmS_ne {stem : Str} (hst : stem ∈ stemsL) {f st zw : Int} (hs : st ∈ ([1, 3, 5, 7, 9, 11] : List Int)) (h0 : 0 ≤ zw) (h1 : zw < 3) {i j : Nat} (hi : i < 14) (hj : j < 14) (h : i < j) : nmS stem f st zw i ≠ nmS stem f st zw j := by
  have ne := sign_ne (f := f) hs hi hj (Nat.ne_of_lt h)
  have hw : zw.toNat ∈ List.range 3 := by rw [List.mem_range]; omega
  have hj0 : j ≠ 0 := by omega
  have k := nmC_ne stem hst _ hw _ (sign_lt (f := f) (st := st) (i := i)) _ (sign_lt (f := f) (st := st) (i := j)) ne
  unfold nmS
  rw [if_neg hj0]
  by_cases hi0 : i = 0
  · rw [if_pos hi0]
    exact k.2
  · rw [if_neg hi0]
    exact k.1
theorem nmS_nodup {stem : Str} (hst : stem ∈ stemsL) {f st zw : Int} (hs : st ∈ ([1, 3, 5, 7, 9, 11] : List Int)) (h0 : 0 ≤ zw) (h1 : zw < 3) {m : Nat} (hm : m ≤ 13) : ((List.range m).map (nmS stem f st zw)).Nodup := by
  unfold List.Nodup
  rw [List.pairwise_map]
  refine List.Pairwise.imp_of_mem (fun {a b} ha hb hlt => ?_) (List.pairwise_lt_range (n := m))
  have ha := List.mem_range.mp ha
  have hb := List.mem_range.mp hb
  exact nmS_ne hst hs h0 h1 (by omega) (by omega) hlt
def wordsL : List Str := ["begin", "empty", "rest", "step", "end", "look", "old", "new", "put", "part", "move", "split", "lock"]
theorem wordsL_ok : (∀ s ∈ wordsL, nameS s = true ∧ s ≠ ("pqz" : Str) ∧ ZZ s) ∧ wordsL.Nodup := by
  constructor
  · decide +kernel
  · decide +kernel
theorem nodup_of_map {ss : List Str} (h : (ss.map V.str).Nodup) : ss.Nodup := by
  unfold List.Nodup at h ⊢
  rw [List.pairwise_map] at h
  exact h.imp fun k e => k (by rw [e])
theorem nodup_map {ss : List Str} (h : ss.Nodup) : (ss.map V.str).Nodup := by
  unfold List.Nodup at h ⊢
  rw [List.pairwise_map]
  exact h.imp fun k e => k (by injection e)
/-- the sign at a place, as a number -/
theorem letter_at {z : Int} (h0 : 0 ≤ z) (h1 : z < 26) {ch : Nat} (h : atI ("abcdefghijklmnopqrstuvwxyz" : Str).cps.toList z = some ch) : ch = 97 + z.toNat := by
  have all : ∀ n ∈ List.range 26, ("abcdefghijklmnopqrstuvwxyz" : Str).cps.toList[n]? = some (97 + n) := by decide +kernel
  obtain ⟨n, rfl⟩ := Int.eq_ofNat_of_zero_le h0
  have := all n (List.mem_range.mpr (by omega))
  rw [atI_nat this] at h
  injection h with h
  rw [← h]
  rfl
/-- the name at a place of the three forms -/
theorem form_at {a b c : Str} {z : Int} (h0 : 0 ≤ z) (h1 : z < 3) {s : Str} (h : atI [V.str a, .str b, .str c] z = some (.str s)) : s = if z.toNat = 0 then a else if z.toNat = 1 then b else c := by
  obtain ⟨n, rfl⟩ := Int.eq_ofNat_of_zero_le h0
  have : n = 0 ∨ n = 1 ∨ n = 2 := by omega
  rcases this with rfl | rfl | rfl
  all_goals
    cases h
    rfl
/-! ### rules that more than one law wants -/
def filtG (f : PyData → Bool) : List V → List PyData → List V
  | x :: xs, d :: ds => if f d = true then x :: filtG f xs ds else filtG f xs ds
  | _, _ => []
theorem filtG_len (f : PyData → Bool) : ∀ (xs : List V) (ds : List PyData), (filtG f xs ds).length ≤ xs.length
  | [], _ => by simp [filtG]
  | _ :: _, [] => by simp [filtG]
  | x :: xs, d :: ds => by
    have ih := filtG_len f xs ds
    simp only [filtG]
    split
    · simp only [List.length_cons]
      omega
    · simp only [List.length_cons]
      omega
theorem filtG_step {f : PyData → Bool} : ∀ {xs : List V} {ds : List PyData} {i : Nat} {x : V} {d : PyData}, xs[i]? = some x → ds[i]? = some d → filtG f (xs.take (i + 1)) (ds.take (i + 1)) = if f d = true then filtG f (xs.take i) (ds.take i) ++ [x] else filtG f (xs.take i) (ds.take i)
  | [], _, _, _, _, h, _ => by simp at h
  | _ :: _, [], _, _, _, _, h => by simp at h
  | y :: ys, e :: es, 0, x, d, h1, h2 => by
    cases h1
    cases h2
    simp [filtG]
  | y :: ys, e :: es, i + 1, x, d, h1, h2 => by
    have ih := filtG_step (f := f) (xs := ys) (ds := es) (i := i) (x := x) (d := d) (by simpa using h1) (by simpa using h2)
    simp only [List.take_succ_cons, filtG, ih]
    split <;> split <;> simp
theorem filtG_dp {K : PySem.W.Frag} {H : Hp} {f : PyData → Bool} : ∀ {xs : List V} {ds : List PyData}, DpAll K H xs ds → DpAll K H (filtG f xs ds) (ds.filter f)
  | _, _, .nil => by simp [filtG]; exact .nil
  | _, _, .cons (v := v) (d := d) a b => by
    have ih := filtG_dp (f := f) b
    simp only [filtG]
    cases h : f d with
    | true =>
      simp [h]
      exact .cons a ih
    | false =>
      simp [h]
      exact ih
theorem range_filter_step (c : Nat → Bool) (i : Nat) : (List.range (i + 1)).filter c = if c i = true then (List.range i).filter c ++ [i] else (List.range i).filter c := by
  rw [List.range_succ, List.filter_append]
  cases h : c i with
  | true => simp [h]
  | false => simp [h]
theorem dpAll_take {K : PySem.W.Frag} {H : Hp} : ∀ {xs : List V} {ds : List PyData} (n : Nat), DpAll K H xs ds → DpAll K H (xs.take n) (ds.take n)
  | _, _, 0, _ => .nil
  | _, _, _ + 1, .nil => .nil
  | _, _, n + 1, .cons a b => .cons a (dpAll_take n b)
theorem dpAll_drop {K : PySem.W.Frag} {H : Hp} : ∀ {xs : List V} {ds : List PyData} (n : Nat), DpAll K H xs ds → DpAll K H (xs.drop n) (ds.drop n)
  | _, _, 0, h => h
  | _, _, _ + 1, .nil => .nil
  | _, _, n + 1, .cons _ b => dpAll_drop n b
theorem dpAll_app {K : PySem.W.Frag} {H : Hp} : ∀ {xs ys : List V} {ds es : List PyData}, DpAll K H xs ds → DpAll K H ys es → DpAll K H (xs ++ ys) (ds ++ es)
  | _, _, _, _, .nil, h => h
  | _, _, _, _, .cons a b, h => .cons a (dpAll_app b h)
theorem cut_takeV (ys : List V) {i : Nat} (h : i ≤ ys.length) : cutV ys none (some (i : Int)) = ys.take i := by
  unfold cutV
  rw [HT.sIx_none, HT.sIx_nat, List.drop_zero, Nat.sub_zero, Nat.min_eq_left h]
theorem cut_dropV (ys : List V) {i : Nat} (h : i ≤ ys.length) : cutV ys (some (i : Int)) none = ys.drop i := by
  unfold cutV
  rw [HT.sIx_none, HT.sIx_nat, Nat.min_eq_left h]
  exact List.take_of_length_le (by rw [List.length_drop]; exact Nat.le_refl _)
/-- a datum of three deep at most, its texts short -/
theorem in_strs (k : Str) (ss : List Str) : inV (.str k) (ss.map V.str) = decide (k ∈ ss) := by
  unfold inV
  rw [Bool.eq_iff_iff, List.any_eq_true, decide_eq_true_iff]
  constructor
  · rintro ⟨z, hz, e⟩
    obtain ⟨t, ht, rfl⟩ := List.mem_map.mp hz
    have : (t == k) = true := e
    rw [← eq_of_beq this]
    exact ht
  · intro h
    exact ⟨_, List.mem_map.mpr ⟨k, h, rfl⟩, by show (k == k) = true; simp⟩
theorem flat_strs (ss : List Str) : (ss.map V.str).all flatV = true := by
  rw [List.all_eq_true]
  intro x hx
  obtain ⟨s, _, rfl⟩ := List.mem_map.mp hx
  rfl
theorem dpAll_ints {K : PySem.W.Frag} {H : Hp} : ∀ ns : List Int, DpAll K H (ns.map V.int) (ns.map PyData.int)
  | [] => .nil
  | n :: r => .cons (.int n) (dpAll_ints r)
theorem ints_shaped (ns : List Int) : SeqAt.shaped (.list (ns.map PyData.int)) = true := shaped_list (n := 0) (by decide) fun d hd => by
  obtain ⟨i, _, rfl⟩ := List.mem_map.mp hd
  exact ⟨rfl, by simp [PyData.depth]⟩
theorem sure2 {w : Str} {v : V} (h : sureV v = true) : ([.str w, v] : List V).all sureV = true := by
  show (sureV (.str w) && (sureV v && true)) = true
  rw [h]
  rfl
/-! ### objects of own classes: ==, str, made within a try, dicts of data -/
section
open PySem.Spec PySem.Calls PyProof.Rows
section
variable {X : Cx} {CX : CXT} {k : Nat} {f C : Addr} {fd : FuncData} {ps : List Str} {sp : Sp}
/-- x == y by the own __eq__ of x, whatever y is -/
def rEqI (K : PySem.W.Frag) (C : Addr) (sp : Sp) (E : XK) : R2 := fun x y H Q => ∃ (a dx : Addr) (fs : List (Str × V)) (tb : Value), x = .ref a ∧ H a = some (.ins C dx fs) ∧ TyX K H y tb ∧ PySem.W.notFirst K C tb = true ∧ sp [x, y] H Q E
theorem op_eqI {E : XK} (F : FnOk X.prog X.w X.K X.mg X.base CX k f fd ps sp) (hr : Room k X.A) (hb : Binds X.K fd ps []) (hs : PySem.W.findIn X.K (.ref C) "__eq__" = some (some (.ref f))) (hf : PySem.W.isFn X.K (.ref f) = true) (hx : Passes CX X E) : OpR X (compareOp .Eq) (rEqI X.K C sp E) := by
  intro pins s σ H x y v u Q I rx ry h
  obtain ⟨a, dx, fs, tb, rfl, ha, ty, hn, q⟩ := h
  cases (show v = Value.ref a from rx)
  obtain ⟨mA, J, _⟩ := ins_get I.hok ha
  obtain ⟨od, J, _⟩ := J.look
  obtain ⟨Pt, kx, pt, _⟩ := kit_of I ry ty
  obtain ⟨m, hF⟩ := I.fr
  refine PySem.W.cmp_K (op := .Eq) (tb := tb) hr.units0 hF I.ok.mod.kin J (kx.ty _ _ I.kIn pt) hn hs hf ?_
  refine wpAny_mono (run_fn (us := [.ref a, u]) (vs := [.ref a, y]) (ds := []) (dvs := []) F hr hb .nil hx I (.cons rfl (.cons ry .nil)) (by simpa using q)) (fun w s' z => ?_) fun _ _ x => x
  obtain ⟨z', H', I', rz, qz⟩ := z
  exact SlX.cmpback rz ⟨z', H', I', rz, qz⟩
/-- str(x) by the own __str__ of x -/
def rStrI (C : Addr) (sp : Sp) (E : XK) : List V → Hp → VK → Prop := fun xs H Q => ∃ (a dx : Addr) (fs : List (Str × V)), xs = [.ref a] ∧ H a = some (.ins C dx fs) ∧ sp [.ref a] H (fun z H' => ∃ t, z = .str t ∧ Q z H') E
theorem call_strI {E : XK} (F : FnOk X.prog X.w X.K X.mg X.base CX k f fd ps sp) (hr : Room (k + 2) X.A) (hb : Binds X.K fd ps []) (hs : PySem.W.findIn X.K (.ref C) "__str__" = some (some (.ref f))) (hf : PySem.W.isFn X.K (.ref f) = true) (hx : Passes CX X E) : CallR X (.type "str") (rStrI C sp E) := by
  intro pins s σ H xs us Q I r h
  obtain ⟨a, dx, fs, rfl, ha, q⟩ := h
  obtain ⟨u, rfl, ru⟩ := r.one
  cases (show u = Value.ref a from ru)
  obtain ⟨mA, J, _⟩ := ins_get I.hok ha
  obtain ⟨od, J, _⟩ := J.look
  have hr2 : Room k X.A.in1.in1 := (show Room (k + 1) X.A.in1 from Room.in1 hr).in1
  have hl := F.len _ _ _ _ q
  refine PySem.W.kso_call hr2.units0 I.kIn J hs hf (wpAny_call (codeAny_mono (F.run X.A.in1.in1 X.stack s H ⟨[.ref a], []⟩ [.ref a] [.ref a] _ E hr2 I.env0.in1.in1 (by
    have := hb s [.ref a] I.kIn (by simpa using hl)
    simpa using this) (.cons rfl .nil) q) fun r s' hq => ?_))
  cases r with
  | error e => exact hx pins σ H s e s' I hq
  | ok fl =>
    cases fl with
    | ret w =>
      obtain ⟨z, H', I', rz, t, ez, qz⟩ := I.after hq
      subst ez
      obtain ⟨tk, e⟩ := rz
      cases e
      exact ⟨.str t, H', I', ⟨tk, rfl⟩, qz⟩
    | next => exact False.elim hq
    | brk => exact False.elim hq
    | cont => exact False.elim hq
end
section
variable {X : Cx} {CX : CXT} {k : Nat} {f C : Addr} {fd : FuncData} {ps : List Str} {sp : Sp} {x : Str} {p pos : Pos} {e : Expr} {es : List Expr} {t : TA}
theorem run_makeS {E : L2.St → XK} {pins : List (Addr × Obj)} {σ : L2.St} {H : Hp} {s : Shared} {Q : VK} {us : List Value} {vs : List V} (M : Mk X.K C f) (F : FnOk X.prog X.w X.K X.mg X.base CX k f fd ps sp) (hr : Room (k + 1) X.A) (hb : Binds X.K fd ps [])
    (hx : PassesAt CX X σ (E σ)) (I : Inv X pins σ H s) (r : Vals vs us)
    (h : ∀ x dx, H x = none → H dx = none → dx ≠ x → sp (.ref x :: vs) (upd (upd H dx (.own x)) x (.ins C dx [])) (fun v H2 => v = .non ∧ Q (.ref x) H2) (E σ)) :
    wpAny (model X.prog X.w) X.A (call (.ref C) us) (EP X pins σ Q) X.xe s := by
  have hq := h (s.heap.objs.size + 1) s.heap.objs.size (I.hok.fresh (Nat.le_succ _)) (I.hok.fresh (Nat.le_refl _)) (Nat.ne_of_lt (Nat.lt_succ_self _))
  have I2 := Inv.made (C := C) I
  have r2 : Vals (V.ref (s.heap.objs.size + 1) :: vs) (Value.ref (s.heap.objs.size + 1) :: us) := .cons rfl r
  have hl : (Value.ref (s.heap.objs.size + 1) :: us).length = ps.length := by
    have e := r2.length
    rw [F.len _ _ _ _ hq] at e
    exact e.symm
  have bd := hb _ (Value.ref (s.heap.objs.size + 1) :: us) I2.kIn (by rw [List.append_nil]; exact hl)
  rw [List.append_nil] at bd
  refine wpAny_call (make_map (f := f) I.kIn M.makes M.init (beq_iff_eq.mp M.fn) (codeAny_mono (F.run _ X.stack _ _ ⟨Value.ref (s.heap.objs.size + 1) :: us, []⟩ (Value.ref (s.heap.objs.size + 1) :: us) _ _ (E σ) (hr.make C us [])
    (I2.env0.make C us []) bd r2 hq) fun r s' hq' => ?_))
  cases r with
  | error e => exact hx pins _ _ e s' I2 hq'
  | ok fl =>
    cases fl with
    | ret u =>
      obtain ⟨v, H', I3, rv, ev, q3⟩ := I2.after hq'
      subst ev
      exact ⟨rv, ⟨V.ref (s.heap.objs.size + 1), H', I3, rfl, q3⟩⟩
    | next => exact False.elim hq'
    | brk => exact False.elim hq'
    | cont => exact False.elim hq'
/-- C(..), whose __init__ may raise, within a try -/
def tMakeS (C : Addr) (sp : Sp) (E : L2.St → XK) (t : TA) : TE := fun σ H Q => t σ H fun vs H1 => ∀ x dx, H1 x = none → H1 dx = none → dx ≠ x → sp (.ref x :: vs) (upd (upd H1 dx (.own x)) x (.ins C dx [])) (fun v H2 => v = .non ∧ Q (.ref x) H2) (E σ)
theorem pe_makeS {E : L2.St → XK} (M : Mk X.K C f) (F : FnOk X.prog X.w X.K X.mg X.base CX k f fd ps sp) (hr : Room (k + 1) X.A) (hg : Gl X x) (hm : X.mg x = some (.ref C)) (hb : Binds X.K fd ps []) (hx : ∀ σ, PassesAt CX X σ (E σ))
    (ha : PA X (e :: es) t) (hdb : (x == ("__debug__" : Str)) = false := by decide) (he : starEach (e :: es) X.env = (false, eval e X.env) :: starEach es X.env := by rfl) (hpl : (backTo pos (starEach es X.env)).any (·.1) = false := by rfl) :
    PE X (.Call (.Name x p) (e :: es) [] pos) (tMakeS C sp E t) := by
  refine ⟨fun pins s σ H Q I h => ?_⟩
  refine wpAny_Call_Name_kw (ld_glob I hg hm ?_ hdb)
  refine PySem.W.callWith_K (h₀ := X.base) I.ok.mod.kin M.kp (thn (ha.run pos pins s σ H _ I h) fun us s1 ⟨vs, H1, I1, r, q⟩ => ⟨I1.kIn, ?_⟩) he hpl
  exact run_makeS M F hr hb (hx σ) I1 r q
/-- C(k = v, ..) -/
def tMakeKw (C : Addr) (m : Nat) (sp : Sp) (g : List V → List V → List V) (E : L2.St → XK) (tk : TA) : TE := fun σ H Q => tk σ H fun zs H2 => zs.length = m ∧ ∀ x dx, H2 x = none → H2 dx = none → dx ≠ x → sp (g [.ref x] zs) (upd (upd H2 dx (.own x)) x (.ins C dx [])) (fun v H3 => v = .non ∧ Q (.ref x) H3) (E σ)
theorem run_makeKw {E : L2.St → XK} {ks : List Str} {g : {α : Type} → List α → List α → List α} {pins : List (Addr × Obj)} {σ : L2.St} {H : Hp} {s : Shared} {Q : VK} {ws : List Value} {zs : List V} (M : Mk X.K C f) (F : FnOk X.prog X.w X.K X.mg X.base CX k f fd ps sp) (hr : Room (k + 1) X.A)
    (bnd : KwB X.K fd ps 1 ks g) (hx : PassesAt CX X σ (E σ)) (I : Inv X pins σ H s) (rz : Vals zs ws) (l2 : zs.length = ks.length)
    (h : ∀ x dx, H x = none → H dx = none → dx ≠ x → sp (g [.ref x] zs) (upd (upd H dx (.own x)) x (.ins C dx [])) (fun v H2 => v = .non ∧ Q (.ref x) H2) (E σ)) :
    wpAny (model X.prog X.w) X.A (call (.ref C) [] (ks.zip ws)) (EP X pins σ Q) X.xe s := by
  have hq := h (s.heap.objs.size + 1) s.heap.objs.size (I.hok.fresh (Nat.le_succ _)) (I.hok.fresh (Nat.le_refl _)) (Nat.ne_of_lt (Nat.lt_succ_self _))
  have I2 := Inv.made (C := C) I
  have r1 : Vals [V.ref (s.heap.objs.size + 1)] [Value.ref (s.heap.objs.size + 1)] := .cons rfl .nil
  have r2 := bnd.rel (vs := [V.ref (s.heap.objs.size + 1)]) rfl l2 r1 rz
  refine wpAny_call (make_map (f := f) I.kIn M.makes M.init (beq_iff_eq.mp M.fn) (codeAny_mono (F.run _ X.stack _ _ ⟨[Value.ref (s.heap.objs.size + 1)], ks.zip ws⟩ (g [Value.ref (s.heap.objs.size + 1)] ws) _ _ (E σ) (hr.make C [] (ks.zip ws))
    (I2.env0.make C [] (ks.zip ws)) (.of_eq (bnd.to [Value.ref (s.heap.objs.size + 1)] ws rfl (rz.length.symm.trans l2))) r2 hq) fun r s' hq' => ?_))
  cases r with
  | error e => exact hx pins _ _ e s' I2 hq'
  | ok fl =>
    cases fl with
    | ret u =>
      obtain ⟨v, H', I3, rv, ev, q3⟩ := I2.after hq'
      subst ev
      exact ⟨rv, ⟨V.ref (s.heap.objs.size + 1), H', I3, rfl, q3⟩⟩
    | next => exact False.elim hq'
    | brk => exact False.elim hq'
    | cont => exact False.elim hq'
theorem pe_makeKw0 {E : L2.St → XK} {ks : List Str} {g : {α : Type} → List α → List α → List α} {kws : List Keyword} {tk : TA} (M : Mk X.K C f) (F : FnOk X.prog X.w X.K X.mg X.base CX k f fd ps sp) (room : Room (k + 1) X.A) (gl : Gl X x) (m : X.mg x = some (.ref C)) (bnd : KwB X.K fd ps 1 ks g) (px : ∀ σ, PassesAt CX X σ (E σ)) (kw : PK X kws tk)
    (h1 : (backToKw pos (keywordEach kws X.env)).all (·.1.isSome) = true := by rfl) (h2 : (backToKw pos (keywordEach kws X.env)).filterMap (·.1) = ks := by rfl) (h3 : (x == ("__debug__" : Str)) = false := by decide)
    (h4 : ((backTo pos (starEach [] X.env)).any (·.1) || (backToKw pos (keywordEach kws X.env)).any (·.1.isNone)) = false := by rfl) : PE X (.Call (.Name x p) [] kws pos) (tMakeKw C ks.length sp g E tk) := by
  constructor
  intro pins s σ H Q I h
  apply wpAny_Call_Name_kw
  refine ld_glob I gl m ?_ h3
  refine PySem.W.callWith_KW0 (h₀ := X.base) I.ok.mod.kin M.kp h1 ?_ h4
  refine thn (kw.run pos pins s σ H _ I h) fun ws s2 got => ?_
  obtain ⟨zs, H2, I2, rz, l2, q2⟩ := got
  rw [h2]
  exact ⟨I2.kIn, run_makeKw M F room bnd (px σ) I2 rz l2 q2⟩
end
/-- the entries of a dict as data -/
inductive Ents (K : PySem.W.Frag) (H : Hp) : List (Key × V) → List (Key × PyData) → Prop
  | nil : Ents K H [] []
  | cons {k : Key} {v : V} {d : PyData} {r : List (Key × V)} {rd : List (Key × PyData)} : Dp K H v d → SeqAt.shaped d = true → Ents K H r rd → Ents K H ((k, v) :: r) ((k, d) :: rd)
theorem Ents.mono {K : PySem.W.Frag} {H H' : Hp} (s : Same H H') {ks : List (Key × V)} {ds : List (Key × PyData)} (h : Ents K H ks ds) : Ents K H' ks ds := by
  induction h with
  | nil => exact .nil
  | cons a b _ ih => exact .cons (dp_mono s a) b ih
def findD : List (Key × PyData) → Key → Option PyData
  | [], _ => none
  | (j, d) :: r, k => if j = k then some d else findD r k
theorem Ents.at_ {K : PySem.W.Frag} {H : Hp} {ks : List (Key × V)} {ds : List (Key × PyData)} (h : Ents K H ks ds) (k : Key) : (valV ks k = none ∧ findD ds k = none) ∨ ∃ v d, valV ks k = some v ∧ findD ds k = some d ∧ Dp K H v d ∧ SeqAt.shaped d = true := by
  induction h with
  | nil => exact .inl ⟨rfl, rfl⟩
  | @cons j v d r rd a b c ih =>
    by_cases e : j = k
    · exact .inr ⟨v, d, valV_pos e, if_pos e, a, b⟩
    · rw [valV_neg (p := (j, v)) e, show findD ((j, d) :: rd) k = findD rd k from if_neg e]
      exact ih
theorem Ents.len {K : PySem.W.Frag} {H : Hp} {ks : List (Key × V)} {ds : List (Key × PyData)} (h : Ents K H ks ds) : ks.length = ds.length := by
  induction h with
  | nil => rfl
  | cons a b _ ih => exact congrArg (· + 1) ih
def entsEq (dk dl : List (Key × PyData)) : Bool := dk.all fun p => match findD dl p.1 with
  | some e => PyData.eqv p.2 e
  | none => false
section
variable {X : Cx} {pins : List (Addr × Obj)} {σ : L2.St} {H : Hp} {s : Shared}
theorem ents_hits (I : Inv X pins σ H s) (hu : X.A.units + 65 < cLine) {ls : List (Key × V)} {dl : List (Key × PyData)} (el : Ents X.K H ls dl) {vb : List (Key × Value)} (rb : KV ls vb) {ks : List (Key × V)} {dk : List (Key × PyData)} (ek : Ents X.K H ks dk) :
    ∀ {va : List (Key × Value)}, KV ks va → PySem.W.KeqHitsP X.prog X.w X.A.in1 s vb va (entsEq dk dl) := by
  induction ek with
  | nil =>
    intro va ra
    cases ra
    exact .nil
  | @cons k v d r rd a b c ih =>
    intro va ra
    cases ra with
    | @cons p q ps qs h t =>
      obtain ⟨h1, h2⟩ := h
      obtain ⟨key, u⟩ := q
      have h1 : k = key := h1
      subst h1
      have rr : RelO (valV ls k) (valueAt vb k) := rb.val k
      rcases el.at_ k with ⟨e1, e2⟩ | ⟨y, e, e1, e2, de, se⟩
      · rw [e1] at rr
        have hn : valueAt vb k = none := by
          cases hv : valueAt vb k with
          | none => rfl
          | some z =>
            rw [hv] at rr
            exact rr.elim
        have ee : entsEq ((k, d) :: rd) dl = false := by
          unfold entsEq
          rw [List.all_cons, e2]
          rfl
        rw [ee]
        exact .miss hn
      · rw [e1] at rr
        obtain ⟨z, hz, rz⟩ := rr.some_of
        have ee : entsEq ((k, d) :: rd) dl = (PyData.eqv d e && entsEq rd dl) := by
          unfold entsEq
          rw [List.all_cons, e2]
        rw [ee]
        obtain ⟨as, r1⟩ := Dp.reads I d v u a h2
        obtain ⟨bs, r2⟩ := Dp.reads I e y z de rz
        have s1 := shaped_iff.mp b
        have s2 := shaped_iff.mp se
        refine .hit hz (SeqAt.EqAt.eqP (SeqAt.eqAt_reads d e X.A.in1 s u z as bs r1 r2 s1.1 s2.1 ?_)) (ih t)
        have : X.A.in1.units = X.A.units + 1 := rfl
        rw [this]
        have := s1.2
        omega
/-- two dicts whose values are data -/
def rEqDD (K : PySem.W.Frag) : R2 := fun x y H Q => ∃ (a b : Addr) (ks ls : List (Key × V)) (dk dl : List (Key × PyData)), x = .ref a ∧ y = .ref b ∧ H a = some (.dK ks) ∧ H b = some (.dK ls) ∧ Ents K H ks dk ∧ Ents K H ls dl ∧ Q (.bl (dk.length == dl.length && entsEq dk dl)) H
end
theorem op_eqDD {X : Cx} (hu : X.A.units + 65 < cLine) : OpR X (compareOp .Eq) (rEqDD X.K) := by
  intro pins s σ H x y v u Q I rx ry h
  obtain ⟨a, b, ks, ls, dk, dl, rfl, rfl, ea, eb, ek, el, q⟩ := h
  cases (show v = Value.ref a from rx)
  cases (show u = Value.ref b from ry)
  obtain ⟨_, ya, va, ra, da⟩ := (show ObjOk X.prog X.w H s.heap a (.dK ks) from I.hok a _ ea)
  obtain ⟨_, yb, vb, rb, db⟩ := (show ObjOk X.prog X.w H s.heap b (.dK ls) from I.hok b _ eb)
  refine PySem.W.rcP_dicts (knd := mixKind X.prog X.w) (r := entsEq dk dl) ya yb da db (by omega) (fun _ => ents_hits I hu el rb ek ra) _ _ ?_
  have e1 : va.length = dk.length := by rw [← ra.length]; exact ek.len
  have e2 : vb.length = dl.length := by rw [← rb.length]; exact el.len
  rw [e1, e2]
  exact ⟨.bl _, H, I, rfl, q⟩
end
/-- a dict comprehension over what is walked -/
theorem dc_it {J : It} {n : Nat} {G : Hp → Prop} {Y : Nat → Hp → V → Hp → Prop} (w : Walk J n G Y) {g : TG} {tt : TT} {tk tv : TE} {vs : List Nat} {σ : L2.St} {H1 : Hp} {D : Addr} {Qd : Hp → Prop} (Pv : Nat → Hp → Prop) (h0 : Pv 0 (upd H1 D (.dK []))) (hG : ∀ i H, i ≤ n → Pv i H → G H)
    (hs : ∀ i x H H', i < n → Pv i H → Y i H x H' → g x (wipe σ vs) H' fun σ2 H2 => wipe σ2 vs = wipe σ vs ∧ tt σ2 H2 fun b H3 =>
      if b = true then tk σ2 H3 fun y H4 => tv σ2 H4 fun z H5 => ∃ kvs k, y = kV k ∧ H5 D = some (.dK kvs) ∧ kvs.length < sizeLine ∧ Pv (i + 1) (upd H5 D (.dK (putK kvs k z))) else Pv (i + 1) H3) (hd : ∀ H, Pv n H → Qd H) :
    ∃ W : Nat → Nat → Hp → Prop, (∃ m, W 0 m (upd H1 D (.dK []))) ∧ ∀ i m H, W i m H →
      (J.stop i H ∧ Qd H) ∨ (J.go i H ∧ ∃ Nx : Hp → Prop, (∀ H', Nx H' → ∃ m', m' < m ∧ W (i + 1) m' H') ∧ ∀ x H', J.yld i H x H' → g x (wipe σ vs) H' fun σ2 H2 => wipe σ2 vs = wipe σ vs ∧ tt σ2 H2 fun b H3 =>
        if b = true then tk σ2 H3 fun y H4 => tv σ2 H4 fun z H5 => ∃ kvs k, y = kV k ∧ H5 D = some (.dK kvs) ∧ kvs.length < sizeLine ∧ Nx (upd H5 D (.dK (putK kvs k z))) else Nx H3) := by
  refine ⟨fun i m H => m = n - i ∧ i ≤ n ∧ Pv i H, ⟨n, by simp, Nat.zero_le _, h0⟩, ?_⟩
  rintro i m H ⟨rfl, hi, p⟩
  have q := hG i H hi p
  by_cases hlt : i < n
  · exact .inr ⟨w.goes i H hlt q, Pv (i + 1), fun H' p' => ⟨n - (i + 1), by omega, rfl, hlt, p'⟩, fun x H' y => hs i x H H' hlt p (w.yields i H x H' hlt q y)⟩
  · have e : i = n := by omega
    subst e
    exact .inl ⟨w.stops H q, hd H p⟩
/-- what a join asks, within a comprehension too -/
def rJoinK (K : PySem.W.Frag) : V → List V → Hp → VK → Prop := fun x xs H Q => ∃ (a : Str) (p : Addr), ∃ ys : List Str, x = .str a ∧ xs = [.ref p] ∧ (SqL K H p (ys.map V.str) ∨ SqT K H p (ys.map V.str)) ∧ (ys.map (·.length)).sum + ys.length * a.length ≤ 16777216 ∧ Q (.str (Txt.join a ys)) H
/-- f'..' within a comprehension -/
def tJoined (ts : List TE) : TE := fun σ H Q => tJs ts Str.empty σ H fun out H1 => Q (.str out) H1
theorem pe_joinedN {X : Cx} {v1 v2 : Expr} {rest : List Expr} {ts : List TE} {pos : Pos} (h : PJ X (v1 :: v2 :: rest) ts) : PE X (.JoinedStr (v1 :: v2 :: rest) pos) (tJoined ts) := pe_joined h
/-! ### xs[::-1] -/
section
open PySem.Spec PySem.Calls PyProof.Rows
def tRev (K : PySem.W.Frag) (te : TE) (ts : TO) : TE := fun σ H Q => te σ H fun x H1 => ts σ H1 fun st H2 => ∃ (a : Addr) (xs : List V), x = .ref a ∧ st = some (-1) ∧ SqL K H2 a xs ∧ ∀ p, H2 p = none → Q (.ref p) (upd H2 p (.lst xs.reverse))
theorem Vals.rev {xs : List V} {us : List Value} (r : Vals xs us) : Vals xs.reverse us.reverse := by
  induction r with
  | nil => exact .nil
  | cons a b ih =>
    rw [List.reverse_cons, List.reverse_cons]
    exact ih.append (.cons a .nil)
theorem pe_rev {X : Cx} {e : Expr} {te : TE} {st : Expr} {ts : TO} {pos p2 : Pos} (he : PE X e te) (hs : PO X (some st) ts) : PE X (.Subscript e (.Slice none none (some st) p2) pos) (tRev X.K te ts) := by
  refine ⟨fun pins s σ H Q I h => ?_⟩
  refine Subscript_ (thn (he.run pins s σ H _ I h) fun v s1 ⟨x, H1, I1, r1, q1⟩ => ?_)
  refine wpAny_Slice ?_
  rw [evalPart_none]
  refine wpAny_pure (wpAny_pure (thn (hs.run pins s1 σ H1 _ I1 q1) fun vs s3 ⟨stp, H3, I3, ps, a, xs, ex, est, sq, q⟩ => ?_))
  subst ex est
  cases (show v = Value.ref a from r1)
  have I4 : Inv X pins σ H3 { s3 with heap := s3.heap.push { cls := .type "slice", data := .fields #[.none, .none, vs] } } := I3.kept (t' := s3.toks) fun b ob q => Heap.get?_push_of_some _ q
  obtain ⟨its, r, ht, hz⟩ := I4.list sq
  have hlen := r.length
  show wpAny (model X.prog X.w) X.A (subscriptTail e (.Slice none none (some st) p2) (.ref a) (.ref s3.heap.objs.size)) (EP X pins σ Q) X.xe { s3 with heap := s3.heap.push { cls := .type "slice", data := .fields #[.none, .none, vs] } }
  refine tail_any (ops := [.ref a, .ref s3.heap.objs.size]) ht.isList.typeIs slot_list_getitem.lookup ?_ (by with_unfolding_all rfl)
  refine wpAny_getItem_list_slice ht.isList (Heap.IsSliceOf.new ..) .none .none ps (by decide) ?_ (by rw [List.size_toArray]; omega)
  rw [PySem.W.krv_pick]
  refine ⟨.ref _, _, I4.laid (t' := s3.toks) (o := .lst xs.reverse) (fun b ob q => Heap.get?_push_of_some _ q) (Nat.le_refl _) ?_, rfl, q _ (I4.hok.fresh (Nat.le_refl _))⟩
  have rr : Vals xs.reverse its.reverse := Vals.rev r
  exact ⟨by rw [List.length_reverse]; exact hz, _, 0, rr, Heap.get?_push_size _ rfl⟩
end
/- wants the import KE.KUnpackStar; `a, *b = t` for tuples: target (pg_tupS hc (pgs_cons .. (pgs_star .. pgs_nil))), term gTupS K n i (gCons .. (gCons .. gNil)) -/
section
open PySem.Spec PySem.Calls PyProof.Rows
/-! ### a, *b = a tuple -/
section
variable {X : Cx} {pos : Pos}
/-- n targets, the starred one behind i others: what lies between becomes a new list -/
def gTupS (K : PySem.W.Frag) (n i : Nat) (t : TGs) : TG := fun v σ H Q => ∃ a xs, v = .ref a ∧ SqT K H a xs ∧ n ≤ xs.length + 1 ∧
  ∀ q, H q = none → t (xs.take i ++ [.ref q] ++ (xs.drop i).drop (xs.length + 1 - n)) σ (upd H q (.lst ((xs.drop i).take (xs.length + 1 - n)))) Q
/-- the starred one among the targets -/
theorem pgs_star {tgt : Expr} {sp : Pos} {more : List Expr} {g : TG} {gs : TGs} (one : PG X tgt g) (rest : PGs X more gs)
    (two : (assignEach (.Starred tgt sp :: more) X.env).map Prod.snd = assign tgt X.env :: (assignEach more X.env).map Prod.snd := by rfl) :
    PGs X (.Starred tgt sp :: more) (gCons g gs) where
  run := fun pins s σ H vs us Q I => fun
    | .cons r rr, ⟨_, _, e, q⟩ => by
      injection e with e1 e2
      subst e1 e2
      have start := one.run pins s σ H _ _ _ I r q
      show wpAny _ _ (assignInOrder ((assignEach (.Starred tgt sp :: more) X.env).map Prod.snd) _) _ _ _
      rw [two]
      exact PyProof.Rows.assignInOrder_cons (thn start fun _ s1 ⟨σ1, H1, I1, q1⟩ => rest.run pins s1 σ1 H1 _ _ Q I1 rr q1)
    | .nil, ⟨_, _, e, _⟩ => nomatch e
/-- what unpacking hands out, by a tuple's iterator that has gone i steps -/
theorem star_items {A : Around} {E : Value → Shared → Prop} {P : Program} {w : World} {s : Shared} {t : Addr} {its : List Value} {n i : Nat} {R : List Value → Shared → Prop}
    (calm : A.handled = none) (ht : IsTup s.heap t its.toArray) (hi : i < n) (hn : n ≤ its.length + 1) (hz : its.length ≤ sizeLine)
    (out : ∀ (g : Heap) (tk : Nat), (∀ b u, s.heap.get? b = some u → g.get? b = some u) →
      R (its.take i ++ [.ref g.objs.size] ++ (its.drop i).drop (its.length + 1 - n)) { s with heap := g.push { cls := .type "list", data := .seq ((its.drop i).take (its.length + 1 - n)).toArray }, toks := tk }) :
    wpAny (model P w) A (unpackItems (.ref t) n (some i)) R E s := by
  have far : t ≠ s.heap.objs.size := by
    obtain ⟨_, e, _⟩ := ht
    exact Nat.ne_of_lt (Heap.lt_size e)
  have big : its.toArray.size = its.length := List.size_toArray
  have back : its.toArray.toList = its := rfl
  have head : (its.take i).length = i := by
    rw [List.length_take]
    omega
  have tail : (its.drop i).length = its.length - i := List.length_drop
  have amid : its.length - i - (n - 1 - i) = its.length + 1 - n := by omega
  unfold unpackItems notIterableAtAll
  refine wpAny_bind (wpAny_bind (wpAny_specialOf ht.typeIs slot_tuple_iter.lookup (wpAny_pure ?_)))
  simp only [if_false, Bool.false_eq_true]
  refine wpAny_bind (wpAny_holding (iter_tuple ht (wpAny_bind (wpAny_holding (draw_tuple far i 0 _ _ ⟨_, Heap.get?_push_size _ rfl, rfl, rfl⟩ (ht.push _) (by omega) fun g1 at1 sb => ?_)))))
  have t1 : IsTup g1 t its.toArray := (ht.push _).extBut sb.extBut far
  rw [Nat.zero_add] at at1
  rw [List.drop_zero, back, if_neg (by omega)]
  have here1 : ∃ u, g1.get? s.heap.objs.size = some u := at1.imp fun _ e => e.1
  have here2 : ∃ u, g1.get? t = some u := t1.imp fun _ e => e.1
  obtain ⟨_, e1⟩ := here1
  obtain ⟨_, e2⟩ := here2
  have walk := Walks.tuple (prog := P) (w := w) (A := A.in1) calm s.heap.objs.size t far its.toArray
  refine wpAny_bind (wpAny_holding (PySem.W.kun_collect (s := { s with heap := g1 }) (T := "tuple_iterator") (.inr (.inr (.inr rfl))) walk (fun _ _ z => z.1.typeIs) (by omega) ⟨at1, t1⟩ (Heap.lt_size e1) (Heap.lt_size e2) (fun g tk keep => ?_) (by omega)))
  rw [back]
  show wpAny _ _ (if (its.drop i).length < n - 1 - i then _ else _) _ _ _
  rw [if_neg (by omega), tail, amid]
  have kept : ∀ b u, s.heap.get? b = some u → g.get? b = some u := fun b u e => keep b u (Nat.ne_of_lt (Heap.lt_size e)) (sb.extBut b u (Nat.ne_of_lt (Heap.lt_size e)) (Heap.get?_push_of_some _ e))
  exact wpAny_bind (wpAny_newList (wpAny_pure (out g tk kept)) (by rw [List.length_take]; omega))
/-- a, *b = a tuple -/
theorem pg_tupS {tgts : List Expr} {k : Nat} {gs : TGs} {n i : Nat} (hc : X.calm = true) (each : PGs X tgts gs)
    (many : (assignEach tgts X.env).length = n := by rfl) (star : (assignEach tgts X.env).findIdx? (·.1) = some i := by rfl) (hi : i < n := by decide) :
    PG X (.Tuple tgts k pos) (gTupS X.K n i gs) where
  run := fun pins s σ H v u Q I r => fun ⟨a, xs, e, sq, room, go⟩ => by
    subst e
    cases r
    obtain ⟨its, rv, ht, hz⟩ := I.tuple sq
    have same : xs.length = its.length := rv.length
    rw [assign_Tuple]
    refine wpAny_bind (wpAny_standAt (?_))
    unfold unpack
    rw [many, star]
    refine wpAny_bind (wpAny_holding (star_items (I.ok.hd hc) ht hi (by omega) (by omega) fun g tk kept => ?_))
    rw [← same]
    have J : Inv X pins σ H { s with heap := g, toks := tk } := I.kept kept
    have mid : Vals ((xs.drop i).take (xs.length + 1 - n)) ((its.drop i).take (xs.length + 1 - n)) := (rv.drop i).take _
    have short : ((xs.drop i).take (xs.length + 1 - n)).length ≤ sizeLine := by
      rw [List.length_take]
      rw [List.length_drop]
      omega
    have new := J.laid (t' := tk) (o := .lst ((xs.drop i).take (xs.length + 1 - n))) (fun b u e => Heap.get?_push_of_some _ e) (Nat.le_refl _) ⟨short, _, 0, mid, Heap.get?_push_size _ rfl⟩
    have ref : RelV (.ref g.objs.size) (.ref g.objs.size) := rfl
    exact each.run pins _ σ _ _ _ Q new (((rv.take i).append (.cons ref .nil)).append ((rv.drop i).drop _)) (go _ (J.hok.fresh (Nat.le_refl _)))
end
end
section
open PySem.Spec PySem.Calls PyProof.Rows
/-! ### a, *b = a list -/
section
variable {X : Cx} {pos : Pos}
/-- as gTupS, of a list -/
def gLstS (K : PySem.W.Frag) (n i : Nat) (t : TGs) : TG := fun v σ H Q => ∃ a xs, v = .ref a ∧ SqL K H a xs ∧ n ≤ xs.length + 1 ∧
  ∀ q, H q = none → t (xs.take i ++ [.ref q] ++ (xs.drop i).drop (xs.length + 1 - n)) σ (upd H q (.lst ((xs.drop i).take (xs.length + 1 - n)))) Q
theorem starL_items {A : Around} {E : Value → Shared → Prop} {P : Program} {w : World} {s : Shared} {t : Addr} {its : List Value} {n i : Nat} {R : List Value → Shared → Prop}
    (calm : A.handled = none) (ht : s.heap.IsList t its.toArray) (hi : i < n) (hn : n ≤ its.length + 1) (hz : its.length ≤ sizeLine)
    (out : ∀ (g : Heap) (tk : Nat), (∀ b u, s.heap.get? b = some u → g.get? b = some u) →
      R (its.take i ++ [.ref g.objs.size] ++ (its.drop i).drop (its.length + 1 - n)) { s with heap := g.push { cls := .type "list", data := .seq ((its.drop i).take (its.length + 1 - n)).toArray }, toks := tk }) :
    wpAny (model P w) A (unpackItems (.ref t) n (some i)) R E s := by
  have far : t ≠ s.heap.objs.size := by
    obtain ⟨_, e, _⟩ := ht
    exact Nat.ne_of_lt (Heap.lt_size e)
  have big : its.toArray.size = its.length := List.size_toArray
  have back : its.toArray.toList = its := rfl
  have head : (its.take i).length = i := by
    rw [List.length_take]
    omega
  have tail : (its.drop i).length = its.length - i := List.length_drop
  have amid : its.length - i - (n - 1 - i) = its.length + 1 - n := by omega
  unfold unpackItems notIterableAtAll
  refine wpAny_bind (wpAny_bind (wpAny_specialOf ht.typeIs slot_list_iter.lookup (wpAny_pure ?_)))
  simp only [if_false, Bool.false_eq_true]
  refine wpAny_bind (wpAny_holding (wpAny_pyIter_list ht (wpAny_bind (wpAny_holding (PySem.W.kun_draw far i 0 _ _ ⟨_, Heap.get?_push_size _ rfl, rfl, rfl⟩ (ht.push _) (by omega) fun g1 at1 sb => ?_)))))
  have t1 : g1.IsList t its.toArray := (ht.push _).extBut sb.extBut far
  rw [Nat.zero_add] at at1
  rw [List.drop_zero, back, if_neg (by omega)]
  have here1 : ∃ u, g1.get? s.heap.objs.size = some u := at1.imp fun _ e => e.1
  have here2 : ∃ u, g1.get? t = some u := t1.imp fun _ e => e.1
  obtain ⟨_, e1⟩ := here1
  obtain ⟨_, e2⟩ := here2
  have walk := Walks.list (prog := P) (w := w) (A := A.in1) calm s.heap.objs.size t far its.toArray
  refine wpAny_bind (wpAny_holding (PySem.W.kun_collect (s := { s with heap := g1 }) (T := "list_iterator") (.inr (.inr (.inl rfl))) walk (fun _ _ z => z.1.typeIs) (by omega) ⟨at1, t1⟩ (Heap.lt_size e1) (Heap.lt_size e2) (fun g tk keep => ?_) (by omega)))
  rw [back]
  show wpAny _ _ (if (its.drop i).length < n - 1 - i then _ else _) _ _ _
  rw [if_neg (by omega), tail, amid]
  have kept : ∀ b u, s.heap.get? b = some u → g.get? b = some u := fun b u e => keep b u (Nat.ne_of_lt (Heap.lt_size e)) (sb.extBut b u (Nat.ne_of_lt (Heap.lt_size e)) (Heap.get?_push_of_some _ e))
  exact wpAny_bind (wpAny_newList (wpAny_pure (out g tk kept)) (by rw [List.length_take]; omega))
theorem pg_lstS {tgts : List Expr} {k : Nat} {gs : TGs} {n i : Nat} (hc : X.calm = true) (each : PGs X tgts gs)
    (many : (assignEach tgts X.env).length = n := by rfl) (star : (assignEach tgts X.env).findIdx? (·.1) = some i := by rfl) (hi : i < n := by decide) :
    PG X (.Tuple tgts k pos) (gLstS X.K n i gs) where
  run := fun pins s σ H v u Q I r => fun ⟨a, xs, e, sq, room, go⟩ => by
    subst e
    cases r
    obtain ⟨its, rv, pl, hz⟩ := I.list sq
    have same : xs.length = its.length := rv.length
    rw [assign_Tuple]
    refine wpAny_bind (wpAny_standAt (?_))
    unfold unpack
    rw [many, star]
    refine wpAny_bind (wpAny_holding (starL_items (I.ok.hd hc) pl.isList hi (by omega) (by omega) fun g tk kept => ?_))
    rw [← same]
    have J : Inv X pins σ H { s with heap := g, toks := tk } := I.kept kept
    have mid : Vals ((xs.drop i).take (xs.length + 1 - n)) ((its.drop i).take (xs.length + 1 - n)) := (rv.drop i).take _
    have short : ((xs.drop i).take (xs.length + 1 - n)).length ≤ sizeLine := by
      rw [List.length_take]
      rw [List.length_drop]
      omega
    have new := J.laid (t' := tk) (o := .lst ((xs.drop i).take (xs.length + 1 - n))) (fun b u e => Heap.get?_push_of_some _ e) (Nat.le_refl _) ⟨short, _, 0, mid, Heap.get?_push_size _ rfl⟩
    have ref : RelV (.ref g.objs.size) (.ref g.objs.size) := rfl
    exact each.run pins _ σ _ _ _ Q new (((rv.take i).append (.cons ref .nil)).append ((rv.drop i).drop _)) (go _ (J.hok.fresh (Nat.le_refl _)))
end
end
/-! ### raising where the context of what is raised is None (layer L2N) -/
section
open PySem.Spec PySem.Calls PyProof.Rows
theorem passLN {X : Cx} : Passes (L2N.CX X.prog X.w) X E0 := fun _ _ _ _ _ _ _ got => by
  obtain ⟨_, _, _, _, _, _, _, _, _, _, _, _, bad⟩ := got
  exact bad.elim
theorem passCN {X : Cx} {E : XK} (tk : L2N.Takes X (fun cls d _ H => E cls d H)) : Passes (L2N.CX X.prog X.w) X E := L2N.passes_call tk fun _ _ _ _ q => q
theorem passAtN {X : Cx} {W : WX} (tk : L2N.Takes X W) (σ : L2.St) : PassesAt (L2N.CX X.prog X.w) X σ (WE W σ) := fun _ _ _ u t J q => tk u t (L2N.XE.of_call J (fun _ _ _ z => z) q)
section
variable {P : Program} {w : World} {K : PySem.W.Frag} {mg : Str → Option Value} {base : Heap}
theorem okXN {x qual : Str} {st : Stmt} {f : Addr} {fd : FuncData} {N ps : List Str} {k : Nat} {sp : Sp} (F : Fun K x qual st f fd) (S : FnScope N ps (defScope st)) (hl : ∀ vs H Q E, sp vs H Q E → vs.length = ps.length)
    (body : ∀ (cdv : Value) (A : Around) (outer : List Env) (s : Shared) (H : Hp) (vs : List V) (Q : VK) (E : XK), Room k (A.deeper (envOfC qual (defScope st) s.heap.objs.size f cdv)) → sp vs H Q E →
      ∃ t, PSs (cxOf (L2N.CX P w) P w K mg base N qual (defScope st) f cdv A outer s H E) (defBody st) t ∧ t { nx := fun _ H' => Q .non H', rt := Q } (L2.start N vs) H) : FnOk P w K mg base (L2N.CX P w) (k + 1) f fd ps sp := by
  obtain ⟨_, _, _, _, _, _, c, _, _, rfl, found, isC⟩ := F.ex
  exact fn_of found isC S hl fun A outer s H vs Q E room q => body c A outer s H vs Q E room q
end
section
variable {P : Program} {w : World} {K : PySem.W.Frag} {mg : Str → Option Value} {base : Heap}
/-- a def that is called within an except suite -/
theorem okHot {CX : CXT} {x qual : Str} {st : Stmt} {f : Addr} {fd : FuncData} {N ps : List Str} {k : Nat} {sp : Sp} (F : Fun K x qual st f fd) (S : FnScope N ps (defScope st)) (hl : ∀ vs H Q E, sp vs H Q E → vs.length = ps.length)
    (body : ∀ (cdv : Value) (A : Around) (outer : List Env) (s : Shared) (H : Hp) (vs : List V) (Q : VK) (E : XK) (p : Addr × Obj), sp vs H Q E →
      ∃ t, PSs (L2H.cxH CX P w K mg base N qual (defScope st) f cdv A outer s H E p) (defBody st) t ∧ t { nx := fun _ H' => Q .non H', rt := Q } (L2.start N vs) H) : L2H.FnH P w K mg base CX (k + 1) f fd ps sp := by
  obtain ⟨_, _, _, _, _, _, c, _, _, rfl, found, isC⟩ := F.ex
  exact L2H.fn_ofH found isC S hl fun A outer s H vs Q E p _ _ q => body c A outer s H vs Q E p q
end
theorem pmkN_oex {X : Cx} {CX : CXT} {x : Str} {e : Expr} {es : List Expr} {ta : TA} {p pos : Pos} {C fI : Addr} {k : Nat} {fd : FuncData} {ps : List Str} {sp : Sp} (T : OexC X.K C) (ini : PySem.W.findIn X.K (.ref C) "__init__" = some (some (.ref fI))) (fn : PySem.W.typeIn X.K (.ref fI) = some (.type "function"))
    (F1 : FnOk X.prog X.w X.K X.mg X.base CX k fI fd ps sp) (room : Room (k + 1) X.A) (bnd : Binds X.K fd ps []) (px : Passes CX X (fun _ _ _ => False)) (gl : Gl X x) (m : X.mg x = some (.ref C)) (arg : PA X (e :: es) ta)
    (h1 : (x == ("__debug__" : Str)) = false := by decide) (h2 : starEach (e :: es) X.env = (false, eval e X.env) :: starEach es X.env := by rfl) (h3 : (backTo pos (starEach es X.env)).any (·.1) = false := by rfl) : L2N.PMk X (.Call (.Name x p) (e :: es) [] pos) (tMkO C sp [] ta) := by
  intro pins s σ H Q I want
  obtain ⟨_, _, _, _, bm, _, _, _, _, _, _, _, _, _, _, inC, hbm⟩ := T.cls
  apply wpAny_Call_Name_kw
  refine ld_glob I gl m ?_ h1
  refine PySem.W.callWith_K (h₀ := X.base) I.ok.mod.kin T.kC ?_ h2 h3
  refine thn (arg.run pos pins s σ H _ I want) fun us s1 got => ?_
  obtain ⟨vs, H1, I1, rv, few, q1⟩ := got
  refine ⟨I1.kIn, ?_⟩
  obtain ⟨hp, gs, dr, tk, os⟩ := s1
  let a : Addr := hp.objs.size + 1
  have le : hp.objs.size ≤ a := Nat.le_succ _
  have fresh : H1 a = none := I1.hok.fresh le
  have q2 := q1 a fresh
  rw [List.append_nil] at q2
  let hp2 : Heap := (hp.push (PySem.W.kdv_tup us)).push (PySem.HandSPX.excO C hp.objs.size)
  have kept : ∀ b o, hp.get? b = some o → hp2.get? b = some o := fun b o z => Heap.get?_push_of_some _ (Heap.get?_push_of_some _ z)
  have there : hp2.get? a = some (PySem.HandSPX.excO C hp.objs.size) := by
    show ((hp.push (PySem.W.kdv_tup us)).push (PySem.HandSPX.excO C hp.objs.size)).get? (hp.objs.size + 1) = _
    heap_get
  have I2 : Inv X pins σ (upd H1 a (exo a C none)) ⟨hp2, gs, dr, tk, os⟩ := I1.laid (t' := tk) (a := a) (o := exo a C none) (h' := hp2) kept le (exo_ok there)
  have rv2 : Vals (V.ref a :: vs) (Value.ref a :: us) := .cons rfl rv
  have ln : (Value.ref a :: us ++ []).length = ps.length := by
    have z := rv2.length
    rw [F1.len _ _ _ _ q2] at z
    rw [List.append_nil]
    exact z.symm
  have small : us.length ≤ sizeLine := by
    rw [← Paired.length rv]
    exact Nat.le_trans few (by decide)
  have bd := bnd _ (Value.ref a :: us) I2.kIn ln
  rw [List.append_nil] at bd
  refine wpAny_call (PySem.HandSPX.call_own F.excBase_ValueError (fun Y => PySem.HandSPX.refsVE_contains Y bm hbm) (I1.kIn _ _ inC) (PySem.W.looks_findIn I1.kIn ini) (fun self => PySem.W.bind_fn I1.kIn self fn) small ?_)
  refine codeAny_mono (F1.run _ X.stack _ _ ⟨Value.ref a :: us, []⟩ (Value.ref a :: us) _ _ (fun _ _ _ => False) (room.make C us []) (I2.env0.make C us []) bd rv2 q2) fun r s2 gr => ?_
  cases r with
  | error er => exact px pins σ _ _ er s2 I2 gr
  | ok fl =>
    cases fl with
    | next => exact gr.elim
    | brk => exact gr.elim
    | cont => exact gr.elim
    | ret u =>
      obtain ⟨v, H2, os2, bare, un, hok, ru, ev, d, fs, ea, ed, fd1, q3⟩ := gr
      subst ev
      obtain ⟨h5, g5, d5, t5, o5⟩ := s2
      obtain ⟨_, G, J, kG, ge, hoe, na⟩ := mk_end0 (d2 := d5) (t2 := t5) I1 le kept un hok os2 bare ea ed fd1
      refine ⟨ru, a, _, _, ⟨G, g5, d5, t5, o5⟩, _, .ref C, some d, rfl, J, kG, ge, hoe, ⟨rfl, rfl, fun ws hw => ?_⟩, rfl, rfl, na, rfl, bare, raises_own T.exC T.tyC, q3⟩
      cases hw
      rfl
end
/-! ### exceptions whose contexts form a chain (raise .. from None within a body that itself stands in a try) -/
section
open PySem.Spec PySem.Calls PyProof.Rows
/-- the contexts below: each stands in the heap, and nothing tracked reaches it -/
inductive Below (h : Heap) (H : Hp) : Value → List (Addr × Obj) → Prop
  | stop : Below h H .none []
  | link {b : Addr} {o : Obj} {us : Array Value} {c : Value} {l : List (Addr × Obj)} : h.get? b = some o → o.data = .fields us → us[2]? = some c → H b = none → Below h H c l → Below h H (.ref b) ((b, o) :: l)
theorem Below.mono {h g : Heap} {H G : Hp} {c : Value} {l : List (Addr × Obj)} (x : Below h H c l) (k : ∀ b o us, h.get? b = some o → o.data = .fields us → H b = none → g.get? b = some o ∧ G b = none) : Below g G c l := by
  induction x with
  | stop => exact .stop
  | link e1 e2 e3 e4 _ ih => exact .link (k _ _ _ e1 e2 e4).1 e2 e3 (k _ _ _ e1 e2 e4).2 ih
theorem Below.mem {h : Heap} {H : Hp} {c : Value} {l : List (Addr × Obj)} (x : Below h H c l) : ∀ q ∈ l, h.get? q.1 = some q.2 ∧ H q.1 = none ∧ ∃ us, q.2.data = .fields us := by
  induction x with
  | stop => exact fun q hq => (List.not_mem_nil hq).elim
  | link e1 e2 e3 e4 _ ih =>
    intro q hq
    rcases List.mem_cons.mp hq with rfl | z
    · exact ⟨e1, e4, _, e2⟩
    · exact ih q z
/-- what is kept of the object in the air: its class, its dict, its context -/
def Zk (cls : Value) (d : Option Addr) (c : Value) : Obj → Prop := fun o => (o.cls = cls ∧ o.dict = d) ∧ ∀ us : Array Value, o.data = .fields us → us[2]? = some c
theorem Zk.steady {cls : Value} {d : Option Addr} {c : Value} : PXN.Steady1 (Zk cls d c) := fun o v h => by
  refine ⟨⟨PXN.steady_cls o v h.1.1, PXN.steady_dict o v h.1.2⟩, ?_⟩
  obtain ⟨k, dd, dt, sl⟩ := o
  intro us e
  cases dt with
  | fields w =>
    have e' : w.setIfInBounds 1 v = us := Data.fields.inj e
    have q : (w.setIfInBounds 1 v)[2]? = w[2]? := Array.getElem?_setIfInBounds_ne (by decide)
    rw [← e', q]
    exact h.2 w rfl
  | _ => first | exact Data.noConfusion e | cases e
theorem sky_to {B h : Heap} {l : List Env} {a L : Addr} {Z Z' : Obj → Prop} (z : ∀ o, Z o → Z' o) (x : Sky B l a Z L h) : Sky B l a Z' L h := by
  rcases x with ⟨p, q, r, oe, vs, e, e1, e2, e3⟩ | ⟨p, q, r, t⟩ | ⟨p, q, r, t⟩
  · exact .inl ⟨p, q, r, oe, vs, e, z _ e1, e2, e3⟩
  · exact .inr (.inl ⟨p, q, r, L2H.tracedZ_imp z t⟩)
  · exact .inr (.inr ⟨p, q, r, L2H.tracedZ_imp z t⟩)
/-- an exception in the air of X, and the chain below it -/
def UpK (X : Cx) (W : WX) (u : Value) (s' : Shared) : Prop :=
  ∃ (a : Addr) (B : Heap) (sI : Shared) (pins : List (Addr × Obj)) (σ : L2.St) (H : Hp) (cls : Value) (d : Option Addr) (c : Value) (l : List (Addr × Obj)),
    (u = .ref a ∧ H a = none ∧ s'.os = sI.os ∧ AllBare s'.gens) ∧ Inv X pins σ H sI ∧ ((∀ b o, sI.heap.get? b = some o → b ∉ frs X.stack → B.get? b = some o) ∧ sI.heap.UpToSlots s'.heap) ∧
      Sky B X.stack a (Zk cls d c) X.env.locals s'.heap ∧ Below sI.heap H c l ∧ W cls d σ H
def TakesK (X : Cx) (W : WX) : Prop := ∀ u s', UpK X W u s' → X.xe u s'
theorem TakesK.of {X : Cx} {W : WX} (t : Takes X W) : TakesK X W := fun u s' ⟨a, B, sI, pins, σ, H, cls, d, c, l, ⟨e, na, os, ag⟩, I, ⟨nb, up⟩, sky, _, w⟩ =>
  t u s' ⟨a, B, sI, pins, σ, H, cls, d, e, I, nb, up, sky_to (fun _ z => z.1) sky, na, os, ag, w⟩
theorem TakesK.toN {X : Cx} {W : WX} (t : TakesK X W) : L2N.Takes X W := fun u s' ⟨a, B, sI, pins, σ, H, cls, d, e, I, nb, up, sky, na, os, ag, w⟩ =>
  t u s' ⟨a, B, sI, pins, σ, H, cls, d, .none, [], ⟨e, na, os, ag⟩, I, ⟨nb, up⟩, sky_to (fun _ z => ⟨⟨z.1, z.2.1⟩, z.2.2⟩) sky, .stop, w⟩
theorem TakesK.imp {X : Cx} {W W' : WX} (t : TakesK X W) (h : ∀ c d σ H, W' c d σ H → W c d σ H) : TakesK X W' := fun u s' ⟨a, B, sI, pins, σ, H, cls, d, c, l, e, I, nb, sky, bl, w⟩ =>
  t u s' ⟨a, B, sI, pins, σ, H, cls, d, c, l, e, I, nb, sky, bl, h _ _ _ _ w⟩
/-- behind a call that let such an exception out -/
def CXK (P : Program) (w : World) (outer : List Env) (H : Hp) (s : Shared) (E : XK) (u : Value) (s' : Shared) : Prop :=
  ∃ (a : Addr) (B : Heap) (H' : Hp) (cls : Value) (d : Option Addr) (c : Value) (l : List (Addr × Obj)), (u = .ref a ∧ H' a = none ∧ s'.os = s.os ∧ AllBare s'.gens) ∧
    HandSPX.FlyingZ B outer a (Zk cls d c) s'.heap ∧ (HOk P w H' B ∧ UB (frs outer) H H' s.heap B s'.heap) ∧ Below B H' c l ∧ E cls d H'
section
variable {X : Cx} {pins : List (Addr × Obj)} {σ : L2.St} {H : Hp} {sI s s' : Shared} {B : Heap} {W : WX} {E : XK}
/-- an exception of a call is in the air of X -/
theorem UpK.of_call (I : Inv X pins σ H s) (hW : ∀ cls d H', E cls d H' → W cls d σ H') {u : Value} (x : CXK X.prog X.w X.stack H s E u s') : UpK X W u s' := by
  obtain ⟨a, B, H', cls, d, c, l, ⟨ea, na, os, ag⟩, fl, ⟨hok, ub⟩, bl, wish⟩ := x
  obtain ⟨G, in1, out1⟩ := restrict s'.heap fun b => (B.get? b).isSome || decide (b ∈ frs X.stack)
  have fromB : ∀ b o, B.get? b = some o → G.get? b = some o := by
    intro b o e
    have z := in1 b (by simp [e])
    rw [z]
    exact fl.1 b o e
  have fromF : ∀ b, b ∈ frs X.stack → G.get? b = s'.heap.get? b := by
    intro b hb
    exact in1 b (by simp [hb])
  have back : ∀ b o, G.get? b = some o → s'.heap.get? b = some o ∧ (b ∉ frs X.stack → B.get? b = some o) := by
    intro b o e
    cases q : ((B.get? b).isSome || decide (b ∈ frs X.stack)) with
    | false =>
      rw [out1 b q] at e
      cases e
    | true =>
      have e' := e
      rw [in1 b q] at e'
      refine ⟨e', fun nf => ?_⟩
      rcases Bool.or_eq_true_iff.mp q with z | z
      · obtain ⟨o', z'⟩ := Option.isSome_iff_exists.mp z
        have y := fl.1 b o' z'
        rw [e'] at y
        cases y
        exact z'
      · exact absurd (of_decide_eq_true z) nf
  have J : Inv X pins σ H' { s with heap := G, gens := s'.gens, drawn := s'.drawn, toks := s'.toks } := by
    refine I.call (ch := []) ⟨fun b o e n hb _ => fromB b o (ub.keep b o e n hb), ?_, fun b o e n _ => ub.free b o e n, ?_, ub.tups, ub.frzs, ub.tbls⟩ (hok.kept fromB) ag (fun _ z => nomatch z)
    · intro b o e n hb _
      obtain ⟨sl, z⟩ := ub.slot b o e hb
      exact ⟨sl, (fromF b hb).trans z⟩
    · intro b o e _
      by_cases hb : b ∈ frs X.stack
      · obtain ⟨sl, z⟩ := ub.slot b o e hb
        exact ⟨_, (fromF b hb).trans z⟩
      · obtain ⟨o', z⟩ := ub.there b o e hb
        exact ⟨o', fromB b o' z⟩
  refine ⟨a, B, { s with heap := G, gens := s'.gens, drawn := s'.drawn, toks := s'.toks }, pins, σ, H', cls, d, c, l, ⟨ea, na, os, ag⟩, J, ⟨fun b o e nf => (back b o e).2 nf, ?_⟩, .inr (.inl fl), bl.mono fun b o us e _ z => ⟨fromB b o e, z⟩, hW _ _ _ wish⟩
  exact Heap.UpToSlots.of_keeps fun b o e => (back b o e).1
/-- a new one, whose context is c -/
theorem UpK.new {a : Addr} {oe : Obj} {vs : Array Value} {cls c : Value} {d : Option Addr} {l : List (Addr × Obj)} (I : Inv X pins σ H sI) (k : ∀ b o, sI.heap.get? b = some o → s'.heap.get? b = some o) (no : sI.heap.get? a = none) (at_ : s'.heap.get? a = some oe)
    (z : Zk cls d c oe) (dat : oe.data = .fields vs) (fst : vs[1]? = some .none) (rest : H a = none ∧ s'.os = sI.os ∧ AllBare s'.gens) (bl : Below sI.heap H c l) (wish : W cls d σ H) : UpK X W (.ref a) s' := by
  refine ⟨a, PySem.W.hideAll sI.heap (frs X.stack), sI, pins, σ, H, cls, d, c, l, ⟨rfl, rest⟩, I, ⟨fun b o e hb => PySem.W.hideAll_get _ e hb, Heap.UpToSlots.of_keeps k⟩, .inl ⟨fun b o e => k b o (PySem.W.of_hideAll _ e), ?_, ?_, oe, vs, at_, z, dat, fst⟩, bl, wish⟩
  · cases q : (PySem.W.hideAll sI.heap (frs X.stack)).get? a with
    | some o =>
      have y := PySem.W.of_hideAll _ q
      rw [no] at y
      cases y
    | none => rfl
  · have ff := funFrames_none I.stack fun b hb => PySem.W.hideAll_none (h := sI.heap) (frs X.stack) hb
    exact Heap.FunFrames.of_keeps (fun b o e _ => ⟨o, k b o e, rfl⟩) ff
/-- no frame is a record -/
theorem no_frame (I : Inv X pins σ H sI) {b : Addr} {o : Obj} {us : Array Value} (e : sI.heap.get? b = some o) (dt : o.data = .fields us) : b ∉ frs X.stack := fun hm => by
  obtain ⟨_, o', e', nf⟩ := I.stack.mem hm
  rw [e] at e'
  cases e'
  exact nf us dt
theorem UpK.leave (stk : X.stack = X.env :: X.outer) (frm : X.env.frame = some X.env.locals) (noex : X.ex = []) {E₁ : Value → Shared → Prop} (hW : ∀ cls d σ H, W cls d σ H → E cls d H) {u : Value} (x : UpK X W u s') :
    wpAny (model X.prog X.w) X.A (leaving X.env u) (fun _ t => CXK X.prog X.w X.outer X.H_0 X.s_0 E u t) E₁ s' := by
  obtain ⟨a, B, sI, pins, σ, H, cls, d, c, l, ⟨rfl, na, os, ag⟩, I, ⟨nb, up⟩, sky, bl, w⟩ := x
  have fr1 : X.A.frames = some (X.env :: X.outer) := I.ok.frames.trans (by rw [stk])
  have off : ∀ b o, X.s_0.heap.get? b = some o → b ∉ X.fs → b ∉ frs X.stack := by
    intro b o e hb hm
    rcases List.mem_cons.mp (I.stkSub b hm) with z | z
    · have small := Heap.lt_size e
      rw [z] at small
      exact Nat.lt_irrefl _ (Nat.lt_of_lt_of_le small I.ok.above)
    · exact hb z
  have nex : ∀ b, b ∉ X.ex := by
    rw [noex]
    exact fun b hb => (List.not_mem_nil hb).elim
  have end_ : ∀ h', HandSPX.FlyingZ B X.outer a (Zk cls d c) h' → s'.heap.UpToSlots h' → CXK X.prog X.w X.outer X.H_0 X.s_0 E (.ref a) { s' with heap := h' } := by
    intro h' fl up2
    refine ⟨a, B, H, cls, d, c, l, ⟨rfl, na, os.trans I.os, ag⟩, fl, ⟨I.inGround nb, ?_⟩, bl.mono fun b o us e dt z => ⟨nb b o e (no_frame I e dt), z⟩, hW _ _ _ _ w⟩
    refine ⟨?_, ?_, fun b o e n => I.base.free b o e n (nex b), ?_, I.base.tups, I.base.frzs, I.base.tbls⟩
    · intro b o e n hb
      exact nb b o (I.base.keep b o e n hb (nex b)) (off b o e hb)
    · intro b o e hb
      obtain ⟨_, p, ep, nf⟩ := I.ok.funs.mem hb
      rw [e] at ep
      cases ep
      obtain ⟨s1, e1⟩ := I.base.slot b o e (I.ok.frf b hb) hb (nex b)
      obtain ⟨s2, e2⟩ := up b _ e1 nf
      obtain ⟨s3, e3⟩ := up2 b _ e2 nf
      exact ⟨s3, e3⟩
    · intro b o e hb
      obtain ⟨p, ep⟩ := I.base.there b o e (nex b)
      exact ⟨p, nb b p ep (off b o e hb)⟩
  rw [stk] at sky
  rcases sky with ⟨k1, k2, k3, oe, vs, k4, k5, k6, k7⟩ | fl | hd
  · exact PXN.leaving_firstZ Zk.steady fr1 k3 frm k4 k1 k2 k6 k7 k5 end_
  · exact PXN.leaves_onZ Zk.steady fr1 frm fl end_
  · exact HandSPX.leaves_heldZ frm hd end_
theorem takesK_of (stk : X.stack = X.env :: X.outer) (frm : X.env.frame = some X.env.locals) (noex : X.ex = []) {E₁ : Value → Shared → Prop}
    (hx : X.xe = fun e t => wpAny (model X.prog X.w) X.A (leaving X.env e) (fun _ t2 => CXK X.prog X.w X.outer X.H_0 X.s_0 E e t2) E₁ t) : TakesK X (fun cls d _ H => E cls d H) := fun u t x => by
  rw [hx]
  exact UpK.leave (W := fun cls d _ H => E cls d H) stk frm noex (fun _ _ _ _ q => q) x
theorem passK {X : Cx} {E : XK} (tk : TakesK X (fun cls d _ H => E cls d H)) : Passes (CXK X.prog X.w) X E := fun _ _ _ _ u t I q => tk u t (UpK.of_call I (fun _ _ _ z => z) q)
theorem passAtK {X : Cx} {W : WX} (tk : TakesK X W) (σ : L2.St) : PassesAt (CXK X.prog X.w) X σ (WE W σ) := fun _ _ _ u t I q => tk u t (UpK.of_call I (fun _ _ _ z => z) q)
end
end
section
open PySem.Spec PySem.Calls PyProof.Rows
theorem passLK {X : Cx} : Passes (CXK X.prog X.w) X E0 := fun _ _ _ _ _ _ _ ⟨_, _, _, _, _, _, _, _, _, _, _, no⟩ => no.elim
end
/-! ### raising while an exception with a chain below it is handled -/
section
open PySem.Spec PySem.Calls PyProof.Rows
/-- the chain alone -/
inductive Links : Value → List (Addr × Obj) → Prop
  | stop : Links .none []
  | link {b : Addr} {o : Obj} {us : Array Value} {c : Value} {l : List (Addr × Obj)} : o.data = .fields us → us[2]? = some c → Links c l → Links (.ref b) ((b, o) :: l)
theorem Below.links {h : Heap} {H : Hp} {c : Value} {l : List (Addr × Obj)} (x : Below h H c l) : Links c l := by
  induction x with
  | stop => exact .stop
  | link _ e2 e3 _ _ ih => exact .link e2 e3 ih
theorem Links.under {h : Heap} {H : Hp} {c : Value} {l : List (Addr × Obj)} (x : Links c l) (k : ∀ q ∈ l, h.get? q.1 = some q.2 ∧ H q.1 = none) : Below h H c l := by
  induction x with
  | stop => exact .stop
  | link e1 e2 _ ih => exact .link (k _ List.mem_cons_self).1 e1 e2 (k _ List.mem_cons_self).2 (ih fun q hq => k q (List.mem_cons_of_mem _ hq))
/-- the exception that is handled, and the chain below it, are pinned -/
def HotK (X : Cx) : Prop := ∃ (p : Addr × Obj) (l : List (Addr × Obj)), X.A.handled = some (.ref p.1) ∧ Links (.ref p.1) (p :: l) ∧ ∀ q ∈ p :: l, q ∈ X.pn
theorem plain_unchain : plainId "proto.unchain" = true := by decide +kernel
section
variable {prog : Program} {w : World} {E : Value → Shared → Prop} {s : Shared}
theorem unchain_code {a : Addr} {A : Around} {R : PySem.Result → Shared → Prop} (q : R (.ok (.ret .none)) s) : ∀ (L M : List (Addr × Obj)) (x y : Addr) (t : Bool), Links (.ref x) L → Links (.ref y) M → L.length ≤ M.length → (∀ p ∈ L, s.heap.get? p.1 = some p.2 ∧ p.1 ≠ a) →
    (∀ p ∈ M, s.heap.get? p.1 = some p.2) → codeAny (model prog w) A (.builtin "proto.unchain" ⟨[.ref a, .ref x, .ref y, .bool t], []⟩) R s
  | [], _, _, _, _, hx, _, _, _, _ => nomatch hx
  | (b, o) :: L, M, x, y, t, hx, hy, hl, kx, ky => by
    cases hx with
    | @link _ _ us c _ e1 e2 r =>
      refine codeAny_builtin HotX.entry_unchain ?_
      show wpAny _ _ (field (.ref _) 2 >>= _) _ _ s
      refine wpAny_bind (wpAny_field (kx _ List.mem_cons_self).1 e1 e2 ?_)
      cases r with
      | stop =>
        rw [if_pos (show (Value.none == Value.none) = true from rfl)]
        first
        | exact wpAny_bind (wpAny_pure (wpAny_pure q))
        | exact wpAny_pure q
      | @link b2 o2 us2 c2 L2 f1 f2 r2 =>
        have nea : b2 ≠ a := (kx (b2, o2) (List.mem_cons_of_mem _ List.mem_cons_self)).2
        rw [if_neg (show ¬ ((Value.ref b2 == Value.none) = true) by simp), if_neg (show ¬ ((Value.ref b2 == Value.ref a) = true) by simpa using nea)]
        by_cases same : (Value.ref b2 == Value.ref y) = true
        · rw [if_pos same]
          exact wpAny_bind (wpAny_rule (wpAny_pure q))
        · rw [if_neg same]
          have next : ∀ (z : Addr) (N : List (Addr × Obj)), Links (.ref z) N → L2.length + 1 ≤ N.length → (∀ p ∈ N, s.heap.get? p.1 = some p.2) →
              codeAny (model prog w) A (.builtin "proto.unchain" ⟨[.ref a, .ref b2, .ref z, .bool !t], []⟩) R s := fun z N hz hn kz =>
            unchain_code q ((b2, o2) :: L2) N b2 z (!t) (.link f1 f2 r2) hz hn (fun p hp => kx p (List.mem_cons_of_mem _ hp)) kz
          cases t with
          | false =>
            rw [if_neg (by decide)]
            refine wpAny_bind (wpAny_pure (wpAny_pure ⟨plainId_quiet plain_unchain _, next y M hy (by simp at hl ⊢; omega) ky⟩))
          | true =>
            rw [if_pos rfl]
            cases hy with
            | @link _ oy uy cy My' g1 g2 rr =>
              have len : L2.length + 1 ≤ My'.length := by
                simp at hl
                omega
              refine wpAny_bind (wpAny_field (ky _ List.mem_cons_self) g1 g2 ?_)
              cases rr with
              | stop =>
                simp at len
              | @link y2 oy2 uy2 cy2 M2 k1 k2 rr2 => exact wpAny_pure ⟨plainId_quiet plain_unchain _, next y2 _ (.link k1 k2 rr2) len fun p hp => ky p (List.mem_cons_of_mem _ hp)⟩
/-- the walk down the chain, as raiseNew does it -/
theorem unchain_held {a x : Addr} {A : Around} {L : List (Addr × Obj)} {Q : Value → Shared → Prop} (hx : Links (.ref x) L) (k : ∀ p ∈ L, s.heap.get? p.1 = some p.2 ∧ p.1 ≠ a) (q : Q .none s) :
    wpAny (model prog w) A (holding [Value.ref a] (runValue (.builtin "proto.unchain" ⟨[.ref a, .ref x, .ref x, .bool false], []⟩))) Q E s :=
  wpAny_holding (wpAny_runValue (unchain_code q L L x x false hx hx (Nat.le_refl _) k fun p hp => (k p hp).1))
theorem raiseNew_held {α : Type} {a x : Addr} {A : Around} {oe : Obj} {vs : Array Value} {L : List (Addr × Obj)} {Q : α → Shared → Prop} (hh : A.handled = some (.ref x)) (hx : Links (.ref x) L) (k : ∀ p ∈ L, s.heap.get? p.1 = some p.2 ∧ p.1 ≠ a)
    (at_ : s.heap.get? a = some oe) (dat : oe.data = .fields vs) (big : 2 < vs.size) (q : E (.ref a) { s with heap := s.heap.update a (Obj.mapFields (·.setIfInBounds 2 (.ref x))) }) : wpAny (model prog w) A (raiseNew (.ref a) : Sem α) Q E s := by
  have nxa : x ≠ a := by
    cases hx with
    | link _ _ _ => exact (k _ List.mem_cons_self).2
  have go := fun (Q' : Unit → Shared → Prop) q' => HotX.chained (prog := prog) (w := w) (A := A) (E := E) (x1 := x) (Q := Q') at_ dat big q'
  unfold raiseNew
  refine wpAny_bind (wpAny_handled ?_)
  rw [hh]
  have b : (Value.ref x != Value.ref a) = true := HotX.ref_bne nxa
  first
  | (show wpAny _ _ (if (Value.ref x != Value.ref a) = true then _ else _) _ _ _
     rw [if_pos b]
     first
     | exact wpAny_bind (unchain_held hx k (wpAny_bind (go _ (wpAny_throw q))))
     | exact wpAny_bind (wpAny_bind (unchain_held hx k (go _ (wpAny_throw q)))))
  | (refine wpAny_bind ?_
     show wpAny _ _ (if (Value.ref x != Value.ref a) = true then _ else _) _ _ _
     rw [if_pos b]
     exact wpAny_bind (unchain_held hx k (go _ (wpAny_throw q))))
end
end
/-! ### raise X(..) from None, and defs called, while an exception with a chain below it is handled -/
section
open PySem.Spec PySem.Calls PyProof.Rows HotX
theorem raise_heldN {prog : Program} {w : World} {A : Around} {E : Value → Shared → Prop} {env : Env} {s : Shared} {x c : Sem Value} {Q : Flow → Shared → Prop} {b : Addr} {L : List (Addr × Obj)} (hh : A.handled = some (.ref b)) (hb : Links (.ref b) L)
    (isNone : ∀ (s : Shared) (Q' : Value → Shared → Prop), Q' .none s → wpAny (model prog w) A c Q' E s)
    (made : wpAny (model prog w) A x (fun v t => ∃ a oe vs cls, (v = .ref a ∧ t.heap.get? a = some oe ∧ oe.cls = cls) ∧ (oe.data = .fields vs ∧ vs[1]? = some .none ∧ 4 < vs.size) ∧ (∀ p ∈ L, t.heap.get? p.1 = some p.2 ∧ p.1 ≠ a) ∧
      (PySem.W.Looks (model prog w) t.heap (isSubtype cls (.type "BaseException")) true ∧ PySem.W.Looks (model prog w) (noneFrom t.heap a) (typeOf cls) (.type "type")) ∧
      E (.ref a) { t with heap := (noneFrom t.heap a).update a (Obj.mapFields (·.setIfInBounds 2 (.ref b))) }) E s) : wpAny (model prog w) A (raiseStmt env (some x) (some c)) Q E s := by
  unfold raiseStmt
  dsimp only
  refine wpAny_bind (wpAny_mono made ?_ fun _ _ z => z)
  rintro _ t ⟨a, oe, vs, cls, ⟨rfl, ga, ca⟩, ⟨da, v1, v4⟩, kp, ⟨l1, l3⟩, fin⟩
  obtain ⟨g4, d4⟩ := noneFrom_at ga da
  have d3 := Obj.data_mapFields da (·.setIfInBounds 3 .none)
  have g3 := Heap.get?_update_self (Obj.mapFields (·.setIfInBounds 3 .none)) ga (Obj.isFreed_of_fields d3)
  have c4 : ((oe.mapFields (·.setIfInBounds 3 .none)).mapFields (·.setIfInBounds 4 (.bool true))).cls = cls := by
    rw [Obj.cls_mapFields, Obj.cls_mapFields]
    exact ca
  have b3 : 3 < vs.size := Nat.lt_of_succ_lt v4
  have b4 : 4 < (vs.setIfInBounds 3 Value.none).size := by
    rw [set_size]
    exact v4
  have b2 : 2 < ((vs.setIfInBounds 3 Value.none).setIfInBounds 4 (Value.bool true)).size := by
    rw [set_size, set_size]
    exact Nat.lt_of_succ_lt b3
  have n1 : ((vs.setIfInBounds 3 Value.none).setIfInBounds 4 (Value.bool true))[1]? = some Value.none := set_other (by decide) (set_other (by decide) v1)
  have ty : ∀ {h : Heap} {o : Obj}, h.get? a = some o → o.cls = cls → PySem.W.Looks (model prog w) h (typeOf (.ref a)) cls := by
    intro h o e1 e2 A' Q' E' t' k q
    exact wpAny_typeOf_ref (k _ _ e1) (by rw [e2]; exact q)
  have noType : ∀ {h : Heap} {o : Obj} {us : Array Value} {Q' : Bool → Shared → Prop}, h.get? a = some o → o.data = .fields us → Q' false { t with heap := h } → wpAny (model prog w) A (isType (.ref a)) Q' E { t with heap := h } := by
    intro h o us Q' e1 e2 q
    simp only [isType, loadHead]
    refine wpAny_bind (wpAny_loadPart e1 ?_)
    rw [e2]
    exact wpAny_pure q
  have isExc : PySem.W.Looks (model prog w) t.heap (isInstance (.ref a) (.type "BaseException")) true := (ty ga ca).andThen l1
  have last : wpAny (model prog w) A (do
      let k ← isType (.ref a)
      if k = true then do
        let e ← holding [.ref a] (raisedFor (.ref a) (.ref a))
        setFlight e none
        raiseNew e
      else do
        let e ← raisedInstance (.ref a)
        setFlight e none
        raiseNew e : Sem Flow) Q E { t with heap := noneFrom t.heap a } := by
    refine wpAny_bind (noType g4 d4 ?_)
    simp only [Bool.false_eq_true, if_false]
    unfold raisedInstance
    refine wpAny_bind (wpAny_bind ((ty g4 c4).here (wpAny_bind (l3.here ?_))))
    rw [if_pos (beq_self_eq_true _)]
    refine wpAny_pure ?_
    unfold setFlight
    refine wpAny_bind (wpAny_bind (wpAny_field g4 d4 n1 ?_))
    rw [if_neg (by decide)]
    refine wpAny_pure (raiseNew_held hh hb (fun p hp => ⟨?_, (kp p hp).2⟩) g4 d4 b2 fin)
    rw [noneFrom_other (Ne.symm (kp p hp).2)]
    exact (kp p hp).1
  refine wpAny_bind (wpAny_holding (isNone _ _ (wpAny_bind (wpAny_pure ?_))))
  dsimp only
  refine wpAny_bind (wpAny_holding ?_)
  unfold excFromValue isExcClass
  refine wpAny_bind (wpAny_bind (noType (h := t.heap) ga da ?_))
  simp only [Bool.false_eq_true, if_false]
  refine wpAny_pure ?_
  simp only [Bool.false_eq_true, if_false]
  refine wpAny_bind (isExc.here ?_)
  simp only [if_true]
  refine wpAny_pure ?_
  first
  | rw [if_pos (show (Value.none == Value.none) = true from rfl)]
  | (show wpAny _ _ (if (Value.none == Value.none) = true then _ else _) _ _ _; rw [if_pos (show (Value.none == Value.none) = true from rfl)])
  | simp only [beq_self_eq_true, if_true]
  first
  | exact wpAny_bind (wpAny_pure (wpAny_bind (wpAny_setField ga da b3 (wpAny_bind (wpAny_setField g3 d3 b4 last)))))
  | exact wpAny_bind (wpAny_pure (wpAny_bind (wpAny_bind (wpAny_setField ga da b3 (wpAny_bind (wpAny_setField g3 d3 b4 last))))))
  | exact wpAny_bind (wpAny_bind (wpAny_pure (wpAny_bind (wpAny_setField ga da b3 (wpAny_setField g3 d3 b4 last)))))
/-- raise X(..) from None in an except suite: the new exception's context is the one that is handled -/
theorem ps_raiseK {X : Cx} {W : WX} {e : Expr} {t : L2.St → Hp → XK → Prop} {j : Nat} {cpos pos : Pos} (hot : HotK X) (tk : TakesK X W) (mk : L2H.PMk5 X e t) :
    PS X (.Raise (some e) (some (.Constant .none j cpos)) pos) (fun _ σ H => t σ H fun cls d H' => W cls d σ H') := by
  constructor
  intro pins s σ H D I wish
  obtain ⟨p, l, hh, lk, pn⟩ := hot
  show wpAny _ _ (do standAt pos; raiseStmt X.env (some (do let v ← eval e X.env; standAt pos; pure v)) (some (do let v ← eval (.Constant .none j cpos) X.env; standAt pos; pure v))) _ _ _
  refine wpAny_bind (wpAny_standAt (raise_heldN hh lk (fun t2 Q2 q2 => wpAny_bind (Constant_none (wpAny_bind (wpAny_standAt (wpAny_pure q2))))) (wpAny_bind (wpAny_mono (mk pins s σ H _ I wish) (fun u t1 got => wpAny_bind (wpAny_standAt (wpAny_pure ?_))) fun _ _ z => z))))
  obtain ⟨⟨a, oe, vs, sI, H', cls, d, rfl, J, keep, no, ga, za, da, v1, na, os, ag, rs, q⟩, six⟩ := got
  have v4 : 4 < vs.size := six a oe vs rfl ga da
  have apart : ∀ b u, sI.heap.get? b = some u → a ≠ b := by
    intro b u y z
    rw [← z, no] at y
    cases y
  have keep4 : ∀ b u, sI.heap.get? b = some u → (noneFrom t1.heap a).get? b = some u := by
    intro b u y
    rw [noneFrom_other (apart b u y)]
    exact keep b u y
  have chain : ∀ z ∈ p :: l, sI.heap.get? z.1 = some z.2 ∧ H' z.1 = none := fun z hz => ⟨(J.pin z (List.mem_append_left _ (pn z hz))).1, (J.pin z (List.mem_append_left _ (pn z hz))).2.1⟩
  obtain ⟨g4, d4⟩ := noneFrom_at ga da
  obtain ⟨r1, _⟩ := rs (model X.prog X.w) t1.heap (J.kIn.keeps keep)
  obtain ⟨_, r2⟩ := rs (model X.prog X.w) (noneFrom t1.heap a) (J.kIn.keeps keep4)
  have w1 : (((vs.setIfInBounds 3 Value.none).setIfInBounds 4 (Value.bool true)).setIfInBounds 2 (Value.ref p.1))[1]? = some Value.none := set_other (by decide) (set_other (by decide) (set_other (by decide) v1))
  have w2 : (((vs.setIfInBounds 3 Value.none).setIfInBounds 4 (Value.bool true)).setIfInBounds 2 (Value.ref p.1))[2]? = some (Value.ref p.1) := by
    have sz : 2 < ((vs.setIfInBounds 3 Value.none).setIfInBounds 4 (Value.bool true)).size := by
      rw [set_size, set_size]
      omega
    simp [Array.getElem?_setIfInBounds, sz]
    omega
  have dF := Obj.data_mapFields d4 (·.setIfInBounds 2 (Value.ref p.1))
  refine ⟨a, oe, vs, cls, ⟨rfl, ga, za.1⟩, ⟨da, v1, v4⟩, fun z hz => ⟨keep _ _ (chain z hz).1, fun y => apart _ _ (chain z hz).1 y.symm⟩, ⟨r1, r2⟩, tk _ _ (UpK.new J (fun b u z => ?_) no (Heap.get?_update_self _ g4 (Obj.isFreed_of_fields dF)) ⟨⟨?_, ?_⟩, ?_⟩ dF w1 ⟨na, os, ag⟩ (lk.under chain) q)⟩
  · show ((noneFrom t1.heap a).update a (Obj.mapFields (·.setIfInBounds 2 (.ref p.1)))).get? b = some u
    rw [Heap.get?_update_other _ _ (apart b u z)]
    exact keep4 b u z
  · rw [Obj.cls_mapFields, Obj.cls_mapFields, Obj.cls_mapFields]
    exact za.1
  · rw [HandSPX.dict_mapFields, HandSPX.dict_mapFields, HandSPX.dict_mapFields]
    exact za.2.1
  · intro us z
    rw [dF] at z
    cases z
    exact w2
end
/-! ### a def that is called in such a suite; the try itself -/
section
open PySem.Spec PySem.Calls PyProof.Rows HotX
/-- what a def promises where some exception, pinned, is handled -/
structure FnD (P : Program) (w : World) (K : PySem.W.Frag) (mg : Str → Option Value) (base : Heap) (CX : CXT) (k : Nat) (f : Addr) (fd : FuncData) (ps : List Str) (sp : Sp) : Prop where
  few : ∀ vs H Q E, sp vs H Q E → vs.length = ps.length
  go : ∀ (A : Around) (outer : List Env) (s : Shared) (H : Hp) (args : Args) (us : List Value) (vs : List V) (Q : VK) (E : XK) (p : Addr × Obj), L2H.RoomH k A → L2H.PinOk outer H s p → Env0 P w K mg base A outer s H → BindsTo s fd args (ps.zip us) → Vals vs us →
    sp vs H Q E → codeAny (model P w) A (.call (.ref f) args) (CR CX outer P w H s Q E) s
section
variable {P : Program} {w : World} {K : PySem.W.Frag} {mg : Str → Option Value} {base : Heap}
theorem okHotD {CX : CXT} {x qual : Str} {st : Stmt} {f : Addr} {fd : FuncData} {N ps : List Str} {k : Nat} {sp : Sp} (F : Fun K x qual st f fd) (S : FnScope N ps (defScope st)) (few : ∀ vs H Q E, sp vs H Q E → vs.length = ps.length)
    (body : ∀ (cdv : Value) (A : Around) (outer : List Env) (s : Shared) (H : Hp) (vs : List V) (Q : VK) (E : XK) (p : Addr × Obj), sp vs H Q E →
      ∃ t, PSs (L2H.cxH CX P w K mg base N qual (defScope st) f cdv A outer s H E p) (defBody st) t ∧ t { nx := fun _ H' => Q .non H', rt := Q } (L2.start N vs) H) : FnD P w K mg base CX (k + 1) f fd ps sp := by
  obtain ⟨_, _, _, _, _, _, cd, _, _, rfl, lk, isC⟩ := F.ex
  refine ⟨few, ?_⟩
  intro A outer s H args us vs Q E p room pin e0 bd rv want
  have len := few _ _ _ _ want
  have kin : K.In s.heap := e0.mod.kin.keeps fun b o e => (e0.bs b o e).1
  have lim : s.heap.NoLimit := e0.mod.nolimit.keeps fun b o e => (e0.bs b o e).1
  have kinds : ∀ y ∈ ps.zip us, (defScope st).names.lookup y.1 = some .local ∨ ((defScope st).names.lookup y.1 = some .cell ∧ ((cellsFrom (s.heap.objs.size + 1) (defScope st).names []).lookup y.1).isSome = true) := by
    rintro ⟨n, v⟩ hy
    rcases S.par n (List.of_mem_zip hy).1 with z | z
    · exact .inl z
    · exact .inr ⟨z, PySem.W.cellsFrom_some _ _ _ (.inl z)⟩
  refine codeAny_call_function room.depth (kin _ _ lk) rfl S.co S.gen rfl (PySem.W.codeRec_of kin isC) (bd _ _ _ _ ?_)
  refine wpAny_newFunctionEnv_cells S.kind kinds ?_
  rintro env rfl s1 inside
  refine ⟨lim.keeps inside.toInCall.keep, codeAny_func ?_⟩
  obtain ⟨t, ht, q⟩ := body cd A outer s H vs Q E p want
  refine wpAny_mono (ht.run [] s1 (L2.start N vs) H _ (L2H.inv_startH S pin e0 len rv inside) q) ?_ fun _ _ z => z
  intro fl s' got
  cases fl with
  | next =>
    obtain ⟨σ', H', J, z⟩ := got
    exact ⟨.non, H', J.os, J.bare, J.base, J.hok, rfl, z⟩
  | ret u =>
    obtain ⟨v, σ', H', J, rv', z⟩ := got
    exact ⟨v, H', J.os, J.bare, J.base, J.hok, rv', z⟩
  | brk => exact got.elim fun _ z => z.elim fun _ z => z.2.elim
  | cont => exact got.elim fun _ z => z.elim fun _ z => z.2.elim
end
/-- C(e, ..) there -/
theorem pmk5_oexD {X : Cx} {CX : CXT} {x : Str} {e : Expr} {es : List Expr} {ta : TA} {p pos : Pos} {C fI : Addr} {k : Nat} {fd : FuncData} {ps : List Str} {sp : Sp} (T : OexC X.K C) (ini : PySem.W.findIn X.K (.ref C) "__init__" = some (some (.ref fI)))
    (fn : PySem.W.typeIn X.K (.ref fI) = some (.type "function")) (F1 : FnD X.prog X.w X.K X.mg X.base CX k fI fd ps sp) (room : L2H.RoomH (k + 1) X.A) (hot : HotK X) (bnd : Binds X.K fd ps []) (px : Passes CX X (fun _ _ _ => False)) (gl : Gl X x) (m : X.mg x = some (.ref C))
    (arg : PA X (e :: es) ta) (h1 : (x == ("__debug__" : Str)) = false := by decide) (h2 : starEach (e :: es) X.env = (false, eval e X.env) :: starEach es X.env := by rfl) (h3 : (backTo pos (starEach es X.env)).any (·.1) = false := by rfl) :
    L2H.PMk5 X (.Call (.Name x p) (e :: es) [] pos) (tMkO C sp [] ta) := by
  intro pins s σ H Q I want
  obtain ⟨_, _, _, _, bm, _, _, _, _, _, _, _, _, _, _, inC, hbm⟩ := T.cls
  obtain ⟨pn, _, _, _, inpn⟩ := hot
  apply wpAny_Call_Name_kw
  refine ld_glob I gl m ?_ h1
  refine PySem.W.callWith_K (h₀ := X.base) I.ok.mod.kin T.kC ?_ h2 h3
  refine thn (arg.run pos pins s σ H _ I want) fun us s1 got => ?_
  obtain ⟨vs, H1, I1, rv, few, q1⟩ := got
  refine ⟨I1.kIn, ?_⟩
  obtain ⟨hp, gs, dr, tk, os⟩ := s1
  let a : Addr := hp.objs.size + 1
  have le : hp.objs.size ≤ a := Nat.le_succ _
  have fresh : H1 a = none := I1.hok.fresh le
  have q2 := q1 a fresh
  rw [List.append_nil] at q2
  let hp2 : Heap := (hp.push (PySem.W.kdv_tup us)).push (PySem.HandSPX.excO C hp.objs.size)
  have kept : ∀ b o, hp.get? b = some o → hp2.get? b = some o := fun b o z => Heap.get?_push_of_some _ (Heap.get?_push_of_some _ z)
  have there : hp2.get? a = some (PySem.HandSPX.excO C hp.objs.size) := by
    show ((hp.push (PySem.W.kdv_tup us)).push (PySem.HandSPX.excO C hp.objs.size)).get? (hp.objs.size + 1) = _
    heap_get
  have I2 : Inv X pins σ (upd H1 a (exo a C none)) ⟨hp2, gs, dr, tk, os⟩ := I1.laid (t' := tk) (a := a) (o := exo a C none) (h' := hp2) kept le (exo_ok there)
  have rv2 : Vals (V.ref a :: vs) (Value.ref a :: us) := .cons rfl rv
  have ln : (Value.ref a :: us ++ []).length = ps.length := by
    have z := rv2.length
    rw [F1.few _ _ _ _ q2] at z
    rw [List.append_nil]
    exact z.symm
  have small : us.length ≤ sizeLine := by
    rw [← Paired.length rv]
    exact Nat.le_trans few (by decide)
  have bd := bnd _ (Value.ref a :: us) I2.kIn ln
  rw [List.append_nil] at bd
  have ip := I2.pin pn (List.mem_append_left _ (inpn pn List.mem_cons_self))
  have pinned : L2H.PinOk X.stack (upd H1 a (exo a C none)) ⟨hp2, gs, dr, tk, os⟩ pn := ⟨ip.1, ip.2.1, fun z => (List.mem_cons.mp (I2.stkSub pn.1 z)).elim ip.2.2.1 ip.2.2.2.1, ip.2.2.2.2⟩
  show wpAny _ _ (call (.ref C) us) _ _ _
  refine wpAny_call (PySem.HandSPX.call_own F.excBase_ValueError (fun Y => PySem.HandSPX.refsVE_contains Y bm hbm) (I1.kIn _ _ inC) (PySem.W.looks_findIn I1.kIn ini) (fun self => PySem.W.bind_fn I1.kIn self fn) small ?_)
  refine codeAny_mono (F1.go _ X.stack _ _ ⟨Value.ref a :: us, []⟩ (Value.ref a :: us) _ _ (fun _ _ _ => False) pn (room.make C us []) pinned (I2.env0.make C us []) bd rv2 q2) fun r s2 gr => ?_
  cases r with
  | error er => exact px pins σ _ _ er s2 I2 gr
  | ok fl =>
    cases fl with
    | next => exact gr.elim
    | brk => exact gr.elim
    | cont => exact gr.elim
    | ret u =>
      obtain ⟨v, H2, os2, bare, un, hok, ru, ev, d, fs, ea, ed, fd1, q3⟩ := gr
      subst ev
      obtain ⟨h5, g5, d5, t5, o5⟩ := s2
      obtain ⟨_, G, J, kG, ge, hoe, na⟩ := mk_end0 (d2 := d5) (t2 := t5) I1 le kept un hok os2 bare ea ed fd1
      refine ⟨ru, ⟨a, _, _, ⟨G, g5, d5, t5, o5⟩, _, .ref C, some d, rfl, J, kG, ge, hoe, ⟨rfl, rfl, fun ws hw => ?_⟩, rfl, rfl, na, rfl, bare, raises_own T.exC T.tyC, q3⟩, fun a' oe vs' e1 e2 e3 => ?_⟩
      · cases hw
        rfl
      · cases e1
        have e4 : h5.get? a = some oe := e2
        rw [show h5.get? a = _ from hoe] at e4
        cases e4
        cases e3
        exact (by decide : 4 < 6)
/-- what is wished of an exception of the body -/
theorem ps_try_onlyK {X : Cx} {x : Str} {c : Value} {body suite : List Stmt} {st : Stmt} {p1 p2 pos : Pos} {tb : WX → TS} {ts : Addr → Value → Option Addr → TS} {Wout : WX} (stk : X.stack = X.env :: X.outer) (frm : X.env.frame = some X.env.locals) (named : Names X x c)
    (own : ∀ hd : Option Value, PassesOwnAt (model X.prog X.w) (X.A.mark hd) X.A X.env X.xe) (out : TakesK X Wout)
    (inner : ∀ (W : WX) (pn : List (Addr × Obj)) (xe : Value → Shared → Prop), TakesK (X.tr pn xe) W → PassesOwn (model X.prog X.w) X.A X.env xe → PSs (X.tr pn xe) body (tb W))
    (hand : ∀ (a : Addr) (cls : Value) (d : Option Addr) (pn : List (Addr × Obj)), TakesK (L2H.suiteX X a pn) Wout → HotK (L2H.suiteX X a pn) → PSs (L2H.suiteX X a pn) (st :: suite) (ts a cls d)) :
    PS X (.Try body [.ExceptHandler (some (.Name x p1)) none (st :: suite) p2] [] [] pos) (fun D σ H => tb (wOnly X.K c ts Wout D) D σ H) := by
  constructor
  intro pins s σ H D I wish
  have fr1 : X.A.frames = some (X.env :: X.outer) := I.ok.frames.trans (by rw [stk])
  apply wpAny_Try_except
  let xe' : Value → Shared → Prop := fun e t1 => wpAny (model X.prog X.w) X.A (noteFrame e X.env)
    (fun _ t2 => wpAny (model X.prog X.w) X.A (setFlight e none) (fun _ t3 => wpAny (model X.prog X.w) X.A (handleBy e X.env [.ExceptHandler (some (.Name x p1)) none (st :: suite) p2]) (SP X pins D) X.xe t3) X.xe t2) X.xe t1
  have caught : TakesK (X.tr (X.pn ++ pins) xe') (wOnly X.K c ts Wout D) := by
    rintro u s' ⟨a, B, sI, pins', σ', H', cls, d, cc, l, ⟨rfl, na, os, ag⟩, J1, ⟨nb, up⟩, sky, bl, b, isb, yes, no⟩
    have J := J1.ofTry I.ok
    have nb' : ∀ b o, sI.heap.get? b = some o → b ∉ frs X.stack → B.get? b = some o := nb
    have sky2 : Sky B (X.env :: X.outer) a (Zk cls d cc) X.env.locals s'.heap := by
      rw [← stk]
      exact sky
    show wpAny _ X.A (noteFrame (.ref a) X.env) _ _ _
    refine L2N.Sky.land Zk.steady fr1 frm sky2 fun hA fly upA => ?_
    have JA : Inv X pins σ' H' { s' with heap := hA } := J.landed nb' fly.1 (up.trans upA) os ag
    obtain ⟨oA, wA, getA, zA, dataA⟩ := fly.there
    have off : ∀ {h : Heap} {o : Obj} {us : Array Value}, h.FunFrames B (X.env :: X.outer) → h.get? a = some o → o.data = .fields us → a ∉ frs (X.env :: X.outer) := by
      intro h o us ff e dt hm
      obtain ⟨_, o2, e2, nd⟩ := ff.mem hm
      rw [e] at e2
      cases e2
      exact nd _ dt
    have offA := off fly.2.2.1 getA dataA
    have offL : a ≠ X.env.locals := fun z => offA (List.mem_filterMap.mpr ⟨X.env, List.mem_cons_self, by rw [frm, z]⟩)
    have offF : a ∉ X.fs := fun hm => by
      obtain ⟨e, he, q⟩ := List.mem_filterMap.mp hm
      exact offA (List.mem_filterMap.mpr ⟨e, List.mem_cons_of_mem _ he, q⟩)
    have SA := JA.suite getA dataA na offL offF
    refine wpAny_handleBy_cons (codeAny_handlers_test ?_) (by intro q; cases q)
    have lookT : PySem.W.Looks (model X.prog X.w) hA (typeOf (.ref a)) cls := by
      intro A' Q E t2 k q
      exact wpAny_typeOf_ref (k _ _ getA) (by rw [zA.1.1]; exact q)
    have lookM := PySem.W.exm_one (M := model X.prog X.w) JA.kIn lookT isb
    have said : ∀ {Q E : Value → Shared → Prop}, Q c { s' with heap := hA } → wpAny (model X.prog X.w) (X.A.mark (some (.ref a))) (eval (.Name x p1) X.env) Q E { s' with heap := hA } := by
      intro Q E q
      obtain ⟨gl, nd, hm⟩ := named
      rcases hm with hm | ⟨hm, bv, nn⟩
      · exact ld_glob (X := X.suite a ((a, oA) :: (X.pn ++ pins))) SA gl hm q nd
      · exact ld_blt (X := X.suite a ((a, oA) :: (X.pn ++ pins))) SA gl hm bv q nn nd
    refine said (lookM.here ?_)
    cases b with
    | false =>
      show wpAny _ X.A (handleBy (.ref a) X.env []) _ _ _
      apply wpAny_handleBy_nil
      obtain ⟨_, _, _, o5, w5, T5, oT5, t5, g5, z5, d5, e5, r5⟩ := id fly
      unfold PySem.passOn
      apply wpAny_bind
      refine wpAny_field g5 d5 e5 ?_
      rw [if_neg (show ¬ ((Value.ref T5 == Value.none) = true) by simp)]
      have leave : wpAny (model X.prog X.w) X.A (setFlight (.ref a) X.env.frame) (fun _ s4 => wpAny (model X.prog X.w) X.A (throw (.ref a) : Sem Flow) (SP X pins D) X.xe s4) X.xe { s' with heap := hA } := by
        rw [frm]
        refine HandSPX.setFlight_upZ fly fun hB heldB upB => ?_
        apply wpAny_throw
        exact out _ _ ⟨a, B, sI, pins, σ', H', cls, d, cc, l, ⟨rfl, na, os, ag⟩, J, ⟨nb', (up.trans upA).trans upB⟩, .inr (.inr (by rw [stk]; exact heldB)), bl, no rfl⟩
      first
        | exact wpAny_bind leave
        | exact wpAny_bind (wpAny_pure (wpAny_bind leave))
    | true =>
      apply codeAny_handlers_suite
      refine HandSPX.lands_againZ fly fun hC flyC upC => ?_
      have JC : Inv X pins σ' H' { s' with heap := hC } := J.landed nb' flyC.1 ((up.trans upA).trans upC) os ag
      obtain ⟨oC, wC, getC, zC, dataC⟩ := flyC.there
      have stays : ∀ q ∈ l, hC.get? q.1 = some q.2 ∧ H' q.1 = none ∧ ∃ us, q.2.data = .fields us := fun q hq => by
        obtain ⟨e1, e2, us, e3⟩ := bl.mem q hq
        exact ⟨flyC.1 _ _ (nb' _ _ e1 (no_frame J e1 e3)), e2, us, e3⟩
      have fsub : ∀ q ∈ l, q.1 ∉ frs X.stack := fun q hq => by
        obtain ⟨e1, e2, us, e3⟩ := bl.mem q hq
        exact no_frame J e1 e3
      let pn2 : List (Addr × Obj) := (a, oC) :: (l ++ (X.pn ++ pins))
      have SC : Inv (L2H.suiteX X a pn2) [] σ' H' { s' with heap := hC } := by
        have S0 := L2H.suiteX_of (JC.suite getC dataC na offL offF)
        have okS : (L2H.suiteX X a pn2).Ok := Cx.Ok.unwish (X := L2H.suiteX X a pn2) (E := fun _ _ => False) (I.ok.suite a pn2)
        refine ⟨okS, S0.os, S0.bare, S0.base, S0.loc, S0.cell, S0.free, S0.freeC, ?_, S0.hok, S0.len⟩
        intro q hq
        have hq' : q ∈ (a, oC) :: (l ++ (X.pn ++ pins)) := by
          rw [List.append_nil] at hq
          exact hq
        rcases List.mem_cons.mp hq' with rfl | z
        · exact S0.pin _ (List.mem_append_left _ List.mem_cons_self)
        · rcases List.mem_append.mp z with z | z
          · obtain ⟨e1, e2, us, e3⟩ := stays q z
            have nf := fsub q z
            rw [stk] at nf
            refine ⟨e1, e2, fun y => nf (List.mem_filterMap.mpr ⟨X.env, List.mem_cons_self, by rw [frm, y]⟩), fun hm => ?_, fun v y => ?_⟩
            · obtain ⟨e, he, y⟩ := List.mem_filterMap.mp hm
              exact nf (List.mem_filterMap.mpr ⟨e, List.mem_cons_of_mem _ he, y⟩)
            · rw [e3] at y
              cases y
          · exact S0.pin _ (List.mem_append_left _ (List.mem_cons_of_mem _ z))
      have end_ : ∀ {pn' : List (Addr × Obj)} {σ6 : L2.St} {H6 : Hp} {s6 : Shared}, Inv (L2H.suiteX X a pn2) pn' σ6 H6 s6 → Inv X pins σ6 H6 s6 := fun {pn' σ6 H6 s6} S6 => by
        refine ⟨I.ok, S6.os, S6.bare, S6.base, S6.loc, S6.cell, S6.free, S6.freeC, fun q hq => ?_, S6.hok, S6.len⟩
        exact S6.pin q (List.mem_append_left _ (List.mem_cons_of_mem _ (List.mem_append_right _ hq)))
      have tkS : TakesK (L2H.suiteX X a pn2) Wout := by
        rintro u2 s2 ⟨a2, B2, sI2, pn3, σ2, H2, cls2, d2, c2, l2, e2, I2, nb2, sky3, bl2, w2⟩
        exact out u2 s2 ⟨a2, B2, sI2, pins, σ2, H2, cls2, d2, c2, l2, e2, end_ I2, nb2, sky3, bl2, w2⟩
      have hot : HotK (L2H.suiteX X a pn2) := by
        refine ⟨(a, oC), l, rfl, .link dataC (zC.2 _ dataC) bl.links, fun q hq => ?_⟩
        rcases List.mem_cons.mp hq with rfl | z
        · exact List.mem_cons_self
        · exact List.mem_cons_of_mem _ (List.mem_append_left _ z)
      refine wpAny_mono ((hand a cls d pn2 tkS hot).run [] _ _ H' _ SC (yes rfl a na)) (fun f s6 got => ?_) (fun e6 s6 z => own (some (.ref a)) e6 s6 z)
      cases f with
      | next =>
        obtain ⟨σ6, H6, S6, q6⟩ := got
        exact ⟨_, _, end_ S6, q6⟩
      | brk =>
        obtain ⟨σ6, H6, S6, q6⟩ := got
        exact ⟨_, _, end_ S6, q6⟩
      | cont =>
        obtain ⟨σ6, H6, S6, q6⟩ := got
        exact ⟨_, _, end_ S6, q6⟩
      | ret u =>
        obtain ⟨v6, σ6, H6, S6, r6, q6⟩ := got
        exact ⟨_, _, _, end_ S6, r6, q6⟩
  refine wpAny_mono ((inner _ (X.pn ++ pins) xe' caught PassesOwn.looking).run [] s σ H D (I.toTry _) wish) (fun f s1 got => ?_) fun _ _ z => z
  cases f with
  | next =>
    obtain ⟨σ', H', J', q⟩ := got
    exact wpAny_execs_nil ⟨σ', H', J'.ofTry I.ok, q⟩
  | brk =>
    obtain ⟨σ', H', J', q⟩ := got
    exact ⟨σ', H', J'.ofTry I.ok, q⟩
  | cont =>
    obtain ⟨σ', H', J', q⟩ := got
    exact ⟨σ', H', J'.ofTry I.ok, q⟩
  | ret u =>
    obtain ⟨v, σ', H', J', r, q⟩ := got
    exact ⟨v, σ', H', J'.ofTry I.ok, r, q⟩
section
variable {P : Program} {w : World} {K : PySem.W.Frag} {mg : Str → Option Value} {base : Heap}
/-- a def that lets such exceptions out -/
theorem okXK {x qual : Str} {st : Stmt} {f : Addr} {fd : FuncData} {N ps : List Str} {k : Nat} {sp : Sp} (F : Fun K x qual st f fd) (S : FnScope N ps (defScope st)) (few : ∀ vs H Q E, sp vs H Q E → vs.length = ps.length)
    (body : ∀ (cdv : Value) (A : Around) (outer : List Env) (s : Shared) (H : Hp) (vs : List V) (Q : VK) (E : XK), Room k (A.deeper (envOfC qual (defScope st) s.heap.objs.size f cdv)) → sp vs H Q E →
      ∃ t, PSs (cxOf (CXK P w) P w K mg base N qual (defScope st) f cdv A outer s H E) (defBody st) t ∧ t { nx := fun _ H' => Q .non H', rt := Q } (L2.start N vs) H) : FnOk P w K mg base (CXK P w) (k + 1) f fd ps sp := by
  obtain ⟨_, _, _, _, _, _, c, _, _, rfl, lk, isC⟩ := F.ex
  exact fn_of lk isC S few fun A outer s H vs Q E room q => body c A outer s H vs Q E room q
end
end
/-! ### properties: how the end tells of them -/
section
open PySem.Spec PySem.Calls PyProof.Rows
end
/-! ### dicts from texts to lists of texts -/
def getO (tb : List (Str × List Str)) (w : Str) : Option (List Str) := (tb.find? fun p => decide (p.1 = w)).map (·.2)
inductive KvT (H : Hp) : List (Key × V) → List (Str × List Str) → Prop where
  | nil : KvT H [] []
  | cons {s : Str} {ss : List Str} {a : Addr} {kvs : List (Key × V)} {tb : List (Str × List Str)} : H a = some (.lst (ss.map V.str)) → KvT H kvs tb → KvT H ((.inr s, .ref a) :: kvs) ((s, ss) :: tb)
theorem KvT.mono {H H' : Hp} {kvs : List (Key × V)} {tb : List (Str × List Str)} (h : KvT H kvs tb) (e : Same H H') : KvT H' kvs tb := by
  induction h with
  | nil => exact .nil
  | cons a _ ih => exact .cons (e _ _ a) ih
theorem KvT.get {H : Hp} {kvs : List (Key × V)} {tb : List (Str × List Str)} (h : KvT H kvs tb) (w : Str) : (getO tb w = none ∧ valV kvs (.inr w) = none) ∨ ∃ a ss, getO tb w = some ss ∧ valV kvs (.inr w) = some (.ref a) ∧ H a = some (.lst (ss.map V.str)) := by
  induction h with
  | nil => exact .inl ⟨rfl, rfl⟩
  | @cons s ss a kvs tb h1 h2 ih =>
    by_cases e : s = w
    · refine .inr ⟨a, ss, ?_, ?_, h1⟩
      · simp [getO, e]
      · exact valV_pos (p := (Sum.inr s, V.ref a)) (by rw [e])
    · have e1 : getO ((s, ss) :: tb) w = getO tb w := by simp [getO, List.find?_cons, e]
      have e2 : valV (((Sum.inr s : Key), V.ref a) :: kvs) (.inr w) = valV kvs (.inr w) := valV_neg (fun q => e (by injection q))
      rw [e1, e2]
      exact ih
theorem KvT.snoc {H : Hp} {kvs : List (Key × V)} {tb : List (Str × List Str)} (h : KvT H kvs tb) {w : Str} {ss : List Str} {a : Addr} (ha : H a = some (.lst (ss.map V.str))) : KvT H (kvs ++ [(.inr w, .ref a)]) (tb ++ [(w, ss)]) := by
  induction h with
  | nil => exact .cons ha .nil
  | cons h1 _ ih => exact .cons h1 ih
theorem KvT.put {H : Hp} {kvs : List (Key × V)} {tb : List (Str × List Str)} (h : KvT H kvs tb) {w : Str} {ss : List Str} {a : Addr} (ha : H a = some (.lst (ss.map V.str))) (n : (getO tb w).isNone = true) : KvT H (putK kvs (.inr w) (.ref a)) (tb ++ [(w, ss)]) := by
  have e : (kvs.any fun kv => decide (kv.1 = (Sum.inr w : Key))) = false := by
    rw [valV_any]
    rcases h.get w with ⟨_, e⟩ | ⟨_, _, e, _, _⟩
    · rw [e]; rfl
    · rw [e] at n
      cases n
  unfold putK
  rw [e]
  exact h.snoc ha
def freshT : List (Str × List Str) → List (Str × List Str) → Bool
  | _, [] => true
  | tb, p :: r => (getO tb p.1).isNone && freshT (tb ++ [p]) r
theorem KvT.merge {H : Hp} {more : List (Key × V)} {tb2 : List (Str × List Str)} (h2 : KvT H more tb2) : ∀ {kvs : List (Key × V)} {tb : List (Str × List Str)}, KvT H kvs tb → freshT tb tb2 = true → KvT H (mergeK kvs more) (tb ++ tb2) := by
  induction h2 with
  | nil => intro kvs tb h _; rw [List.append_nil]; exact h
  | @cons s ss a more tb2 ha _ ih =>
    intro kvs tb h f
    have f' : ((getO tb s).isNone && freshT (tb ++ [(s, ss)]) tb2) = true := f
    rw [Bool.and_eq_true] at f'
    have := ih (h.put ha f'.1) f'.2
    rw [List.append_assoc] at this
    exact this
theorem KvT.len {H : Hp} {kvs : List (Key × V)} {tb : List (Str × List Str)} (h : KvT H kvs tb) : kvs.length = tb.length := by
  induction h with
  | nil => rfl
  | cons _ _ ih => simp [ih]
theorem KvT.over {H : Hp} {kvs x : List (Key × V)} {tb : List (Str × List Str)} {pd : Addr} {o : HO} (hd : H pd = some (.dK x)) (h : KvT H kvs tb) : KvT (upd H pd o) kvs tb := by
  induction h with
  | nil => exact .nil
  | @cons s ss a kvs tb h1 _ ih =>
    refine .cons ?_ ih
    rw [upd_ne fun e => by rw [e, hd] at h1; cases h1]
    exact h1
theorem same_but {G H : Hp} {pd : Addr} (s : Same G H) (h : G pd = none) : Same G (but H pd) := fun x u e => by
  rw [but_ne fun q => by rw [q, h] at e; cases e]
  exact s _ _ e
theorem same_over {G H : Hp} {o : HO} (s : Same G H) {pd : Addr} (h : G pd = none) : Same G (upd H pd o) := fun x u e => by
  rw [upd_ne fun q => by rw [q, h] at e; cases e]
  exact s _ _ e
/-! ### lists of whole numbers as data -/
theorem eqvAll_ints : ∀ (a b : List Int), PyData.eqvAll (a.map .int) (b.map .int) = decide (a = b)
  | [], [] => by simp [PyData.eqvAll]
  | [], _ :: _ => by simp [PyData.eqvAll]
  | _ :: _, [] => by simp [PyData.eqvAll]
  | x :: r, y :: t => by
    have ih := eqvAll_ints r t
    simp only [List.map_cons, PyData.eqvAll, PyData.eqv, ih]
    rw [Bool.eq_iff_iff]
    simp
theorem eqv_ints (a b : List Int) : PyData.eqv (.list (a.map .int)) (.list (b.map .int)) = decide (a = b) := by
  rw [← eqvAll_ints]
  simp only [PyData.eqv]
/-! ### comprehensions over pairs that are made as they come -/
theorem lc_accE {J : It} {n : Nat} {G : Hp → Prop} {fx fy : Nat → Option V} {g : TG} {tt : TT} {te : TE} {vs : List Nat} {σ : L2.St} {H1 : Hp} {D : Addr} {Qd : Hp → Prop} (w : Walk J n G (YPair fx fy)) (hD : H1 D = none) (hG : ∀ H, Same H1 H → G H) (acc : Nat → List V) (h0 : acc 0 = []) (hz : ∀ i, i < n → (acc i).length < sizeLine)
    (hs : ∀ (i : Nat) (T : Addr) (x y : V) (H : Hp), i < n → fx i = some x → fy i = some y → Same H1 H → H T = some (.tup [x, y]) → ∀ (R : V → Hp → Prop) (S : Hp → Prop), (∀ z H4, acc (i + 1) = acc i ++ [z] → Same H H4 → R z H4) → (∀ H3, acc (i + 1) = acc i → Same H H3 → S H3) →
      g (.ref T) (wipe σ vs) H fun σ2 H2 => wipe σ2 vs = wipe σ vs ∧ tt σ2 H2 fun b H3 => if b = true then te σ2 H3 R else S H3)
    (hd : ∀ H, Same H1 H → H D = some (.lst (acc n)) → Qd H) : ∃ W : Nat → Nat → Hp → Prop, (∃ m, W 0 m (upd H1 D (.lst []))) ∧ ∀ i m H, W i m H →
      (J.stop i H ∧ Qd H) ∨ (J.go i H ∧ ∃ Nx : Hp → Prop, (∀ H', Nx H' → ∃ m', m' < m ∧ W (i + 1) m' H') ∧ ∀ x H', J.yld i H x H' → g x (wipe σ vs) H' fun σ2 H2 => wipe σ2 vs = wipe σ vs ∧ tt σ2 H2 fun b H3 =>
        if b = true then te σ2 H3 fun y H4 => ∃ acc, H4 D = some (.lst acc) ∧ acc.length < sizeLine ∧ Nx (upd H4 D (.lst (acc ++ [y]))) else Nx H3) := by
  refine lc_it w (fun i H => Same H1 H ∧ H D = some (.lst (acc i))) ⟨fun b o e => ?_, ?_⟩ (fun i H _ p => hG H p.1) ?_ (fun H p => hd H p.1 p.2)
  · rw [upd_ne (ne_of_none e hD)]
    exact e
  · rw [upd_same, h0]
  · rintro i v H H' hi ⟨s1, hl⟩ ⟨T, x, y, rfl, hT, rfl, ex, ey⟩
    have sT := same_new (o := .tup [x, y]) hT
    refine hs i T x y _ hi ex ey (s1.trans sT) upd_same _ _ (fun z H4 e s2 => ⟨acc i, s2 _ _ (sT _ _ hl), hz i hi, ⟨fun b o eb => ?_, by rw [upd_same, e]⟩⟩) (fun H3 e s2 => ⟨s1.trans (sT.trans s2), by rw [e]; exact s2 _ _ (sT _ _ hl)⟩)
    rw [upd_ne (ne_of_none eb hD)]
    exact s2 _ _ (sT _ _ (s1 _ _ eb))
/-! ### l.count(x), texts -/
section
variable {X : Cx}
def rCntS (K : PySem.W.Frag) : V → List V → Hp → VK → Prop := fun x xs H Q => ∃ (p : Addr) (ss : List Str) (z : Str), x = .ref p ∧ xs = [.str z] ∧ SqL K H p (ss.map V.str) ∧ Q (.int ((ss.filter fun w => decide (w = z)).length : Nat)) H
theorem countP_strs (z : Str) : ∀ {ss : List Str} {us : List Value}, Vals (ss.map V.str) us → us.countP (eqU (.str z)) = (ss.filter fun w => decide (w = z)).length
  | [], _, .nil => rfl
  | s :: r, _, .cons ⟨t, e⟩ k => by
    subst e
    have ih := countP_strs z k
    have e1 : eqU (.str z) (Value.str s t) = decide (s = z) := by
      show (s == z) = decide (s = z)
      rw [Bool.eq_iff_iff, beq_iff_eq, decide_eq_true_iff]
    rw [List.countP_cons, ih, e1, List.filter_cons]
    by_cases h : s = z
    · simp [h]
    · simp [h]
theorem mt_countS : MtR X "list.count" (rCntS X.K) := by
  intro pins s σ H x xs v us Q I rx rxs h
  obtain ⟨p, ss, z, rfl, rfl, hs, q⟩ := h
  cases rx
  obtain ⟨u, hu1, t, hu2⟩ := vals1 rxs
  subst hu1
  subst hu2
  obtain ⟨its, rv, pl, _⟩ := I.list hs
  obtain ⟨⟨cls, dd, data, sl⟩, n, ho, hc, _, hd⟩ := pl
  simp only at hc hd
  subst hc hd
  refine call_meets PySem.F.slot_list_count ⟨_, ho, rfl⟩ PySem.F.entry_list_count (PySem.F.args_list_count_2 _ _)
    (SeqAt.list_countAt p its.toArray n dd sl (.str z t) (eqU (.str z))) ⟨ho, fun y hy => (mem_eqAt (x := .str z) ⟨t, rfl⟩ rfl rv (flat_strs ss) y (by simpa using hy)), ?_⟩
  refine ⟨.int ((ss.filter fun w => decide (w = z)).length : Nat), H, I.tok _, ⟨s.toks, ?_⟩, q⟩
  show Value.int ((its.toArray.toList.countP (eqU (.str z)) : Nat) : Int) s.toks = _
  have e : its.toArray.toList.countP (eqU (.str z)) = (ss.filter fun w => decide (w = z)).length := countP_strs z (by simpa using rv)
  rw [e]
end
/-! base 2 -/
/-! ### strengths -/
abbrev Pr := Str × Str
def prD (p : Pr) : PyData := .tuple [.str p.1, .str p.2]
def strOf : PyData → Str
  | .str s => s
  | _ => Str.empty
/-- items of a list that may be looked at one by one -/
def Its (K : PySem.W.Frag) (H : Hp) (xs : List V) (ds : List PyData) : Prop := DpAll K H xs ds ∧ ds.length ≤ 200000 ∧ ∀ d ∈ ds, (d.canLay0 = true ∧ d.depth ≤ 60) ∧ ∀ s, d = .str s → s.length ≤ 100000
theorem Its.mono {K : PySem.W.Frag} {H H' : Hp} {xs : List V} {ds : List PyData} (s : Same H H') (h : Its K H xs ds) : Its K H' xs ds := ⟨dpAll_mono s h.1, h.2⟩
theorem Its.sh {K : PySem.W.Frag} {H : Hp} {xs : List V} {ds : List PyData} (h : Its K H xs ds) {d : PyData} (hd : d ∈ ds) : SeqAt.shaped d = true := shaped_iff.mpr ⟨(h.2.2 d hd).1.1, Nat.le_trans (h.2.2 d hd).1.2 (by decide)⟩
theorem Its.vd {K : PySem.W.Frag} {H : Hp} {xs : List V} {ds : List PyData} (h : Its K H xs ds) {i : Nat} {x : V} (hx : xs[i]? = some x) : ∃ d, ds[i]? = some d ∧ d ∈ ds ∧ VD K H x (some d) ∧ Dp K H x d := by
  obtain ⟨d, hd, v⟩ := dpAll_get h.1 hx
  have hm := List.mem_of_getElem? hd
  exact ⟨d, hd, hm, .dat v (h.sh hm) (h.2.2 d hm).2, v⟩
theorem nameO_str {d : PyData} (h : nameO (some d) = true) : ∃ s, d = .str s := by
  cases d with
  | str s => exact ⟨s, rfl⟩
  | _ => cases h
theorem kit_l {K : PySem.W.Frag} (o : Option PyData) : PySem.W.kitOne K (.type (tyO o)) (.type "list") = some (isT "list" o) := by
  have h := tyO_mem o
  unfold isT
  generalize tyO o = nm at h ⊢
  rcases h with rfl | rfl | rfl | rfl | rfl | rfl | rfl
  all_goals exact kit_ty (by decide +kernel)
/-- names one by one: the first that is none (1), or that came before (2) -/
def scanM : List V → List PyData → List Str → Option (Nat × V)
  | x :: xs, d :: ds, seen => if nameO (some d) = true then (if strOf d ∈ seen then some (2, x) else scanM xs ds (seen ++ [strOf d])) else some (1, x)
  | _, _, _ => none
/-- where names have been looked through -/
theorem scan_at : ∀ (xs : List V) (ds : List PyData) (seen : List Str) (i : Nat), xs.length = ds.length → i ≤ ds.length → (∀ j, j < i → ∀ d, ds[j]? = some d → nameO (some d) = true ∧ strOf d ∉ seen ++ (ds.take j).map strOf) →
    scanM xs ds seen = scanM (xs.drop i) (ds.drop i) (seen ++ (ds.take i).map strOf)
  | _, _, seen, 0, _, _, _ => by simp
  | [], [], seen, i + 1, _, h, _ => by simp at h
  | x :: xs, d :: ds, seen, i + 1, hl, hi, h => by
    have h0 := h 0 (Nat.succ_pos i) d rfl
    rw [List.take_zero, List.map_nil, List.append_nil] at h0
    have e : scanM (x :: xs) (d :: ds) seen = scanM xs ds (seen ++ [strOf d]) := by
      show (if _ then (if _ then _ else _) else _) = _
      rw [if_pos h0.1, if_neg h0.2]
    rw [e, scan_at xs ds (seen ++ [strOf d]) i (by simpa using hl) (by simpa using hi) fun j hj d' hd' => ?_]
    · simp
    · have := h (j + 1) (Nat.succ_lt_succ hj) d' hd'
      simpa using this
theorem scan_one {x : V} {xs : List V} {d : PyData} {ds : List PyData} {seen : List Str} : scanM (x :: xs) (d :: ds) seen = if nameO (some d) = true then (if strOf d ∈ seen then some (2, x) else scanM xs ds (seen ++ [strOf d])) else some (1, x) := rfl
/-- a list of names, all different -/
theorem scan_ok : ∀ (ms : List Str) (seen : List Str), (∀ s ∈ ms, nameS s = true) → ms.Nodup → (∀ s ∈ ms, s ∉ seen) → scanM (ms.map V.str) (ms.map PyData.str) seen = none
  | [], _, _, _, _ => rfl
  | s :: r, seen, h1, h2, h3 => by
    show (if _ then (if _ then _ else _) else _) = _
    rw [if_pos (show nameO (some (.str s)) = true from h1 s List.mem_cons_self), if_neg (show strOf (.str s) ∉ seen from h3 s List.mem_cons_self)]
    obtain ⟨n1, n2⟩ := List.nodup_cons.mp h2
    refine scan_ok r (seen ++ [s]) (fun t ht => h1 t (List.mem_cons_of_mem _ ht)) n2 fun t ht hm => ?_
    rcases List.mem_append.mp hm with q | q
    · exact h3 t (List.mem_cons_of_mem _ ht) q
    · rw [List.mem_singleton.mp q] at ht
      exact n1 ht
theorem scan_names {K : PySem.W.Frag} {H : Hp} : ∀ {xs : List V} {ds : List PyData} (seen : List Str), DpAll K H xs ds → scanM xs ds seen = none → ∃ ms : List Str, xs = ms.map V.str ∧ ds = ms.map PyData.str ∧ (∀ s ∈ ms, nameS s = true ∧ s ∉ seen) ∧ ms.Nodup
  | _, _, _, .nil, _ => ⟨[], rfl, rfl, fun s h => (List.not_mem_nil h).elim, List.nodup_nil⟩
  | _, _, seen, .cons (v := v) (d := d) a b, h => by
    rw [scan_one] at h
    by_cases c1 : nameO (some d) = true
    · rw [if_pos c1] at h
      by_cases c2 : strOf d ∈ seen
      · rw [if_pos c2] at h
        cases h
      · rw [if_neg c2] at h
        obtain ⟨s, rfl⟩ := nameO_str c1
        cases a
        obtain ⟨ms, rfl, rfl, k1, k2⟩ := scan_names _ b h
        refine ⟨s :: ms, rfl, rfl, fun t ht => ?_, List.nodup_cons.mpr ⟨fun q => (k1 s q).2 (List.mem_append_right _ List.mem_cons_self), k2⟩⟩
        rcases List.mem_cons.mp ht with rfl | q
        · exact ⟨c1, c2⟩
        · exact ⟨(k1 t q).1, fun z => (k1 t q).2 (List.mem_append_left _ z)⟩
    · rw [if_neg c1] at h
      cases h
def sp_req (K : PySem.W.Frag) (f : Option PyData → Bool) (C : Addr) (fld : Str) : Sp := fun vs H Q E => ∃ (v : V) (o : Option PyData), vs = [v] ∧ VD K H v o ∧ (f o = true → ∀ H', Same H H' → Q .non H') ∧ (f o = false → Rz H E C fld v)
/-- the six classes' fields -/
def fld6 (n : Nat) : Str := if n = 2 ∨ n = 5 then "name" else "value"
def Ex6 (H : Hp) (E : XK) (Cs : Nat → Addr) (r : Nat × V) : Prop := Rz H E (Cs r.1) (fld6 r.1) r.2
/-- modes that are handed in: what is wrong with them, or the modes -/
inductive MArg (K : PySem.W.Frag) (H : Hp) : V → Option (Nat × V) → List Str → Prop
  | nol {v : V} {o : Option PyData} : VD K H v o → isT "list" o = false → MArg K H v (some (0, v)) []
  | bad {l : Addr} {xs : List V} {ds : List PyData} {r : Nat × V} : SqL K H l xs → Its K H xs ds → scanM xs ds [] = some r → MArg K H (.ref l) (some r) []
  | len {l : Addr} {xs : List V} {ds : List PyData} : SqL K H l xs → Its K H xs ds → scanM xs ds [] = none → ¬ (1 ≤ xs.length ∧ xs.length ≤ 8) → MArg K H (.ref l) (some (0, .ref l)) []
  | ok {l : Addr} {ms : List Str} : SqL K H l (ms.map V.str) → (∀ s ∈ ms, nameS s = true) → ms.Nodup → 1 ≤ ms.length ∧ ms.length ≤ 8 → MArg K H (.ref l) none ms
theorem MArg.mono {K : PySem.W.Frag} {H H' : Hp} {v : V} {r : Option (Nat × V)} {ms : List Str} (s : Same H H') (h : MArg K H v r ms) : MArg K H' v r ms := by
  cases h with
  | nol a b => exact .nol (a.mono s) b
  | bad a b c => exact .bad (s.seq a) (b.mono s) c
  | len a b c d => exact .len (s.seq a) (b.mono s) c d
  | ok a b c d => exact .ok (s.seq a) b c d
def sp_rmodes (K : PySem.W.Frag) (Cs : Nat → Addr) : Sp := fun vs H Q E => ∃ (v : V) (r : Option (Nat × V)) (ms : List Str), vs = [v] ∧ MArg K H v r ms ∧ (r = none → ∀ H', Same H H' → Q .non H') ∧ ∀ q, r = some q → Ex6 H E Cs q
theorem nameS_len {s : Str} (h : nameS s = true) : s.length ≤ 8 := by
  unfold nameS at h
  rw [Bool.and_eq_true, Bool.and_eq_true, Bool.and_eq_true, decide_eq_true_iff, decide_eq_true_iff] at h
  omega
theorem nameS_ok {s : Str} (h : nameS s = true) : PyData.strOk s = true := by
  unfold nameS at h
  rw [Bool.and_eq_true, Bool.and_eq_true, Bool.and_eq_true] at h
  refine strOk_iff.mpr fun c hc => ?_
  have := List.all_eq_true.mp h.2.2.2 c hc
  rw [okSign_is, decide_eq_true_iff] at this
  have all : ∀ c ∈ ("abcdefghijklmnopqrstuvwxyz" : Str).cps.toList, c < 0x110000 := by decide +kernel
  exact all c this
theorem its_names {K : PySem.W.Frag} {H : Hp} {ms : List Str} (h : ∀ s ∈ ms, nameS s = true) (l : ms.length ≤ 100) : Its K H (ms.map V.str) (ms.map PyData.str) := by
  refine ⟨dpAll_strs ms, by rw [List.length_map]; exact Nat.le_trans l (by decide), fun d hd => ?_⟩
  obtain ⟨s, hs, rfl⟩ := List.mem_map.mp hd
  refine ⟨⟨?_, by simp [PyData.depth]⟩, fun t e => ?_⟩
  · simp only [PyData.canLay0]
    exact nameS_ok (h s hs)
  · injection e with e
    rw [← e]
    exact Nat.le_trans (nameS_len (h s hs)) (by decide)
theorem scan_here {xs : List V} {ds : List PyData} {i : Nat} {x : V} {d : PyData} (hl : xs.length = ds.length) (hx : xs[i]? = some x) (hd : ds[i]? = some d) (h : ∀ j, j < i → ∀ d, ds[j]? = some d → nameO (some d) = true ∧ strOf d ∉ (ds.take j).map strOf) :
    scanM xs ds [] = if nameO (some d) = true then (if strOf d ∈ (ds.take i).map strOf then some (2, x) else scanM (xs.drop (i + 1)) (ds.drop (i + 1)) ((ds.take i).map strOf ++ [strOf d])) else some (1, x) := by
  have hi := (List.getElem?_eq_some_iff.mp hd).1
  have hi2 := (List.getElem?_eq_some_iff.mp hx).1
  rw [scan_at xs ds [] i hl (Nat.le_of_lt hi) fun j hj d' hd' => by
    have := h j hj d' hd'
    exact ⟨this.1, by simpa using this.2⟩]
  have e1 : xs.drop i = x :: xs.drop (i + 1) := by
    rw [List.drop_eq_getElem_cons hi2]
    congr 1
    exact (List.getElem?_eq_some_iff.mp hx).2
  have e2 : ds.drop i = d :: ds.drop (i + 1) := by
    rw [List.drop_eq_getElem_cons hi]
    congr 1
    exact (List.getElem?_eq_some_iff.mp hd).2
  rw [e1, e2, List.nil_append]
  exact scan_one
theorem scan_end {xs : List V} {ds : List PyData} (hl : xs.length = ds.length) (h : ∀ j, j < ds.length → ∀ d, ds[j]? = some d → nameO (some d) = true ∧ strOf d ∉ (ds.take j).map strOf) : scanM xs ds [] = none := by
  rw [scan_at xs ds [] ds.length hl (Nat.le_refl _) fun j hj d' hd' => by
    have := h j hj d' hd'
    exact ⟨this.1, by simpa using this.2⟩]
  rw [List.drop_length, List.drop_of_length_le (by omega)]
  rfl
theorem MArg.ways {K : PySem.W.Frag} {H : Hp} {v : V} {r : Option (Nat × V)} {ms : List Str} (h : MArg K H v r ms) : (∃ o, VD K H v o ∧ isT "list" o = false ∧ r = some (0, v)) ∨
    ∃ l xs ds, v = .ref l ∧ SqL K H l xs ∧ Its K H xs ds ∧ ((∃ q, r = some q ∧ scanM xs ds [] = some q) ∨ (scanM xs ds [] = none ∧ ((1 ≤ xs.length ∧ xs.length ≤ 8 ∧ r = none) ∨ (¬ (1 ≤ xs.length ∧ xs.length ≤ 8) ∧ r = some (0, v))))) := by
  cases h with
  | nol a b => exact .inl ⟨_, a, b, rfl⟩
  | bad a b c => exact .inr ⟨_, _, _, rfl, a, b, .inl ⟨_, rfl, c⟩⟩
  | len a b c d => exact .inr ⟨_, _, _, rfl, a, b, .inr ⟨c, .inr ⟨d, rfl⟩⟩⟩
  | ok a b c d => exact .inr ⟨_, _, _, rfl, a, its_names b (by omega), .inr ⟨scan_ok _ _ b c fun s _ h => (List.not_mem_nil h).elim, .inl ⟨by rw [List.length_map]; exact d.1, by rw [List.length_map]; exact d.2, rfl⟩⟩⟩
/-- items ahead of i that are names -/
theorem its_take {K : PySem.W.Frag} {H : Hp} {xs : List V} {ds : List PyData} (h : DpAll K H xs ds) (i : Nat) (hn : ∀ j, j < i → ∀ d, ds[j]? = some d → nameO (some d) = true) : xs.take i = ((ds.take i).map strOf).map V.str := by
  have key : ∀ {xs : List V} {ds : List PyData}, DpAll K H xs ds → (∀ d ∈ ds, nameO (some d) = true) → xs = (ds.map strOf).map V.str := fun {xs ds} h => by
    induction xs generalizing ds with
    | nil =>
      cases h
      exact fun _ => rfl
    | cons x r ih =>
      cases h with
      | cons a b =>
        intro hn
        obtain ⟨s, rfl⟩ := nameO_str (hn _ List.mem_cons_self)
        cases a
        rw [ih b fun d hd => hn d (List.mem_cons_of_mem _ hd)]
        rfl
  refine key (dpAll_take i h) fun d hd => ?_
  obtain ⟨j, hj, e⟩ := List.mem_iff_getElem.mp hd
  rw [List.length_take] at hj
  refine hn j (by omega) d ?_
  rw [List.getElem_take] at e
  rw [← e]
  exact List.getElem?_eq_getElem (by omega)
theorem Ex6.back {H H1 : Hp} {E : XK} {Cs : Nat → Addr} {r : Nat × V} (s : Same H H1) (h : Ex6 H E Cs r) : Ex6 H1 E Cs r := Rz.back s h
/-! ### clashes handed in -/
def modeB (ms : List Str) (e : PyData) : Bool := (ms.map PyData.str).any fun z => PyData.eqv z e
/-- items one by one: the first that is no pair (4), or the first of a pair that is no mode (5) -/
inductive ClS (K : PySem.W.Frag) (H : Hp) (ms : List Str) : List V → List PyData → Option (Nat × V) → List Pr → Prop
  | nil : ClS K H ms [] [] none []
  | odd {x : V} {xs : List V} {d : PyData} {ds : List PyData} : Dp K H x d → (isT "tuple" (some d) = false ∨ ∃ es, d = .tuple es ∧ es.length ≠ 2) → ClS K H ms (x :: xs) (d :: ds) (some (4, x)) []
  | one {t : Addr} {y1 y2 : V} {xs : List V} {e1 e2 : PyData} {ds : List PyData} : SqT K H t [y1, y2] → Dp K H y1 e1 → Dp K H y2 e2 → modeB ms e1 = false → ClS K H ms (.ref t :: xs) (.tuple [e1, e2] :: ds) (some (5, y1)) []
  | two {t : Addr} {y1 y2 : V} {xs : List V} {e1 e2 : PyData} {ds : List PyData} : SqT K H t [y1, y2] → Dp K H y1 e1 → Dp K H y2 e2 → modeB ms e1 = true → modeB ms e2 = false → ClS K H ms (.ref t :: xs) (.tuple [e1, e2] :: ds) (some (5, y2)) []
  | ok {t : Addr} {a b : Str} {xs : List V} {ds : List PyData} {r : Option (Nat × V)} {ps : List Pr} : SqT K H t [.str a, .str b] → a ∈ ms → b ∈ ms → ClS K H ms xs ds r ps → ClS K H ms (.ref t :: xs) (prD (a, b) :: ds) r ((a, b) :: ps)
theorem ClS.mono {K : PySem.W.Frag} {H H' : Hp} {ms : List Str} {xs : List V} {ds : List PyData} {r : Option (Nat × V)} {ps : List Pr} (s : Same H H') (h : ClS K H ms xs ds r ps) : ClS K H' ms xs ds r ps := by
  induction h with
  | nil => exact .nil
  | odd a b => exact .odd (dp_mono s a) b
  | one a b c d => exact .one (same_t s a) (dp_mono s b) (dp_mono s c) d
  | two a b c d e => exact .two (same_t s a) (dp_mono s b) (dp_mono s c) d e
  | ok a b c _ ih => exact .ok (same_t s a) b c ih
theorem modeB_iff (ms : List Str) (e : PyData) : modeB ms e = true ↔ ∃ s ∈ ms, e = .str s := by
  unfold modeB
  rw [List.any_eq_true]
  constructor
  · rintro ⟨z, hz, h⟩
    obtain ⟨s, hs, rfl⟩ := List.mem_map.mp hz
    cases e with
    | str t =>
      have : s = t := by simpa [PyData.eqv] using h
      rw [← this]
      exact ⟨s, hs, rfl⟩
    | _ => simp [PyData.eqv] at h
  · rintro ⟨s, hs, rfl⟩
    exact ⟨.str s, List.mem_map.mpr ⟨s, hs, rfl⟩, by simp [PyData.eqv]⟩
/-- every list of data has such an outcome -/
theorem clS_all {K : PySem.W.Frag} {H : Hp} (ms : List Str) : ∀ {xs : List V} {ds : List PyData}, DpAll K H xs ds → ∃ r ps, ClS K H ms xs ds r ps
  | _, _, .nil => ⟨none, [], .nil⟩
  | _, _, .cons (v := v) (d := d) a b => by
    obtain ⟨r, ps, h⟩ := clS_all ms b
    cases e : isT "tuple" (some d) with
    | false => exact ⟨_, _, .odd a (.inl e)⟩
    | true =>
      cases a with
      | tup sq dp =>
        rename_i t ys es
        by_cases l : es.length = 2
        · obtain ⟨y1, y2, e1, e2, rfl, rfl, d1, d2⟩ := dp_two dp ((dpAll_len dp).trans l)
          cases m1 : modeB ms e1 with
          | false => exact ⟨_, _, .one sq d1 d2 m1⟩
          | true =>
            cases m2 : modeB ms e2 with
            | false => exact ⟨_, _, .two sq d1 d2 m1 m2⟩
            | true =>
              obtain ⟨s1, h1, rfl⟩ := (modeB_iff ms e1).mp m1
              obtain ⟨s2, h2, rfl⟩ := (modeB_iff ms e2).mp m2
              cases d1
              cases d2
              exact ⟨_, _, .ok sq h1 h2 h⟩
        · exact ⟨_, _, .odd (.tup sq dp) (.inr ⟨_, rfl, l⟩)⟩
      | _ => cases e
/-- clashes that are handed in with modes: what is wrong with them, or the pairs -/
inductive CArg (K : PySem.W.Frag) (H : Hp) (ms : List Str) : V → Option (Nat × V) → List Pr → Prop
  | nol {v : V} {o : Option PyData} : VD K H v o → isT "list" o = false → CArg K H ms v (some (3, v)) []
  | lst {l : Addr} {xs : List V} {ds : List PyData} {r : Option (Nat × V)} {ps : List Pr} : SqL K H l xs → Its K H xs ds → ClS K H ms xs ds r ps → CArg K H ms (.ref l) r ps
theorem CArg.mono {K : PySem.W.Frag} {H H' : Hp} {ms : List Str} {v : V} {r : Option (Nat × V)} {ps : List Pr} (s : Same H H') (h : CArg K H ms v r ps) : CArg K H' ms v r ps := by
  cases h with
  | nol a b => exact .nol (a.mono s) b
  | lst a b c => exact .lst (s.seq a) (b.mono s) (c.mono s)
def sp_rclash (K : PySem.W.Frag) (Cs : Nat → Addr) : Sp := fun vs H Q E => ∃ (v : V) (l : Addr) (r : Option (Nat × V)) (ms : List Str) (ps : List Pr), vs = [v, .ref l] ∧ SqL K H l (ms.map V.str) ∧ (∀ s ∈ ms, nameS s = true) ∧ ms.length ≤ 8 ∧ CArg K H ms v r ps ∧ (r = none → ∀ H', Same H H' → Q .non H') ∧ ∀ q, r = some q → Ex6 H E Cs q
theorem ClS.ways {K : PySem.W.Frag} {H : Hp} {ms : List Str} {x : V} {xs : List V} {d : PyData} {ds : List PyData} {r : Option (Nat × V)} {ps : List Pr} (h : ClS K H ms (x :: xs) (d :: ds) r ps) :
    (Dp K H x d ∧ (isT "tuple" (some d) = false ∨ ∃ es, d = .tuple es ∧ es.length ≠ 2) ∧ r = some (4, x)) ∨ ∃ t y1 y2 e1 e2, x = .ref t ∧ d = .tuple [e1, e2] ∧ SqT K H t [y1, y2] ∧ Dp K H y1 e1 ∧ Dp K H y2 e2 ∧ (modeB ms e1 = false → r = some (5, y1)) ∧ (modeB ms e1 = true → modeB ms e2 = false → r = some (5, y2)) ∧
      (modeB ms e1 = true → modeB ms e2 = true → ∃ ps', ClS K H ms xs ds r ps') := by
  cases h with
  | odd a b => exact .inl ⟨a, b, rfl⟩
  | one a b c e => exact .inr ⟨_, _, _, _, _, rfl, rfl, a, b, c, (fun _ => rfl), (fun z => by rw [e] at z; cases z), fun z => by rw [e] at z; cases z⟩
  | two a b c e f => exact .inr ⟨_, _, _, _, _, rfl, rfl, a, b, c, (fun z => by rw [e] at z; cases z), (fun _ _ => rfl), fun _ z => by rw [f] at z; cases z⟩
  | ok a b c e =>
    have m1 := (modeB_iff ms (.str _)).mpr ⟨_, b, rfl⟩
    have m2 := (modeB_iff ms (.str _)).mpr ⟨_, c, rfl⟩
    exact .inr ⟨_, _, _, _, _, rfl, rfl, a, .str _, .str _, (fun z => by rw [m1] at z; cases z), (fun _ z => by rw [m2] at z; cases z), fun _ _ => ⟨_, e⟩⟩
theorem drop_cons {α : Type} {xs : List α} {i : Nat} {x : α} (h : xs[i]? = some x) : xs.drop i = x :: xs.drop (i + 1) := by
  have hi := (List.getElem?_eq_some_iff.mp h).1
  rw [List.drop_eq_getElem_cons hi]
  congr 1
  exact (List.getElem?_eq_some_iff.mp h).2
theorem sh_names {ms : List Str} (h : ∀ s ∈ ms, nameS s = true) : SeqAt.shaped (.list (ms.map PyData.str)) = true := shaped_list (n := 0) (by decide) fun d hd => by
  obtain ⟨s, hs, rfl⟩ := List.mem_map.mp hd
  refine ⟨?_, by simp [PyData.depth]⟩
  simp only [PyData.canLay0]
  exact nameS_ok (h s hs)
def adj (ps : List Pr) (a b : Str) : Bool := decide ((a, b) ∈ ps) || decide ((b, a) ∈ ps)
def ag (ms : List Str) (ps : List Pr) (m : Str) : List Str := ms.filter (adj ps m)
theorem eqv_prD (p q : Pr) : PyData.eqv (prD p) (prD q) = decide (p = q) := by
  obtain ⟨a, b⟩ := p
  obtain ⟨c, d⟩ := q
  rw [Bool.eq_iff_iff, decide_eq_true_iff]
  simp [prD, PyData.eqv, PyData.eqvAll, Prod.mk.injEq]
theorem any_prD (ps : List Pr) (p : Pr) : ((ps.map prD).any fun z => PyData.eqv z (prD p)) = decide (p ∈ ps) := by
  rw [Bool.eq_iff_iff, List.any_eq_true, decide_eq_true_iff]
  constructor
  · rintro ⟨z, hz, e⟩
    obtain ⟨q, hq, rfl⟩ := List.mem_map.mp hz
    rw [eqv_prD, decide_eq_true_iff] at e
    rw [← e]
    exact hq
  · exact fun h => ⟨prD p, List.mem_map.mpr ⟨p, h, rfl⟩, by rw [eqv_prD]; exact decide_eq_true rfl⟩
theorem ClS.fine {K : PySem.W.Frag} {H : Hp} {ms : List Str} : ∀ {xs : List V} {ds : List PyData} {ps : List Pr}, ClS K H ms xs ds none ps → ds = ps.map prD ∧ ∀ p ∈ ps, p.1 ∈ ms ∧ p.2 ∈ ms := by
  intro xs ds ps h
  generalize hr : (none : Option (Nat × V)) = r at h
  induction h with
  | nil => exact ⟨rfl, fun p h => (List.not_mem_nil h).elim⟩
  | odd a b => cases hr
  | one a b c d => cases hr
  | two a b c d e => cases hr
  | ok a b c _ ih =>
    obtain ⟨h1, h2⟩ := ih hr
    refine ⟨by rw [h1]; rfl, fun p hp => ?_⟩
    rcases List.mem_cons.mp hp with rfl | q
    · exact ⟨b, c⟩
    · exact h2 p q
def okPs (ms : List Str) (ps : List Pr) : Prop := ps.length ≤ 200000 ∧ ∀ p ∈ ps, p.1 ∈ ms ∧ p.2 ∈ ms
theorem prD_can {ms : List Str} (hm : ∀ s ∈ ms, nameS s = true) {p : Pr} (h : p.1 ∈ ms ∧ p.2 ∈ ms) : (prD p).canLay0 = true ∧ (prD p).depth ≤ 1 := by
  constructor
  · simp only [prD, PyData.canLay0]
    refine canAll_mem.mpr fun d hd => ?_
    simp only [List.mem_cons, List.not_mem_nil, or_false] at hd
    rcases hd with rfl | rfl
    · simp only [PyData.canLay0]
      exact nameS_ok (hm _ h.1)
    · simp only [PyData.canLay0]
      exact nameS_ok (hm _ h.2)
  · have : PyData.depthAll [PyData.str p.1, .str p.2] ≤ 0 := depthAll_le fun d hd => by
      simp only [List.mem_cons, List.not_mem_nil, or_false] at hd
      rcases hd with rfl | rfl
      all_goals simp [PyData.depth]
    simp only [prD, PyData.depth]
    omega
theorem prs_sh {ms : List Str} (hm : ∀ s ∈ ms, nameS s = true) {ps : List Pr} (h : ∀ p ∈ ps, p.1 ∈ ms ∧ p.2 ∈ ms) : SeqAt.shaped (.list (ps.map prD)) = true := shaped_list (n := 1) (by decide) fun d hd => by
  obtain ⟨p, hp, rfl⟩ := List.mem_map.mp hd
  exact prD_can hm (h p hp)
def sp_cmodes (K : PySem.W.Frag) : Sp := fun vs H Q _ => ∃ (m : Str) (l lc : Addr) (ms : List Str) (ps : List Pr) (xs : List V), vs = [.str m, .ref l, .ref lc] ∧ SqL K H l (ms.map V.str) ∧ (∀ s ∈ ms, nameS s = true) ∧ ms.length ≤ 8 ∧ m ∈ ms ∧ SqL K H lc xs ∧ DpAll K H xs (ps.map prD) ∧ okPs ms ps ∧
  ∀ H' q, Same H H' → H q = none → H' q = some (.lst ((ag ms ps m).map V.str)) → Q (.ref q) H'
/-! ### objects -/
def strsL (ss : List Str) : PyData := .list (ss.map PyData.str)
def fsS (l d : Addr) : List (Str × V) := [("_modes", .ref l), ("_against", .ref d)]
/-- strengths stand at x: their modes, and what clashes with each of them -/
def StrAt (K : PySem.W.Frag) (C : Addr) (H : Hp) (x : Addr) (ms : List Str) (f : Str → List Str) : Prop := ∃ (dx l d : Addr) (kvs : List (Key × V)), H x = some (.ins C dx (fsS l d)) ∧ H l = some (.lst (ms.map V.str)) ∧ H d = some (.dK kvs) ∧ Ents K H kvs (ms.map fun m => (.inr m, strsL (f m)))
theorem StrAt.mono {K : PySem.W.Frag} {C : Addr} {H H' : Hp} {x : Addr} {ms : List Str} {f : Str → List Str} (s : Same H H') (h : StrAt K C H x ms f) : StrAt K C H' x ms f := by
  obtain ⟨dx, l, d, kvs, h1, h2, h3, h4⟩ := h
  exact ⟨dx, l, d, kvs, s _ _ h1, s _ _ h2, s _ _ h3, h4.mono s⟩
/-- strengths stand at x, all of them but x itself where nothing was in H0 -/
def StrOff (K : PySem.W.Frag) (C : Addr) (H0 H : Hp) (x : Addr) (ms : List Str) (f : Str → List Str) : Prop := ∀ G : Hp, (∀ b u, (H0 b = none ∨ b = x) → H b = some u → G b = some u) → StrAt K C G x ms f
theorem StrOff.at_ {K : PySem.W.Frag} {C : Addr} {H0 H : Hp} {x : Addr} {ms : List Str} {f : Str → List Str} (h : StrOff K C H0 H x ms f) : StrAt K C H x ms f := h H fun _ _ _ e => e
def offH (H H' : Hp) : Hp := fun b => if (H b).isNone = true then H' b else none
theorem offH_some {H H' : Hp} {b : Addr} {u : HO} (e : offH H H' b = some u) : H b = none ∧ H' b = some u := by
  unfold offH at e
  split at e
  · exact ⟨Option.isNone_iff_eq_none.mp (by assumption), e⟩
  · cases e
theorem offH_of {H H' : Hp} {b : Addr} (h : H b = none) : offH H H' b = H' b := by
  unfold offH
  rw [h]
  rfl
theorem offH_mono {H H1 H2 : Hp} (s : Same H1 H2) : Same (offH H H1) (offH H H2) := fun b u e => by
  obtain ⟨h1, h2⟩ := offH_some e
  rw [offH_of h1]
  exact s _ _ h2
theorem offH_upd {H H1 : Hp} {x : Addr} {o : HO} : Same (but (offH H H1) x) (but (offH H (upd H1 x o)) x) := fun b u e => by
  by_cases h : b = x
  · rw [h, but_same] at e
    cases e
  · rw [but_ne h] at e ⊢
    obtain ⟨h1, h2⟩ := offH_some e
    rw [offH_of h1, upd_ne h]
    exact h2
def sp_sinit (K : PySem.W.Frag) (C : Addr) (Cs : Nat → Addr) : Sp := fun vs H Q E => ∃ (x dx : Addr) (v1 v2 : V) (r1 : Option (Nat × V)) (ms : List Str), vs = [.ref x, v1, v2] ∧ H x = some (.ins C dx []) ∧ MArg K (but H x) v1 r1 ms ∧ (∀ q, r1 = some q → Ex6 H E Cs q) ∧
  (r1 = none → ∃ (r2 : Option (Nat × V)) (ps : List Pr), CArg K (but H x) ms v2 r2 ps ∧ (∀ q, r2 = some q → Ex6 H E Cs q) ∧ (r2 = none → ∀ H', (∀ b o, H b = some o → b ≠ x → H' b = some o) → StrOff K C H H' x ms (ag ms ps) → Q .non H'))
theorem fsS_eq (l d : Addr) : putF "_against" (.ref d) (putF "_modes" (.ref l) []) = fsS l d := by
  show (if ("_modes" : Str) = "_against" then _ else _) = _
  rw [if_neg (by decide +kernel)]
  rfl
theorem fsS_modes (l d : Addr) : (fsS l d).lookup ("_modes" : Str) = some (.ref l) := by simp [fsS, List.lookup]
theorem fsS_against (l d : Addr) : (fsS l d).lookup ("_against" : Str) = some (.ref d) := by
  have e : (("_against" : Str) == ("_modes" : Str)) = false := by decide +kernel
  simp [fsS, List.lookup, e]
theorem ag_len (ms : List Str) (ps : List Pr) (m : Str) : (ag ms ps m).length ≤ ms.length := List.length_filter_le _ _
theorem strsL_sh {ss : List Str} (h : ∀ s ∈ ss, nameS s = true) : SeqAt.shaped (strsL ss) = true := sh_names h
theorem Ents.snoc {K : PySem.W.Frag} {H : Hp} {ks : List (Key × V)} {ds : List (Key × PyData)} (h : Ents K H ks ds) {k : Key} {v : V} {d : PyData} (a : Dp K H v d) (b : SeqAt.shaped d = true) : Ents K H (ks ++ [(k, v)]) (ds ++ [(k, d)]) := by
  induction h with
  | nil => exact .cons a b .nil
  | cons p q _ ih => exact .cons p q ih
theorem Ents.keys {K : PySem.W.Frag} {H : Hp} {ks : List (Key × V)} {ds : List (Key × PyData)} (h : Ents K H ks ds) {k : Key} (hn : ∀ e ∈ ds, e.1 ≠ k) : valV ks k = none := by
  induction h with
  | nil => rfl
  | @cons j v d r rd a b c ih => rw [valV_neg (p := (j, v)) (hn (j, d) List.mem_cons_self)]; exact ih fun e he => hn e (List.mem_cons_of_mem _ he)
theorem Ents.back {K : PySem.W.Frag} {H H' : Hp} {ks : List (Key × V)} {ds : List (Key × PyData)} (h : Ents K H ks ds) (s : Same H H') : Ents K H' ks ds := h.mono s
theorem but_le (H : Hp) (x : Addr) : Same (but H x) H := fun b u e => by
  by_cases h : b = x
  · rw [h, but_same] at e
    cases e
  · rw [but_ne h] at e
    exact e
theorem but_of {H H' : Hp} {x : Addr} (s : Same H H') : Same (but H x) (but H' x) := fun b u e => by
  by_cases h : b = x
  · rw [h, but_same] at e
    cases e
  · rw [but_ne h] at e ⊢
    exact s _ _ e
theorem but_upd (H : Hp) (x : Addr) (o : HO) : Same (but H x) (but (upd H x o) x) := fun b u e => by
  by_cases h : b = x
  · rw [h, but_same] at e
    cases e
  · rw [but_ne h] at e ⊢
    rw [upd_ne h]
    exact e
theorem but_mut {H H' : Hp} {x : Addr} {o : HO} (s : Same (but H x) H') : Same (but H x) (upd H' x o) := fun b u e => by
  by_cases h : b = x
  · rw [h, but_same] at e
    cases e
  · rw [upd_ne h]
    exact s _ _ e
theorem keys_ne {ms : List Str} (nd : ms.Nodup) {i : Nat} {m : Str} (h : ms[i]? = some m) {f : Str → List Str} : ∀ e ∈ (ms.take i).map fun m => ((.inr m : Key), strsL (f m)), e.1 ≠ .inr m := by
  intro e he
  obtain ⟨a, ha, rfl⟩ := List.mem_map.mp he
  intro z
  have z : a = m := by injection z
  subst z
  obtain ⟨j, hj, e⟩ := List.mem_iff_getElem.mp ha
  rw [List.length_take] at hj
  rw [List.getElem_take] at e
  obtain ⟨hi, e2⟩ := List.getElem?_eq_some_iff.mp h
  have := (List.pairwise_iff_getElem.mp nd) j i (by omega) hi (by omega)
  exact this (e.trans e2.symm)
theorem dpAll_strs_of {K : PySem.W.Frag} {H : Hp} : ∀ {xs : List V} {ss : List Str}, DpAll K H xs (ss.map PyData.str) → xs = ss.map V.str
  | _, [], .nil => rfl
  | _, s :: r, .cons a b => by
    cases a
    rw [dpAll_strs_of b]
    rfl
theorem dp_strsL {K : PySem.W.Frag} {H : Hp} {v : V} {ss : List Str} (h : Dp K H v (strsL ss)) : ∃ a, v = .ref a ∧ SqL K H a (ss.map V.str) := by
  cases h with
  | lst h a =>
    rw [dpAll_strs_of a] at h
    exact ⟨_, rfl, h⟩
theorem findD_map (f : Str → List Str) {m : Str} : ∀ {ms : List Str}, m ∈ ms → findD (ms.map fun m => ((.inr m : Key), strsL (f m))) (.inr m) = some (strsL (f m))
  | a :: r, h => by
    show (if (.inr a : Key) = .inr m then _ else _) = _
    by_cases e : a = m
    · rw [if_pos (by rw [e]), e]
    · rw [if_neg fun z => e (by injection z)]
      rcases List.mem_cons.mp h with q | q
      · exact absurd q.symm e
      · exact findD_map f q
/-- what stands at a mode -/
theorem StrAt.look {K : PySem.W.Frag} {H : Hp} {kvs : List (Key × V)} {ms : List Str} {f : Str → List Str} (en : Ents K H kvs (ms.map fun m => (.inr m, strsL (f m)))) {m : Str} (hm : m ∈ ms) : ∃ a, valV kvs (.inr m) = some (.ref a) ∧ SqL K H a ((f m).map V.str) := by
  rcases en.at_ (.inr m) with ⟨_, e⟩ | ⟨v, d, e1, e2, dv, _⟩
  · rw [findD_map f hm] at e
    cases e
  · rw [findD_map f hm] at e2
    injection e2 with e2
    subst e2
    obtain ⟨a, rfl, h⟩ := dp_strsL dv
    exact ⟨a, e1, h⟩
def sp_smodes (K : PySem.W.Frag) (C : Addr) : Sp := fun vs H Q _ => ∃ (x : Addr) (ms : List Str) (f : Str → List Str), vs = [.ref x] ∧ StrAt K C H x ms f ∧ ∀ H' q, Same H H' → H q = none → H' q = some (.lst (ms.map V.str)) → Q (.ref q) H'
/-- the pairs with the first of some modes -/
def outP (f : Str → List Str) : List Str → List Pr
  | [] => []
  | m :: r => ((m :: r).filter fun o => decide (o ∈ f m)).map fun o => (m, o)
def prsA (f : Str → List Str) (ms : List Str) (i : Nat) : List Pr := ((List.range i).map fun j => outP f (ms.drop j)).flatten
def prsOf (f : Str → List Str) (ms : List Str) : List Pr := prsA f ms ms.length
theorem prsA_succ (f : Str → List Str) (ms : List Str) (i : Nat) : prsA f ms (i + 1) = prsA f ms i ++ outP f (ms.drop i) := by
  unfold prsA
  rw [List.range_succ, List.map_append, List.flatten_append]
  simp
theorem outP_at {f : Str → List Str} {ms : List Str} {i : Nat} {m : Str} (h : ms[i]? = some m) : outP f (ms.drop i) = ((ms.drop i).filter fun o => decide (o ∈ f m)).map fun o => (m, o) := by
  rw [drop_cons h]
  rfl
theorem prsA_len (f : Str → List Str) (ms : List Str) : ∀ i, (prsA f ms i).length ≤ i * ms.length
  | 0 => Nat.zero_le _
  | i + 1 => by
    have ih := prsA_len f ms i
    have : (outP f (ms.drop i)).length ≤ ms.length := by
      cases h : ms.drop i with
      | nil => exact Nat.zero_le _
      | cons m r =>
        show (((m :: r).filter _).map _).length ≤ _
        rw [List.length_map, ← h]
        exact Nat.le_trans (List.length_filter_le _ _) (by rw [List.length_drop]; omega)
    rw [prsA_succ, List.length_append, Nat.succ_mul]
    omega
def sp_sclash (K : PySem.W.Frag) (C : Addr) : Sp := fun vs H Q _ => ∃ (x : Addr) (ms : List Str) (f : Str → List Str), vs = [.ref x] ∧ StrAt K C H x ms f ∧ ms.length ≤ 9 ∧ ∀ H' q xs, Same H H' → H q = none → H' q = some (.lst xs) → DpAll K (but H' q) xs ((prsOf f ms).map prD) → Q (.ref q) H'
def eqStr (ms : List Str) (f : Str → List Str) (ms2 : List Str) (f2 : Str → List Str) : Bool := decide (ms = ms2) && ms.all fun m => decide (f m = f2 m)
theorem eqvAll_strs2 : ∀ (a b : List Str), PyData.eqvAll (a.map .str) (b.map .str) = decide (a = b)
  | [], [] => by simp [PyData.eqvAll]
  | [], _ :: _ => by simp [PyData.eqvAll]
  | _ :: _, [] => by simp [PyData.eqvAll]
  | x :: a, y :: b => by
    have ih := eqvAll_strs2 a b
    simp only [List.map_cons, PyData.eqvAll, ih, PyData.eqv]
    rw [Bool.eq_iff_iff]
    simp
theorem eqv_strsL (a b : List Str) : PyData.eqv (strsL a) (strsL b) = decide (a = b) := by
  have := eqvAll_strs2 a b
  simpa [strsL, PyData.eqv] using this
theorem ents_eq (ms : List Str) (f f2 : Str → List Str) : entsEq (ms.map fun m => ((.inr m : Key), strsL (f m))) (ms.map fun m => (.inr m, strsL (f2 m))) = ms.all fun m => decide (f m = f2 m) := by
  unfold entsEq
  rw [Bool.eq_iff_iff, List.all_eq_true, List.all_eq_true]
  constructor
  · intro h m hm
    have := h _ (List.mem_map.mpr ⟨m, hm, rfl⟩)
    rw [findD_map f2 hm] at this
    have this : PyData.eqv (strsL (f m)) (strsL (f2 m)) = true := this
    rw [eqv_strsL] at this
    exact this
  · intro h p hp
    obtain ⟨m, hm, rfl⟩ := List.mem_map.mp hp
    rw [findD_map f2 hm]
    show PyData.eqv (strsL (f m)) (strsL (f2 m)) = true
    rw [eqv_strsL]
    exact h m hm
def sp_seq (K : PySem.W.Frag) (C : Addr) : Sp := fun vs H Q _ => ∃ (x : Addr) (y : V) (ms : List Str) (f : Str → List Str), vs = [.ref x, y] ∧ StrAt K C H x ms f ∧ (∀ s ∈ ms, nameS s = true) ∧
  ((∃ t, TyX K H y (.type t) ∧ PySem.W.kitOne K (.type t) (.ref C) = some false ∧ Q (.bl false) H) ∨ ∃ (z : Addr) (ms2 : List Str) (f2 : Str → List Str), y = .ref z ∧ StrAt K C H z ms2 f2 ∧ (∀ s ∈ ms2, nameS s = true) ∧ Q (.bl (eqStr ms f ms2 f2)) H)
def prT (p : Pr) : Str := ((Str.empty ++ p.1) ++ ("!" : Str)) ++ p.2
def textM (ms : List Str) (ps : List Pr) : Str := Txt.join ": " ((([ms, ps.map prT] : List (List Str)).filter fun ws => decide (0 < ws.length)).map fun ws => Txt.join " " ws)
def sp_sstr (K : PySem.W.Frag) (C : Addr) : Sp := fun vs H Q _ => ∃ (x : Addr) (ms : List Str) (f : Str → List Str), vs = [.ref x] ∧ StrAt K C H x ms f ∧ (∀ s ∈ ms, nameS s = true) ∧ ms.length ≤ 9 ∧ ∀ H', Same H H' → Q (.str (textM ms (prsOf f ms))) H'
theorem dpAll_snoc {K : PySem.W.Frag} {H : Hp} {xs : List V} {ds : List PyData} {x : V} {d : PyData} (h : DpAll K H xs ds) (a : Dp K H x d) : DpAll K H (xs ++ [x]) (ds ++ [d]) := dpAll_app h (.cons a .nil)
theorem filt_take {f : Str → Bool} {ms : List Str} {j : Nat} {o : Str} (h : ms[j]? = some o) : (ms.take (j + 1)).filter f = (ms.take j).filter f ++ if f o = true then [o] else [] := by
  rw [List.take_add_one, h, List.filter_append]
  congr 1
  cases e : f o <;> simp [e]
theorem mem_outP {f : Str → List Str} {l : List Str} {p : Pr} (h : p ∈ outP f l) : ∃ m r, l = m :: r ∧ p.1 = m ∧ p.2 ∈ l ∧ p.2 ∈ f m := by
  cases l with
  | nil => cases h
  | cons m r =>
    obtain ⟨o, ho, rfl⟩ := List.mem_map.mp (show p ∈ ((m :: r).filter _).map _ from h)
    exact ⟨m, r, rfl, rfl, (List.mem_filter.mp ho).1, of_decide_eq_true (List.mem_filter.mp ho).2⟩
theorem mem_prsOf {f : Str → List Str} {ms : List Str} {p : Pr} (h : p ∈ prsOf f ms) : p.1 ∈ ms ∧ p.2 ∈ ms := by
  obtain ⟨l, hl, hp⟩ := List.mem_flatten.mp h
  obtain ⟨j, _, rfl⟩ := List.mem_map.mp hl
  obtain ⟨m, r, e, e1, e2, _⟩ := mem_outP hp
  refine ⟨?_, List.mem_of_mem_drop e2⟩
  rw [e1]
  exact List.mem_of_mem_drop (i := j) (by rw [e]; exact List.mem_cons_self)
theorem joinL_len : ∀ (sep : List Nat) (ps : List (List Nat)), (TL.joinL sep ps).length ≤ (ps.map List.length).sum + ps.length * sep.length
  | sep, [] => by simp [TL.joinL]
  | sep, [p] => by simp [TL.joinL]
  | sep, p :: q :: r => by
    have ih := joinL_len sep (q :: r)
    simp only [TL.joinL, List.map_cons, List.sum_cons, List.length_cons, List.length_append, Nat.add_mul, Nat.one_mul] at ih ⊢
    omega
theorem join_len (a : Str) (ys : List Str) : (Txt.join a ys).length ≤ (ys.map (·.length)).sum + ys.length * a.length := by
  have e : TL.tl (Txt.join a ys) = TL.joinL (TL.tl a) (ys.map TL.tl) := by rw [TL.join_eq, TL.tl_join]
  have h1 : (Txt.join a ys).length = (TL.tl (Txt.join a ys)).length := by simp [TL.tl, Str.length]
  have h2 := joinL_len (TL.tl a) (ys.map TL.tl)
  rw [h1, e]
  have h3 : (TL.tl a).length = a.length := by simp [TL.tl, Str.length]
  have h4 : (ys.map TL.tl).map List.length = ys.map (·.length) := by
    rw [List.map_map]
    refine List.map_congr_left fun y _ => ?_
    simp [TL.tl, Str.length]
  rw [h3, h4, List.length_map] at h2
  exact h2
theorem join_le {a : Str} {ys : List Str} {n m : Nat} (h : ∀ y ∈ ys, y.length ≤ n) (hl : ys.length ≤ m) (ha : a.length ≤ 2) : (ys.map (·.length)).sum + ys.length * a.length ≤ m * n + m * 2 := by
  have h1 := sum_le ys n h
  have h2 : ys.length * n ≤ m * n := Nat.mul_le_mul_right _ hl
  have h3 : ys.length * a.length ≤ m * 2 := Nat.mul_le_mul hl ha
  omega
theorem emp_app (a : Str) : Str.empty ++ a = a := TL.ext_tl (by rw [TL.tl_append]; rfl)
theorem fsS_no {l d : Addr} {m : Str} (h1 : (m == ("_modes" : Str)) = false) (h2 : (m == ("_against" : Str)) = false) : (fsS l d).lookup m = none := by simp [fsS, List.lookup, h1, h2]
theorem prs_at {K : PySem.W.Frag} {H : Hp} {xs : List V} {ps : List Pr} (h : DpAll K H xs (ps.map prD)) {i : Nat} {x : V} (hx : xs[i]? = some x) : ∃ t p, x = .ref t ∧ ps[i]? = some p ∧ SqT K H t [.str p.1, .str p.2] := by
  obtain ⟨d, hd, dp⟩ := dpAll_get h hx
  rw [List.getElem?_map] at hd
  obtain ⟨p, hp, rfl⟩ := Option.map_eq_some_iff.mp hd
  cases dp with
  | tup a b =>
    have e := dpAll_strs_of (ss := [p.1, p.2]) b
    rw [e] at a
    exact ⟨_, p, rfl, hp, a⟩
/-! ### strengths drawn, and what the top tells of them -/
theorem less_ok {G G1 H' : Hp} {p l : Addr} {n : Nat} (s : Same G G1) (b : BoxIn G1 H' p n) (h : G l = none) : Same G (but G1 l) ∧ BoxIn (but G1 l) H' p n := by
  refine ⟨fun x u e => ?_, ⟨fun x u e => ?_, ?_, b.box⟩⟩
  · rw [but_ne (ne_of_none e h)]
    exact s _ _ e
  · by_cases hx : x = l
    · rw [hx, but_same] at e
      cases e
    · rw [but_ne hx] at e
      exact b.same _ _ e
  · by_cases hx : p = l
    · rw [hx, but_same]
    · rw [but_ne hx]
      exact b.free
theorem ixN_nat {n : Nat} {z : Int} (h0 : 0 ≤ z) (h1 : z < n) : ixN n z = some z.toNat := by
  unfold ixN
  rw [if_pos h0, if_pos (by omega)]
theorem last_at {ys : List V} (h : ys ≠ []) : atI ys (-1) = some (ys.getLast h) := by
  have l : 0 < ys.length := List.length_pos_iff.mpr h
  unfold atI ixN
  have e : ((-1 : Int) + (ys.length : Int)).toNat = ys.length - 1 := by omega
  rw [if_neg (by decide), if_pos (by omega)]
  show ys[((-1 : Int) + (ys.length : Int)).toNat]? = _
  rw [e, ← List.getLast?_eq_getElem?, List.getLast?_eq_getLast h]
def Model (K : PySem.W.Frag) (H : Hp) (m l1 l2 : Addr) (ms : List Str) (ps : List Pr) : Prop := SqL K H m [.ref l1, .ref l2] ∧ SqL K H l1 (ms.map V.str) ∧ ∃ xs, SqL K H l2 xs ∧ DpAll K H xs (ps.map prD)
theorem Model.mono {K : PySem.W.Frag} {H H' : Hp} {m l1 l2 : Addr} {ms : List Str} {ps : List Pr} (s : Same H H') (h : Model K H m l1 l2 ms ps) : Model K H' m l1 l2 ms ps := by
  obtain ⟨a, b, xs, c, d⟩ := h
  exact ⟨s.seq a, s.seq b, xs, s.seq c, dpAll_mono s d⟩
def sp_lmodes (K : PySem.W.Frag) : Sp := fun vs H Q _ => ∃ (H0 : Hp) (p : Addr) (n : Nat), vs = [.ref p, .int 8] ∧ BoxIn H0 H p n ∧ n + 200 < 1000000 ∧
  ∀ (H1 H' : Hp) (m l1 l2 : Addr) (ms : List Str) (ps : List Pr) (xs : List V), Same H0 H1 → BoxIn H1 H' p (n + 200) → H1 m = some (.lst [.ref l1, .ref l2]) → H1 l1 = some (.lst (ms.map V.str)) → H1 l2 = some (.lst xs) → DpAll K H1 xs (ps.map prD) → (∀ s ∈ ms, nameS s = true ∧ s ≠ ("pqz" : Str) ∧ ZZ s) → ms.Nodup → 1 ≤ ms.length → ms.length ≤ 8 → okPs ms ps → ps.length ≤ 64 → Q (.ref m) H'
def sp_lagainst (K : PySem.W.Frag) : Sp := fun vs H Q _ => ∃ (m l1 l2 : Addr) (a : Str) (ms : List Str) (ps : List Pr), vs = [.ref m, .str a] ∧ Model K H m l1 l2 ms ps ∧ (∀ s ∈ ms, nameS s = true) ∧ ms.length ≤ 8 ∧ a ∈ ms ∧ okPs ms ps ∧
  ∀ H' q, Same H H' → H q = none → H' q = some (.lst ((ag ms ps a).map V.str)) → Q (.ref q) H'
def sp_lpairs (K : PySem.W.Frag) : Sp := fun vs H Q _ => ∃ (m l1 l2 : Addr) (ms : List Str) (ps : List Pr), vs = [.ref m] ∧ Model K H m l1 l2 ms ps ∧ (∀ s ∈ ms, nameS s = true) ∧ ms.length ≤ 8 ∧ okPs ms ps ∧
  ∀ H' q xs, Same H H' → H q = none → H' q = some (.lst xs) → DpAll K H' xs ((prsOf (ag ms ps) ms).map prD) → Q (.ref q) H'
def wd6 : Nat → Str
  | 0 => "modes"
  | 1 => "name"
  | 2 => "twice"
  | 3 => "strengths"
  | 4 => "clash"
  | _ => "mode"
/-- modes and clashes handed in: what is wrong with them, or what they are -/
inductive Both (K : PySem.W.Frag) (H : Hp) : V → V → Option (Nat × V) → List Str → List Pr → Prop
  | bad {v1 v2 : V} {q : Nat × V} {ms : List Str} : MArg K H v1 (some q) ms → Both K H v1 v2 (some q) [] []
  | go {v1 v2 : V} {r : Option (Nat × V)} {ms : List Str} {ps : List Pr} : MArg K H v1 none ms → CArg K H ms v2 r ps → Both K H v1 v2 r ms ps
theorem Both.mono {K : PySem.W.Frag} {H H' : Hp} {v1 v2 : V} {r : Option (Nat × V)} {ms : List Str} {ps : List Pr} (s : Same H H') (h : Both K H v1 v2 r ms ps) : Both K H' v1 v2 r ms ps := by
  cases h with
  | bad a => exact .bad (a.mono s)
  | go a b => exact .go (a.mono s) (b.mono s)
theorem Both.split {K : PySem.W.Frag} {H : Hp} {v1 v2 : V} {r : Option (Nat × V)} {ms : List Str} {ps : List Pr} (h : Both K H v1 v2 r ms ps) : ∃ r1 ms1, MArg K H v1 r1 ms1 ∧ (∀ q, r1 = some q → r = some q) ∧ (r1 = none → ms1 = ms ∧ CArg K H ms v2 r ps) := by
  cases h with
  | bad a => exact ⟨_, _, a, fun q e => e, fun e => nomatch e⟩
  | go a b => exact ⟨_, _, a, (fun q e => nomatch e), fun _ => ⟨rfl, b⟩⟩
def madeD (ms : List Str) (ps : List Pr) : PyData := .list [.str "made", strsL ms, .list ((prsOf (ag ms ps) ms).map prD)]
def Out (K : PySem.W.Frag) (H : Hp) (Q : VK) (r : Option (Nat × V)) (ms : List Str) (ps : List Pr) : Prop := (∀ n v, r = some (n, v) → ∀ t H', Same H H' → H t = none → H' t = some (.lst [.str (wd6 n), v]) → Q (.ref t) H') ∧
  (r = none → ∀ t H', Same H H' → H t = none → Dp K H' (.ref t) (madeD ms ps) → Q (.ref t) H')
def sp_lout (K : PySem.W.Frag) : Sp := fun vs H Q _ => ∃ (v1 v2 : V) (r : Option (Nat × V)) (ms : List Str) (ps : List Pr), vs = [v1, v2] ∧ Both K H v1 v2 r ms ps ∧ Out K H Q r ms ps
theorem scan_le : ∀ {xs : List V} {ds : List PyData} {seen : List Str} {q : Nat × V}, scanM xs ds seen = some q → q.1 = 1 ∨ q.1 = 2
  | x :: xs, d :: ds, seen, q, h => by
    rw [scan_one] at h
    split at h
    · split at h
      · cases h
        exact .inr rfl
      · exact scan_le h
    · cases h
      exact .inl rfl
theorem ClS.le {K : PySem.W.Frag} {H : Hp} {ms : List Str} {xs : List V} {ds : List PyData} {r : Option (Nat × V)} {ps : List Pr} (h : ClS K H ms xs ds r ps) : ∀ q, r = some q → q.1 = 4 ∨ q.1 = 5 := by
  induction h with
  | nil => intro q e; cases e
  | odd a b => intro q e; cases e; exact .inl rfl
  | one a b c d => intro q e; cases e; exact .inr rfl
  | two a b c d e => intro q e; cases e; exact .inr rfl
  | ok a b c _ ih => exact ih
theorem Both.le {K : PySem.W.Frag} {H : Hp} {v1 v2 : V} {r : Option (Nat × V)} {ms : List Str} {ps : List Pr} (h : Both K H v1 v2 r ms ps) : ∀ q, r = some q → q.1 = 0 ∨ q.1 = 1 ∨ q.1 = 2 ∨ q.1 = 3 ∨ q.1 = 4 ∨ q.1 = 5 := by
  intro q e
  cases h with
  | bad a =>
    cases e
    rcases a.ways with ⟨o, _, _, e⟩ | ⟨l, xs, ds, _, _, _, ⟨q', e, e2⟩ | ⟨_, ⟨_, _, e⟩ | ⟨_, e⟩⟩⟩
    · cases e
      exact .inl rfl
    · cases e
      exact .inr ((scan_le e2).imp id .inl)
    · cases e
    · cases e
      exact .inl rfl
  | go a b =>
    cases b with
    | nol a b =>
      cases e
      exact .inr (.inr (.inr (.inl rfl)))
    | lst a b c => exact .inr (.inr (.inr (.inr (c.le q e))))
/-! ### strengths bent -/
/-- data n deep at most, a text short -/
def GJ (K : PySem.W.Frag) (n : Nat) (H : Hp) (v : V) : Prop := ∃ d, Dp K H v d ∧ (d.canLay0 = true ∧ d.depth ≤ n) ∧ ∀ s, d = .str s → s.length ≤ 100000
theorem GJ.mono {K : PySem.W.Frag} {n : Nat} {H H' : Hp} {v : V} (s : Same H H') (h : GJ K n H v) : GJ K n H' v := by
  obtain ⟨d, a, b⟩ := h
  exact ⟨d, dp_mono s a, b⟩
theorem gj_str {K : PySem.W.Frag} {n : Nat} {H : Hp} {s : Str} (h : sOk 16 s) : GJ K n H (.str s) := ⟨.str s, .str s, ⟨by simp only [PyData.canLay0]; exact h.2, by simp [PyData.depth]⟩, fun t e => by injection e with e; rw [← e]; exact Nat.le_trans h.1 (by decide)⟩
theorem gj_name {K : PySem.W.Frag} {n : Nat} {H : Hp} {s : Str} (h : nameS s = true) : GJ K n H (.str s) := gj_str ⟨Nat.le_trans (nameS_len h) (by decide), nameS_ok h⟩
theorem gj_int {K : PySem.W.Frag} {n : Nat} {H : Hp} (i : Int) : GJ K n H (.int i) := ⟨.int i, .int i, ⟨rfl, by simp [PyData.depth]⟩, fun _ e => nomatch e⟩
theorem gj_non {K : PySem.W.Frag} {n : Nat} {H : Hp} : GJ K n H .non := ⟨.none, .non, ⟨rfl, by simp [PyData.depth]⟩, fun _ e => nomatch e⟩
theorem gj_all {K : PySem.W.Frag} {n : Nat} {H : Hp} {xs : List V} (g : ∀ x ∈ xs, GJ K n H x) : ∃ ds, DpAll K H xs ds ∧ ds.length = xs.length ∧ ∀ d ∈ ds, (d.canLay0 = true ∧ d.depth ≤ n) ∧ ∀ s, d = .str s → s.length ≤ 100000 := by
  induction xs with
  | nil => exact ⟨[], .nil, rfl, fun d h => (List.not_mem_nil h).elim⟩
  | cons y r ih =>
    obtain ⟨ds, i1, i2, i3⟩ := ih fun x hx => g x (List.mem_cons_of_mem _ hx)
    obtain ⟨d, a, b⟩ := g y List.mem_cons_self
    refine ⟨d :: ds, .cons a i1, by simp [i2], fun x hx => ?_⟩
    rcases List.mem_cons.mp hx with rfl | q
    · exact b
    · exact i3 x q
theorem gj_seq {K : PySem.W.Frag} {n : Nat} {H : Hp} {t : Addr} {xs : List V} (g : ∀ x ∈ xs, GJ K n H x) (h : H t = some (.tup xs) ∨ H t = some (.lst xs)) : GJ K (n + 1) H (.ref t) := by
  obtain ⟨ds, i1, _, i3⟩ := gj_all g
  have dl := depthAll_le fun d hd => (i3 d hd).1.2
  have cl := canAll_mem.mpr fun d hd => (i3 d hd).1.1
  rcases h with h | h
  · exact ⟨.tuple ds, .tup (SqT.of h) i1, ⟨by simpa only [PyData.canLay0] using cl, by simp only [PyData.depth]; omega⟩, fun _ e => nomatch e⟩
  · exact ⟨.list ds, .lst (SqL.of h) i1, ⟨by simpa only [PyData.canLay0] using cl, by simp only [PyData.depth]; omega⟩, fun _ e => nomatch e⟩
theorem gj_its {K : PySem.W.Frag} {n : Nat} {H : Hp} {xs : List V} (hn : n ≤ 60) (l : xs.length ≤ 100) (g : ∀ x ∈ xs, GJ K n H x) : ∃ ds, Its K H xs ds := by
  obtain ⟨ds, i1, i2, i3⟩ := gj_all g
  exact ⟨ds, i1, by omega, fun d hd => ⟨⟨(i3 d hd).1.1, Nat.le_trans (i3 d hd).1.2 hn⟩, (i3 d hd).2⟩⟩
/-- what may be handed in as modes or as clashes -/
def AA (K : PySem.W.Frag) (H : Hp) (v : V) : Prop := (∃ o, VD K H v o ∧ isT "list" o = false) ∨ ∃ l xs ds, v = .ref l ∧ SqL K H l xs ∧ Its K H xs ds
theorem AA.mono {K : PySem.W.Frag} {H H' : Hp} {v : V} (s : Same H H') (h : AA K H v) : AA K H' v := by
  rcases h with ⟨o, a, b⟩ | ⟨l, xs, ds, e, a, b⟩
  · exact .inl ⟨o, a.mono s, b⟩
  · exact .inr ⟨l, xs, ds, e, s.seq a, b.mono s⟩
theorem aa_list {K : PySem.W.Frag} {H : Hp} {l : Addr} {xs : List V} (h : H l = some (.lst xs)) (n : xs.length ≤ 100) (g : ∀ x ∈ xs, GJ K 3 H x) : AA K H (.ref l) := by
  obtain ⟨ds, it⟩ := gj_its (by decide) n g
  exact .inr ⟨l, xs, ds, rfl, SqL.of h, it⟩
theorem aa_tup {K : PySem.W.Frag} {H : Hp} {l : Addr} {xs : List V} (h : H l = some (.tup xs)) (g : ∀ x ∈ xs, GJ K 3 H x) : AA K H (.ref l) := by
  obtain ⟨ds, i1, _, i3⟩ := gj_all g
  have dl := depthAll_le fun d hd => (i3 d hd).1.2
  have cl := canAll_mem.mpr fun d hd => (i3 d hd).1.1
  exact .inl ⟨some (.tuple ds), .dat (.tup (SqT.of h) i1) (shaped_iff.mpr ⟨by simpa only [PyData.canLay0] using cl, by simp only [PyData.depth]; omega⟩) (fun _ e => nomatch e), rfl⟩
theorem aa_non {K : PySem.W.Frag} {H : Hp} : AA K H .non := .inl ⟨some .none, .dat .non (by decide +kernel) (fun _ e => nomatch e), rfl⟩
theorem aa_int {K : PySem.W.Frag} {H : Hp} : AA K H (.int 5) := .inl ⟨some (.int 5), .dat (.int 5) (by decide +kernel) (fun _ e => nomatch e), rfl⟩
theorem aa_ab {K : PySem.W.Frag} {H : Hp} : AA K H (.str "ab") := .inl ⟨some (.str "ab"), .dat (.str _) (by decide +kernel) (fun s e => by cases e; decide +kernel), rfl⟩
theorem aa_dic {K : PySem.W.Frag} {H : Hp} {d : Addr} (h : H d = some (.dK [])) : AA K H (.ref d) := .inl ⟨none, .dic h, rfl⟩
theorem both_of {K : PySem.W.Frag} {H : Hp} {v1 v2 : V} (h1 : AA K H v1) (h2 : AA K H v2) : ∃ r ms ps, Both K H v1 v2 r ms ps := by
  rcases h1 with ⟨o, a, b⟩ | ⟨l, xs, ds, rfl, sq, it⟩
  · exact ⟨_, _, _, .bad (.nol a b)⟩
  · cases e : scanM xs ds [] with
    | some q => exact ⟨_, _, _, .bad (.bad sq it e)⟩
    | none =>
      by_cases c : 1 ≤ xs.length ∧ xs.length ≤ 8
      · obtain ⟨ms, rfl, rfl, hn, nd⟩ := scan_names [] it.1 e
        rw [List.length_map] at c
        have m : MArg K H (.ref l) none ms := .ok sq (fun s hs => (hn s hs).1) nd c
        rcases h2 with ⟨o, a, b⟩ | ⟨lc, ys, es, rfl, sc, it2⟩
        · exact ⟨_, _, _, .go m (.nol a b)⟩
        · obtain ⟨r, ps, hc⟩ := clS_all ms it2.1
          exact ⟨_, _, _, .go m (.lst sc it2 hc)⟩
      · exact ⟨_, _, _, .bad (.len sq it e c)⟩
def sp_lbent (K : PySem.W.Frag) : Sp := fun vs H Q _ => ∃ (H0 : Hp) (p m l1 l2 : Addr) (n : Nat) (ms : List Str) (xs : List V) (ps : List Pr), vs = [.ref p, .ref m] ∧ BoxIn H0 H p n ∧ H0 m = some (.lst [.ref l1, .ref l2]) ∧ H0 l1 = some (.lst (ms.map V.str)) ∧ H0 l2 = some (.lst xs) ∧ DpAll K H0 xs (ps.map prD) ∧ (∀ s ∈ ms, nameS s = true) ∧ 1 ≤ ms.length ∧ ms.length ≤ 8 ∧ okPs ms ps ∧ ps.length ≤ 64 ∧ n + 40 < 1000000 ∧
  ∀ (H1 H' : Hp) (t : Addr) (v1 v2 : V), Same H0 H1 → BoxIn H1 H' p (n + 40) → H1 t = some (.lst [v1, v2]) → AA K H1 v1 → AA K H1 v2 → Q (.ref t) H'
theorem gj_prs {K : PySem.W.Frag} {H : Hp} {ms : List Str} (hm : ∀ s ∈ ms, nameS s = true) : ∀ {xs : List V} {ps : List Pr}, DpAll K H xs (ps.map prD) → (∀ p ∈ ps, p.1 ∈ ms ∧ p.2 ∈ ms) → ∀ x ∈ xs, GJ K 3 H x
  | _, [], .nil, _ => fun x h => (List.not_mem_nil h).elim
  | _, p :: r, .cons a b, h => fun x hx => by
    rcases List.mem_cons.mp hx with rfl | q
    · exact ⟨prD p, a, ⟨(prD_can hm (h p List.mem_cons_self)).1, Nat.le_trans (prD_can hm (h p List.mem_cons_self)).2 (by decide)⟩, fun _ e => nomatch e⟩
    · exact gj_prs hm b (fun p hp => h p (List.mem_cons_of_mem _ hp)) x q
/-! ### what tells strengths apart -/
theorem adj_symm (ps : List Pr) (a b : Str) : adj ps a b = adj ps b a := Bool.or_comm _ _
theorem mem_ag {ms : List Str} {ps : List Pr} {a b : Str} (hb : b ∈ ms) : b ∈ ag ms ps a ↔ adj ps a b = true := by
  unfold ag
  rw [List.mem_filter]
  exact ⟨fun h => h.2, fun h => ⟨hb, h⟩⟩
theorem ag_congr {ms : List Str} {ps qs : List Pr} {a : Str} (h : ∀ b ∈ ms, adj ps a b = adj qs a b) : ag ms ps a = ag ms qs a := List.filter_congr h
theorem in_prs {f : Str → List Str} {ms : List Str} {i j : Nat} {a b : Str} (ha : ms[i]? = some a) (hb : ms[j]? = some b) (hij : i ≤ j) : (a, b) ∈ prsOf f ms ↔ b ∈ f a := by
  constructor
  · intro h
    obtain ⟨l, hl, hp⟩ := List.mem_flatten.mp h
    obtain ⟨j, _, rfl⟩ := List.mem_map.mp hl
    obtain ⟨m, r, e, e1, e2, e3⟩ := mem_outP hp
    have e1 : a = m := e1
    subst e1
    exact e3
  · intro h
    refine List.mem_flatten.mpr ⟨outP f (ms.drop i), List.mem_map.mpr ⟨i, List.mem_range.mpr (List.getElem?_eq_some_iff.mp ha).1, rfl⟩, ?_⟩
    rw [outP_at ha]
    refine List.mem_map.mpr ⟨b, List.mem_filter.mpr ⟨?_, decide_eq_true h⟩, rfl⟩
    refine List.mem_iff_getElem?.mpr ⟨j - i, ?_⟩
    rw [List.getElem?_drop, show i + (j - i) = j by omega]
    exact hb
theorem outP_congr {f g : Str → List Str} : ∀ {l : List Str}, (∀ m ∈ l, f m = g m) → outP f l = outP g l
  | [], _ => rfl
  | m :: r, h => by
    show ((m :: r).filter fun o => decide (o ∈ f m)).map _ = ((m :: r).filter fun o => decide (o ∈ g m)).map _
    rw [h m List.mem_cons_self]
theorem prsOf_congr {f g : Str → List Str} {ms : List Str} (h : ∀ m ∈ ms, f m = g m) : prsOf f ms = prsOf g ms := by
  unfold prsOf prsA
  congr 1
  exact List.map_congr_left fun j _ => outP_congr fun m hm => h m (List.mem_of_mem_drop hm)
theorem prs_ag {ms : List Str} {ps qs : List Pr} (h : prsOf (ag ms ps) ms = prsOf (ag ms qs) ms) : ∀ m ∈ ms, ag ms ps m = ag ms qs m := by
  intro a ha
  refine ag_congr fun b hb => ?_
  obtain ⟨i, hi⟩ := List.mem_iff_getElem?.mp ha
  obtain ⟨j, hj⟩ := List.mem_iff_getElem?.mp hb
  rcases Nat.le_total i j with l | l
  · have h1 := in_prs (f := ag ms ps) hi hj l
    have h2 := in_prs (f := ag ms qs) hi hj l
    rw [h, h2, mem_ag hb, mem_ag hb] at h1
    exact Bool.eq_iff_iff.mpr h1.symm
  · have h1 := in_prs (f := ag ms ps) hj hi l
    have h2 := in_prs (f := ag ms qs) hj hi l
    rw [h, h2, mem_ag ha, mem_ag ha] at h1
    rw [adj_symm ps, adj_symm qs]
    exact Bool.eq_iff_iff.mpr h1.symm
theorem eqStr_prs (ms : List Str) (ps qs : List Pr) : eqStr ms (ag ms ps) ms (ag ms qs) = decide (prsOf (ag ms qs) ms = prsOf (ag ms ps) ms) := by
  unfold eqStr
  rw [decide_eq_true (rfl : ms = ms), Bool.true_and, Bool.eq_iff_iff, List.all_eq_true, decide_eq_true_iff]
  constructor
  · intro h
    exact prsOf_congr fun m hm => (of_decide_eq_true (h m hm)).symm
  · intro h m hm
    exact decide_eq_true (prs_ag h m hm).symm
theorem eqStr_of {ms : List Str} {f g : Str → List Str} (h : ∀ m ∈ ms, f m = g m) : eqStr ms f ms g = true := by
  unfold eqStr
  rw [decide_eq_true (rfl : ms = ms), Bool.true_and, List.all_eq_true]
  exact fun m hm => decide_eq_true (h m hm)
theorem eqStr_ne {ms ms2 : List Str} {f g : Str → List Str} (h : ms ≠ ms2) : eqStr ms f ms2 g = false := by
  unfold eqStr
  rw [decide_eq_false h, Bool.false_and]
theorem ag_swap {ms : List Str} {ps qs : List Pr} (h : (ps.map fun p => (p.2, p.1)).Perm qs) (m : Str) : ag ms ps m = ag ms qs m := by
  refine ag_congr fun b _ => ?_
  have key : ∀ x y : Str, (x, y) ∈ qs ↔ (y, x) ∈ ps := fun x y => by
    rw [← h.mem_iff, List.mem_map]
    constructor
    · rintro ⟨p, hp, e⟩
      injection e with e1 e2
      rw [← e1, ← e2]
      exact hp
    · intro hp
      exact ⟨(y, x), hp, rfl⟩
  unfold adj
  rw [decide_eq_decide.mpr (key m b), decide_eq_decide.mpr (key b m), Bool.or_comm]
theorem eqvAll_prs : ∀ (a b : List Pr), PyData.eqvAll (a.map prD) (b.map prD) = decide (a = b)
  | [], [] => by simp [PyData.eqvAll]
  | [], _ :: _ => by simp [PyData.eqvAll]
  | _ :: _, [] => by simp [PyData.eqvAll]
  | x :: a, y :: b => by
    have ih := eqvAll_prs a b
    simp only [List.map_cons, PyData.eqvAll, ih, eqv_prD]
    rw [Bool.eq_iff_iff]
    simp
theorem eqv_prsL (a b : List Pr) : PyData.eqv (.list (a.map prD)) (.list (b.map prD)) = decide (a = b) := by
  have := eqvAll_prs a b
  simpa [PyData.eqv] using this
theorem ends_eq {ms : List Str} (nd : ms.Nodup) {a b : Str} (ha : ms[0]? = some a) (hb : ms[ms.length - 1]? = some b) : (a = b) ↔ ms.length = 1 := by
  obtain ⟨h0, e0⟩ := List.getElem?_eq_some_iff.mp ha
  obtain ⟨h1, e1⟩ := List.getElem?_eq_some_iff.mp hb
  constructor
  · intro e
    by_cases l : 0 < ms.length - 1
    · have := (List.pairwise_iff_getElem.mp nd) 0 (ms.length - 1) h0 h1 l
      rw [e0, e1] at this
      exact absurd e this
    · omega
  · intro l
    have : ms.length - 1 = 0 := by omega
    rw [this, ha] at hb
    injection hb
theorem eq_ends {ms : List Str} (nd : ms.Nodup) {a b : Str} (ha : ms[0]? = some a) (hb : ms[ms.length - 1]? = some b) : eqStr ms (ag ms [(a, a)]) ms (ag ms [(b, b)]) = decide (ms.length = 1) := by
  by_cases e : a = b
  · subst e
    rw [decide_eq_true ((ends_eq nd ha hb).mp rfl)]
    exact eqStr_of fun _ _ => rfl
  · rw [decide_eq_false fun h => e ((ends_eq nd ha hb).mpr h)]
    have am := List.mem_of_getElem? ha
    unfold eqStr
    rw [decide_eq_true (rfl : ms = ms), Bool.true_and]
    refine Bool.eq_false_iff.mpr fun h => ?_
    have := of_decide_eq_true (List.all_eq_true.mp h a am)
    have h1 : a ∈ ag ms [(a, a)] a := (mem_ag am).mpr (by simp [adj])
    rw [this, mem_ag am] at h1
    simp [adj, e] at h1
theorem eq_ends' {ms : List Str} (nd : ms.Nodup) {a b : Str} (ha : ms[0]? = some a) (hb : ms[ms.length - 1]? = some b) : eqStr ms (ag ms [(b, b)]) ms (ag ms [(a, a)]) = decide (ms.length = 1) := by
  rw [← eq_ends nd ha hb]
  unfold eqStr
  congr 1
  rw [Bool.eq_iff_iff, List.all_eq_true, List.all_eq_true]
  exact ⟨fun h m hm => decide_eq_true (of_decide_eq_true (h m hm)).symm, fun h m hm => decide_eq_true (of_decide_eq_true (h m hm)).symm⟩
theorem eq_rev {ms : List Str} (nd : ms.Nodup) (l : 1 ≤ ms.length) (ps : List Pr) : eqStr ms (ag ms ps) ms.reverse (ag ms.reverse ps) = decide (ms.length = 1) := by
  by_cases h : ms.length = 1
  · obtain ⟨a, rfl⟩ := List.length_eq_one_iff.mp h
    rw [decide_eq_true h]
    exact eqStr_of fun _ _ => rfl
  · rw [decide_eq_false h]
    refine eqStr_ne fun e => ?_
    have h0 : ms[0]? = some ms[0] := List.getElem?_eq_getElem (by omega)
    have h1 : ms[ms.length - 1]? = some ms[ms.length - 1] := List.getElem?_eq_getElem (by omega)
    refine h ((ends_eq nd h0 h1).mp ?_)
    have h2 : ms.reverse[0]? = ms[ms.length - 1]? := by
      rw [List.getElem?_reverse (by omega)]
      rfl
    rw [← e, h0, h1] at h2
    injection h2
theorem eq_more {ms : List Str} {f g : Str → List Str} (s : Str) : eqStr ms f (ms ++ [s]) g = false := eqStr_ne fun e => by
  have := congrArg List.length e
  simp at this
/-- clashes that are pairs of modes -/
theorem clS_ok {K : PySem.W.Frag} {H : Hp} {ms : List Str} : ∀ {xs : List V} {ps : List Pr}, DpAll K H xs (ps.map prD) → (∀ p ∈ ps, p.1 ∈ ms ∧ p.2 ∈ ms) → ClS K H ms xs (ps.map prD) none ps
  | _, [], .nil, _ => .nil
  | _, p :: r, .cons a b, h => by
    have ih := clS_ok b fun q hq => h q (List.mem_cons_of_mem _ hq)
    have hp := h p List.mem_cons_self
    generalize hd : prD p = d at a
    cases a with
    | tup st sd =>
      injection hd with hd
      subst hd
      have e := dpAll_strs_of (ss := [p.1, p.2]) sd
      subst e
      exact .ok st hp.1 hp.2 ih
    | _ => cases hd
theorem prs_its {K : PySem.W.Frag} {H : Hp} {ms : List Str} (hm : ∀ s ∈ ms, nameS s = true) {xs : List V} {ps : List Pr} (h : DpAll K H xs (ps.map prD)) (ok : okPs ms ps) : Its K H xs (ps.map prD) := by
  refine ⟨h, by rw [List.length_map]; exact ok.1, fun d hd => ?_⟩
  obtain ⟨p, hp, rfl⟩ := List.mem_map.mp hd
  have c := prD_can hm (ok.2 p hp)
  exact ⟨⟨c.1, Nat.le_trans c.2 (by decide)⟩, fun _ e => nomatch e⟩
theorem carg_ok {K : PySem.W.Frag} {H : Hp} {ms : List Str} {l : Addr} {xs : List V} {ps : List Pr} (hm : ∀ s ∈ ms, nameS s = true) (hl : SqL K H l xs) (h : DpAll K H xs (ps.map prD)) (ok : okPs ms ps) : CArg K H ms (.ref l) none ps := .lst hl (prs_its hm h ok) (clS_ok h ok.2)
/-- strengths made where nothing is wrong -/
theorem made_ok {K : PySem.W.Frag} {C : Addr} {Cs : Nat → Addr} {H : Hp} {x dx : Addr} {v1 v2 : V} {ms : List Str} {ps : List Pr} {Q : VK} {E : XK} (hx : H x = none) (hdx : H dx = none) (_ne : dx ≠ x) (hm : MArg K H v1 none ms) (hc : CArg K H ms v2 none ps)
    (k : ∀ H', Same H H' → StrOff K C H H' x ms (ag ms ps) → Q .non H') : sp_sinit K C Cs [.ref x, v1, v2] (upd (upd H dx (.own x)) x (.ins C dx [])) Q E := by
  have sH : Same H (upd (upd H dx (.own x)) x (.ins C dx [])) := fun b u e => by
    rw [upd_ne (ne_of_none e hx), upd_ne (ne_of_none e hdx)]
    exact e
  have sB : Same H (but (upd (upd H dx (.own x)) x (.ins C dx [])) x) := fun b u e => by
    rw [but_ne (ne_of_none e hx)]
    exact sH _ _ e
  refine ⟨x, dx, v1, v2, none, ms, rfl, upd_same, hm.mono sB, (fun q e => nomatch e), fun _ => ⟨none, ps, hc.mono sB, (fun q e => nomatch e), fun _ H' hk st => k H' (fun b u e => hk b u (sH _ _ e) (ne_of_none e hx)) fun G hG => st G fun b u hb e => hG b u ?_ e⟩⟩
  rcases hb with hb | hb
  · refine .inl ?_
    cases h : H b with
    | none => rfl
    | some u =>
      rw [sH _ _ h] at hb
      cases hb
  · exact .inr hb
def sp_lexch (K : PySem.W.Frag) : Sp := fun vs H Q _ => ∃ (l : Addr) (ms : List Str), vs = [.ref l] ∧ SqL K H l (ms.map V.str) ∧ (∀ s ∈ ms, nameS s = true) ∧ ms.Nodup ∧ 1 ≤ ms.length ∧ ms.length ≤ 8 ∧ ∀ H', Same H H' → Q (.bl true) H'
theorem eqI_str {K : PySem.W.Frag} {C : Addr} {H : Hp} {x z : Addr} {ms ms2 : List Str} {f f2 : Str → List Str} {Q : VK} {E : XK} (ic : C8.InsC K C) (st : StrAt K C H x ms f) (st2 : StrAt K C H z ms2 f2) (hn : ∀ s ∈ ms, nameS s = true) (hn2 : ∀ s ∈ ms2, nameS s = true) (q : Q (.bl (eqStr ms f ms2 f2)) H) : rEqI K C (sp_seq K C) E (.ref x) (.ref z) H Q := by
  obtain ⟨dx, l, d, kvs, h1, _⟩ := id st
  obtain ⟨dz, l2, d2, kvs2, g1, _⟩ := id st2
  exact ⟨x, dx, _, .ref C, rfl, h1, .base (.ins g1 ic.cl ic.ha ic.hn ic.htk ic.hm), by simp [PySem.W.notFirst], x, .ref z, ms, f, rfl, st, hn, .inr ⟨z, ms2, f2, rfl, st2, hn2, q⟩⟩
/-- .. and a value of a kind of its own -/
theorem eqI_typ {K : PySem.W.Frag} {C : Addr} {H : Hp} {x : Addr} {y : V} {t : String} {ms : List Str} {f : Str → List Str} {Q : VK} {E : XK} (ty : TyX K H y (.type t)) (io : PySem.W.kitOne K (.type t) (.ref C) = some false) (nf : PySem.W.notFirst K C (.type t) = true) (st : StrAt K C H x ms f) (hn : ∀ s ∈ ms, nameS s = true) (q : Q (.bl false) H) : rEqI K C (sp_seq K C) E (.ref x) y H Q := by
  obtain ⟨dx, l, d, kvs, h1, _⟩ := id st
  exact ⟨x, dx, _, .type t, rfl, h1, ty, nf, x, y, ms, f, rfl, st, hn, .inl ⟨t, ty, io, q⟩⟩
/-- two lists of the same objects, or data -/
def rNeU (K : PySem.W.Frag) : R2 := fun x y H Q => rNeS K x y H Q ∨ rNeD K x y H Q
theorem op_neU {X : Cx} (hu : X.A.units + 64 < cLine) : OpR X (compareOp .NotEq) (rNeU X.K) := fun pins s σ H x y v u Q I rx ry h => h.elim (op_neS hu pins s σ H x y v u Q I rx ry) (op_neD hu pins s σ H x y v u Q I rx ry)
theorem dp_sure {K : PySem.W.Frag} {H : Hp} {v : V} {d : PyData} (h : Dp K H v d) : sureV v = true := by cases h <;> rfl
theorem vd_sure {K : PySem.W.Frag} {H : Hp} {v : V} {o : Option PyData} (h : VD K H v o) : sureV v = true := by
  cases h with
  | dat a _ _ => exact dp_sure a
  | dic a => rfl
theorem scan_sure {K : PySem.W.Frag} {H : Hp} : ∀ {xs : List V} {ds : List PyData} {seen : List Str} {q : Nat × V}, DpAll K H xs ds → scanM xs ds seen = some q → sureV q.2 = true
  | x :: xs, d :: ds, seen, q, .cons a b, h => by
    rw [scan_one] at h
    split at h
    · split at h
      · cases h
        exact dp_sure a
      · exact scan_sure b h
    · cases h
      exact dp_sure a
theorem ClS.sure {K : PySem.W.Frag} {H : Hp} {ms : List Str} {xs : List V} {ds : List PyData} {r : Option (Nat × V)} {ps : List Pr} (h : ClS K H ms xs ds r ps) : ∀ q, r = some q → sureV q.2 = true := by
  induction h with
  | nil => intro q e; cases e
  | odd a b => intro q e; cases e; exact dp_sure a
  | one a b c d => intro q e; cases e; exact dp_sure b
  | two a b c d e => intro q e; cases e; exact dp_sure c
  | ok a b c _ ih => exact ih
theorem both_sure {K : PySem.W.Frag} {H : Hp} {v1 v2 : V} {r : Option (Nat × V)} {ms : List Str} {ps : List Pr} (h : Both K H v1 v2 r ms ps) {n : Nat} {v : V} (e : r = some (n, v)) : sureV v = true := by
  cases h with
  | bad a =>
    cases a with
    | nol a b => cases e; exact vd_sure a
    | bad a b c => cases e; exact scan_sure b.1 c
    | len a b c d => cases e; rfl
  | go a b =>
    cases b with
    | nol a b => cases e; exact vd_sure a
    | lst a b c => exact c.sure _ e
theorem sure3 {w : Str} {v : V} (h : sureV v = true) : ([.str w, v] : List V).all sureV = true := by
  show (sureV (.str w) && (sureV v && true)) = true
  rw [h]
  rfl
theorem names_cd {ms : List Str} (h : ∀ s ∈ ms, nameS s = true) : (strsL ms).canLay0 = true ∧ (strsL ms).depth ≤ 1 := by
  have a : ∀ d ∈ ms.map PyData.str, d.canLay0 = true ∧ d.depth ≤ 0 := fun d hd => by
    obtain ⟨s, hs, rfl⟩ := List.mem_map.mp hd
    exact ⟨by simp only [PyData.canLay0]; exact nameS_ok (h s hs), by simp [PyData.depth]⟩
  have dl := depthAll_le fun d hd => (a d hd).2
  exact ⟨by simp only [strsL, PyData.canLay0]; exact canAll_mem.mpr fun d hd => (a d hd).1, by simp only [strsL, PyData.depth]; omega⟩
theorem prs_cd {ms : List Str} (h : ∀ s ∈ ms, nameS s = true) {ps : List Pr} (hp : ∀ p ∈ ps, p.1 ∈ ms ∧ p.2 ∈ ms) : (PyData.list (ps.map prD)).canLay0 = true ∧ (PyData.list (ps.map prD)).depth ≤ 2 := by
  have a : ∀ d ∈ ps.map prD, d.canLay0 = true ∧ d.depth ≤ 1 := fun d hd => by
    obtain ⟨p, hq, rfl⟩ := List.mem_map.mp hd
    exact prD_can h (hp p hq)
  have dl := depthAll_le fun d hd => (a d hd).2
  exact ⟨by simp only [PyData.canLay0]; exact canAll_mem.mpr fun d hd => (a d hd).1, by simp only [PyData.depth]; omega⟩
theorem made_sh {ms : List Str} (h : ∀ s ∈ ms, nameS s = true) (ps : List Pr) : SeqAt.shaped (madeD ms ps) = true := shaped_list (n := 2) (by decide) fun d hd => by
  simp only [List.mem_cons, List.not_mem_nil, or_false] at hd
  rcases hd with rfl | rfl | rfl
  · exact ⟨by decide +kernel, by simp [PyData.depth]⟩
  · exact ⟨(names_cd h).1, Nat.le_trans (names_cd h).2 (by decide)⟩
  · exact prs_cd h fun p hp => mem_prsOf hp
theorem handed_sh {ms : List Str} (h : ∀ s ∈ ms, nameS s = true) {ps : List Pr} (hp : ∀ p ∈ ps, p.1 ∈ ms ∧ p.2 ∈ ms) : SeqAt.shaped (.list [strsL ms, .list (ps.map prD)]) = true := shaped_list (n := 2) (by decide) fun d hd => by
  simp only [List.mem_cons, List.not_mem_nil, or_false] at hd
  rcases hd with rfl | rfl
  · exact ⟨(names_cd h).1, Nat.le_trans (names_cd h).2 (by decide)⟩
  · exact prs_cd h hp
/-- both, where nothing is wrong -/
theorem both_ok {K : PySem.W.Frag} {H : Hp} {l1 l2 : Addr} {ms : List Str} {xs : List V} {ps : List Pr} (hn : ∀ s ∈ ms, nameS s = true) (nd : ms.Nodup) (l8 : 1 ≤ ms.length ∧ ms.length ≤ 8) (h1 : SqL K H l1 (ms.map V.str)) (h2 : SqL K H l2 xs) (h : DpAll K H xs (ps.map prD)) (ok : okPs ms ps) : Both K H (.ref l1) (.ref l2) none ms ps := .go (.ok h1 hn nd l8) (carg_ok hn h2 h ok)
theorem both_names {K : PySem.W.Frag} {H : Hp} {v1 v2 : V} {ms : List Str} {ps : List Pr} (h : Both K H v1 v2 none ms ps) : ∀ s ∈ ms, nameS s = true := by
  cases h with
  | go a b => cases a with
    | ok _ hn _ _ => exact hn
/-- two lists are changed: the strengths stay -/
theorem drop2 {K : PySem.W.Frag} {C : Addr} {G0 H5 H6 H9 : Hp} {p c1 c2 x : Addr} {n : Nat} {ms : List Str} {f : Str → List Str} (B : BoxIn G0 H9 p n) (st : StrOff K C H5 H6 x ms f) (hp : H5 p ≠ none) (h1 : H5 c1 ≠ none) (h2 : H5 c2 ≠ none) (hx : H5 x = none) (g1 : G0 c1 = none) (g2 : G0 c2 = none)
    (s9 : ∀ b u, H6 b = some u → b ≠ c1 → b ≠ c2 → H9 b = some u) : ∃ G, Same G0 G ∧ BoxIn G H9 p n ∧ StrAt K C G x ms f := by
  obtain ⟨A, sA⟩ := B.all
  obtain ⟨e1, A1⟩ := less_ok sA A g1
  obtain ⟨e2, A2⟩ := less_ok e1 A1 g2
  refine ⟨_, e2, A2, st _ fun b u hb e => ?_⟩
  have hb0 : H5 b = none := hb.elim id fun z => by rw [z]; exact hx
  have n0 : b ≠ p := fun z => hp (by rw [← z]; exact hb0)
  have n1 : b ≠ c1 := fun z => h1 (by rw [← z]; exact hb0)
  have n2 : b ≠ c2 := fun z => h2 (by rw [← z]; exact hb0)
  rw [but_ne n2, but_ne n1, but_ne n0]
  exact s9 b u e n1 n2
theorem prs_perm {K : PySem.W.Frag} {H : Hp} {xs ys : List V} (h : ys.Perm xs) : ∀ {ps : List Pr}, DpAll K H xs (ps.map prD) → ∃ qs : List Pr, DpAll K H ys (qs.map prD) ∧ qs.Perm ps := by
  induction h with
  | nil =>
    intro ps d
    cases ps with
    | nil => exact ⟨[], .nil, .nil⟩
    | cons p r => cases d
  | cons x _ ih =>
    intro ps d
    cases ps with
    | nil => cases d
    | cons p r =>
      cases d with
      | cons a b =>
        obtain ⟨qs, h1, h2⟩ := ih b
        exact ⟨p :: qs, .cons a h1, h2.cons p⟩
  | swap x y l =>
    intro ps d
    cases ps with
    | nil => cases d
    | cons p r =>
      cases d with
      | cons a b =>
        cases r with
        | nil => cases b
        | cons q r =>
          cases b with
          | cons c e => exact ⟨q :: p :: r, .cons c (.cons a e), .swap _ _ _⟩
  | trans _ _ ih1 ih2 =>
    intro ps d
    obtain ⟨qs, h1, h2⟩ := ih2 d
    obtain ⟨rs, k1, k2⟩ := ih1 h1
    exact ⟨rs, k1, k2.trans h2⟩
theorem cut_drop1 (ys : List V) : cutV ys (some 1) none = ys.drop 1 := by
  cases ys with
  | nil => rfl
  | cons y r => exact cut_dropV (i := 1) (y :: r) (by simp)
/-! ### cut at one sign -/
theorem pre_one {c d : Nat} {r : List Nat} : TL.pre [c] (d :: r) = decide (d = c) := by
  unfold TL.pre
  rw [Bool.eq_iff_iff, decide_eq_true_iff]
  simp
theorem spl_one {c d : Nat} {acc r : List Nat} : TL.spl [c] 0 acc (d :: r) = if d = c then acc :: TL.spl [c] 0 [] r else TL.spl [c] 0 (acc ++ [d]) r := by
  show (if TL.pre [c] (d :: r) = true then _ else _) = _
  rw [pre_one]
  by_cases h : d = c
  · rw [if_pos (decide_eq_true h), if_pos h]
    rfl
  · rw [if_neg (by rw [decide_eq_false h]; decide), if_neg h]
theorem spl_ne (c : Nat) : ∀ (L acc : List Nat), TL.spl [c] 0 acc L ≠ []
  | [], acc => by simp [TL.spl]
  | d :: r, acc => by
    rw [spl_one]
    split
    · simp
    · exact spl_ne c r _
theorem join_spl (c : Nat) : ∀ (L acc : List Nat), TL.joinL [c] (TL.spl [c] 0 acc L) = acc ++ L
  | [], acc => by simp [TL.spl, TL.joinL]
  | d :: r, acc => by
    rw [spl_one]
    by_cases h : d = c
    · rw [if_pos h]
      have ih := join_spl c r []
      cases e : TL.spl [c] 0 [] r with
      | nil => exact absurd e (spl_ne c r [])
      | cons p q =>
        rw [e] at ih
        rw [TL.joinL, ih, h]
        simp
    · rw [if_neg h, join_spl c r]
      simp
theorem spl_app (c : Nat) : ∀ (x y acc : List Nat), TL.spl [c] 0 acc (x ++ c :: y) = TL.spl [c] 0 acc x ++ TL.spl [c] 0 [] y
  | [], y, acc => by
    rw [List.nil_append, spl_one, if_pos rfl]
    rfl
  | d :: r, y, acc => by
    rw [List.cons_append, spl_one, spl_one]
    by_cases h : d = c
    · rw [if_pos h, if_pos h, spl_app c r y, List.cons_append]
    · rw [if_neg h, if_neg h, spl_app c r y]
/-- the last part ends as the text does -/
theorem spl_end {c d : Nat} (h : d ≠ c) : ∀ (x acc : List Nat), ∃ w, w ++ [d] ∈ TL.spl [c] 0 acc (x ++ [d])
  | [], acc => ⟨acc, by rw [List.nil_append, spl_one, if_neg h]; simp [TL.spl]⟩
  | e :: r, acc => by
    rw [List.cons_append, spl_one]
    by_cases q : e = c
    · rw [if_pos q]
      obtain ⟨w, hw⟩ := spl_end h r []
      exact ⟨w, List.mem_cons_of_mem _ hw⟩
    · rw [if_neg q]
      exact spl_end h r _
/-! ### cut at a longer one: once, or at each place -/
theorem spl_skip (S : List Nat) : ∀ (k : Nat) (acc L : List Nat), TL.spl S k acc L = TL.spl S 0 acc (L.drop k)
  | 0, _, _ => rfl
  | k + 1, acc, [] => by simp [TL.spl]
  | k + 1, acc, _ :: r => spl_skip S k acc r
theorem spl_par (S : List Nat) (hS : S ≠ []) : ∀ (L acc : List Nat), TL.spl S 0 acc L = match TL.par S acc L with
    | none => [acc ++ L]
    | some (a, b) => a :: TL.spl S 0 [] b
  | [], acc => by simp [TL.spl, TL.par]
  | c :: r, acc => by
    show (if TL.pre S (c :: r) = true then _ else _) = _
    rw [TL.par]
    cases h : TL.pre S (c :: r) with
    | true =>
      rw [if_pos rfl, if_pos rfl, spl_skip]
      cases S with
      | nil => exact absurd rfl hS
      | cons s S => rfl
    | false =>
      rw [if_neg (by decide), if_neg (by decide), spl_par S hS r]
      cases TL.par S (acc ++ [c]) r with
      | none => simp
      | some p => rfl
theorem par_app {S : List Nat} : ∀ {L acc a b : List Nat}, TL.par S acc L = some (a, b) → acc ++ L = a ++ S ++ b
  | [], acc, a, b, h => by simp [TL.par] at h
  | c :: r, acc, a, b, h => by
    rw [TL.par] at h
    split at h
    · rename_i hp
      injection h with h
      injection h with h1 h2
      subst h1 h2
      have e : (c :: r).take S.length = S := eq_of_beq hp
      have := List.take_append_drop S.length (c :: r)
      rw [e] at this
      rw [List.append_assoc, this]
    · have := par_app h
      simpa using this
theorem sp_S : (" " : Str) = SX.S [32] := by decide +kernel
theorem split_sp (a : List Nat) : Txt.split (SX.S a) " " = (TL.spl [32] 0 [] a).map SX.S := by
  rw [sp_S]
  exact SX.split_S (by decide) (by decide)
def tOk (t : Str) : Prop := t.length ≤ 100000 ∧ PyData.strOk t = true
theorem tOk_vd {K : PySem.W.Frag} {H : Hp} {t : Str} (h : tOk t) : VD K H (.str t) (some (.str t)) := .dat (.str t) (shaped_iff.mpr ⟨by simp only [PyData.canLay0]; exact h.2, by simp [PyData.depth]⟩) fun s e => by injection e with e; rw [← e]; exact h.1
/-- what a split asks, within a comprehension too -/
def rSplitN : V → List V → Hp → VK → Prop := fun x xs H Q => ∃ a b, x = .str a ∧ xs = [.str b] ∧ (b.length == 0) = false ∧ a.length + 2 ≤ sizeLine ∧ rNewStrs (Txt.split a b) H Q
/-- what tuple(x) asks, within a comprehension too -/
def rTupOfN (K : PySem.W.Frag) : List V → Hp → VK → Prop := fun xs H Q => ∃ p ys, xs = [V.ref p] ∧ ((SqL K H p ys ∧ ∀ (l : Addr), H l = none → Q (V.ref l) (upd H l (HO.tup ys))) ∨ SqT K H p ys ∧ Q (V.ref p) H)
theorem spl_in (S : List Nat) : ∀ (L acc : List Nat) (k : Nat), (∀ p ∈ TL.spl S k acc L, p.length ≤ acc.length + L.length ∧ ∀ c ∈ p, c ∈ acc ∨ c ∈ L) ∧ (TL.spl S k acc L).length ≤ L.length + 1
  | [], acc, k => by
    rw [TL.spl_nil]
    refine ⟨fun p hp => ?_, by simp⟩
    rw [List.mem_singleton.mp hp]
    exact ⟨by simp, fun c hc => .inl hc⟩
  | c :: r, acc, k + 1 => by
    obtain ⟨h1, h2⟩ := spl_in S r acc k
    refine ⟨fun p hp => ?_, by simp only [List.length_cons]; exact Nat.le_trans h2 (by omega)⟩
    obtain ⟨a, b⟩ := h1 p hp
    exact ⟨by simp only [List.length_cons]; omega, fun c hc => (b c hc).imp id (List.mem_cons_of_mem _)⟩
  | c :: r, acc, 0 => by
    cases h : TL.pre S (c :: r) with
    | true =>
      rw [TL.spl_hit h]
      obtain ⟨h1, h2⟩ := spl_in S r [] (S.length - 1)
      refine ⟨fun p hp => ?_, by simp only [List.length_cons]; omega⟩
      rcases List.mem_cons.mp hp with rfl | hp
      · exact ⟨by simp, fun c hc => .inl hc⟩
      · obtain ⟨a, b⟩ := h1 p hp
        exact ⟨by simp only [List.length_cons, List.length_nil] at a ⊢; omega, fun c hc => .inr (List.mem_cons_of_mem _ ((b c hc).elim (fun z => (List.not_mem_nil z).elim) id))⟩
    | false =>
      rw [TL.spl_miss h]
      obtain ⟨h1, h2⟩ := spl_in S r (acc ++ [c]) 0
      refine ⟨fun p hp => ?_, by simp only [List.length_cons]; omega⟩
      obtain ⟨a, b⟩ := h1 p hp
      refine ⟨by simp only [List.length_append, List.length_cons, List.length_nil] at a ⊢; omega, fun d hd => ?_⟩
      rcases b d hd with z | z
      · rcases List.mem_append.mp z with y | y
        · exact .inl y
        · rw [List.mem_singleton.mp y]
          exact .inr List.mem_cons_self
      · exact .inr (List.mem_cons_of_mem _ z)
theorem tOk_S {L : List Nat} : tOk (SX.S L) ↔ L.length ≤ 100000 ∧ ∀ c ∈ L, c < 0x110000 := by
  unfold tOk
  rw [SX.S_len, strOk_iff]
theorem tOk_sub {L M : List Nat} (h : tOk (SX.S L)) (h1 : M.length ≤ L.length) (h2 : ∀ c ∈ M, c ∈ L) : tOk (SX.S M) := by
  rw [tOk_S] at h ⊢
  exact ⟨Nat.le_trans h1 h.1, fun c hc => h.2 c (h2 c hc)⟩
theorem split_ok {t sep : Str} {s : List Nat} (e : ∀ a, Txt.split (SX.S a) sep = (TL.spl s 0 [] a).map SX.S) (ht : tOk t) : (∀ w ∈ Txt.split t sep, tOk w) ∧ (Txt.split t sep).length ≤ 100001 := by
  rw [← SX.S_tl t] at ht ⊢
  generalize t.cps.toList = L at ht
  rw [e L]
  obtain ⟨h1, h2⟩ := spl_in s L [] 0
  refine ⟨fun w hw => ?_, by rw [List.length_map]; exact Nat.le_trans h2 (by have := (tOk_S.mp ht).1; omega)⟩
  obtain ⟨p, hp, rfl⟩ := List.mem_map.mp hw
  obtain ⟨a, b⟩ := h1 p hp
  exact tOk_sub ht (by simpa using a) fun c hc => (b c hc).elim (fun z => (List.not_mem_nil z).elim) id
/-! ### strengths read from a text: by the program, and by the law -/
def okMB (ms : List Str) : Bool := ms.all nameS && (decide ms.Nodup && decide (ms.length ≤ 8))
def prO (ms : List Str) (w : Str) : Option Pr := match Txt.split w "!" with
  | [a, b] => if a ∈ ms ∧ b ∈ ms then some (a, b) else none
  | _ => none
def prsO (ms : List Str) : List Str → Option (List Pr)
  | [] => some []
  | w :: r => match prO ms w with
    | some p => (prsO ms r).map (p :: ·)
    | none => none
def progP (t : Str) : Option (List Str × List Pr) :=
  if okMB (Txt.split (Txt.partition t ": ").1 " ") = true then (prsO (Txt.split (Txt.partition t ": ").1 " ") (if (Txt.partition t ": ").2.2 = Str.empty then [] else Txt.split (Txt.partition t ": ").2.2 " ")).map fun ps => (Txt.split (Txt.partition t ": ").1 " ", ps) else none
def lawP (tx : List Str → List Pr → Str) (t : Str) : Option (List Str × List Pr) := match Txt.split t ": " with
  | [h] => if okMB (Txt.split h " ") = true then (if tx (Txt.split h " ") [] = t then some (Txt.split h " ", []) else none) else none
  | [h, b] => if okMB (Txt.split h " ") = true then (prsO (Txt.split h " ") (Txt.split b " ")).bind fun ps => if tx (Txt.split h " ") ps = t then some (Txt.split h " ", ps) else none else none
  | _ => none
theorem sep_S : (": " : Str) = SX.S [58, 32] := by decide +kernel
theorem bang_S : ("!" : Str) = SX.S [33] := by decide +kernel
theorem split_sep (a : List Nat) : Txt.split (SX.S a) ": " = (TL.spl [58, 32] 0 [] a).map SX.S := by
  rw [sep_S]
  exact SX.split_S (by decide) (by decide)
theorem split_bang (a : List Nat) : Txt.split (SX.S a) "!" = (TL.spl [33] 0 [] a).map SX.S := by
  rw [bang_S]
  exact SX.split_S (by decide) (by decide)
theorem join_sp (a : List Nat) : Txt.join " " (Txt.split (SX.S a) " ") = SX.S a := by
  rw [split_sp, sp_S, SX.join_S, join_spl, List.nil_append]
theorem prsO_none {ms : List Str} {w : Str} (h : prO ms w = none) : ∀ {ws : List Str}, w ∈ ws → prsO ms ws = none
  | x :: r, hw => by
    unfold prsO
    rcases List.mem_cons.mp hw with e | hr
    · rw [← e, h]
    · rw [prsO_none h hr]
      cases prO ms x <;> rfl
/-- a word that ends with a sign that stands in no name -/
theorem prO_end {ms : List Str} (hn : ∀ s ∈ ms, nameS s = true) (w : List Nat) : prO ms (SX.S (w ++ [58])) = none := by
  obtain ⟨u, hu⟩ := spl_end (c := 33) (d := 58) (by decide) w []
  unfold prO
  rw [split_bang]
  have bad : SX.S (u ++ [58]) ∉ ms := fun hm => by
    have := hn _ hm
    unfold nameS at this
    rw [Bool.and_eq_true, Bool.and_eq_true, Bool.and_eq_true] at this
    have := List.all_eq_true.mp this.2.2.2 58 (by simp [SX.S])
    rw [okSign_is, decide_eq_true_iff] at this
    exact absurd this (by decide +kernel)
  generalize hL : TL.spl [33] 0 [] (w ++ [58]) = L at hu
  split
  · rename_i a b e
    match L, e, hu with
    | [p, q], e, hu =>
      injection e with e1 e2
      injection e2 with e2
      refine if_neg fun h => ?_
      simp only [List.mem_cons, List.not_mem_nil, or_false] at hu
      rcases hu with z | z
      · exact bad (by rw [z, e1]; exact h.1)
      · exact bad (by rw [z, e2]; exact h.2)
  · rfl
theorem okM_names {ms : List Str} (h : okMB ms = true) : ∀ s ∈ ms, nameS s = true := by
  unfold okMB at h
  rw [Bool.and_eq_true] at h
  exact List.all_eq_true.mp h.1
theorem read_same (tx : List Str → List Pr → Str) (t0 : ∀ ms, tx ms [] = Txt.join " " ms) (t : Str) : lawP tx t = (progP t).bind fun r => if tx r.1 r.2 = t then some r else none := by
  rw [← SX.S_tl t]
  generalize t.cps.toList = L
  unfold lawP progP
  rw [split_sep, spl_par [58, 32] (by decide)]
  cases e : TL.par [58, 32] [] L with
  | none =>
    rw [sep_S, SX.partition_none (by decide) e]
    simp only [List.nil_append, List.map_cons, List.map_nil]
    rw [if_pos (show SX.S [] = Str.empty from rfl)]
    by_cases c : okMB (Txt.split (SX.S L) " ") = true
    · rw [if_pos c, if_pos c]
      rfl
    · rw [if_neg c, if_neg c]
      rfl
  | some p =>
    obtain ⟨a, b⟩ := p
    have eL := par_app e
    rw [List.nil_append] at eL
    rw [sep_S, SX.partition_some (by decide) e]
    simp only [List.map_cons]
    rw [spl_par [58, 32] (by decide)]
    cases e2 : TL.par [58, 32] [] b with
    | none =>
      simp only [List.nil_append, List.map_cons, List.map_nil]
      by_cases c : okMB (Txt.split (SX.S a) " ") = true
      · rw [if_pos c, if_pos c]
        by_cases hb : SX.S b = Str.empty
        · rw [if_pos hb]
          have b0 : b = [] := SX.S_inj (hb.trans (show Str.empty = SX.S [] from rfl))
          subst b0
          have : prsO (Txt.split (SX.S a) " ") (Txt.split (SX.S []) " ") = none := by
            rw [split_sp []]
            refine prsO_none (w := SX.S []) ?_ (List.mem_map.mpr ⟨[], by rw [TL.spl_nil]; exact List.mem_singleton.mpr rfl, rfl⟩)
            unfold prO
            rw [split_bang]
            rfl
          rw [this]
          show none = (if _ then _ else _)
          rw [if_neg]
          show tx _ [] ≠ _
          rw [t0, join_sp, eL]
          intro z
          have z := congrArg List.length (SX.S_inj z)
          rw [List.length_append, List.length_append] at z
          simp at z
        · rw [if_neg hb]
          cases prsO (Txt.split (SX.S a) " ") (Txt.split (SX.S b) " ") with
          | none => rfl
          | some ps => rfl
      · rw [if_neg c, if_neg c]
        rfl
    | some p2 =>
      obtain ⟨a2, b2⟩ := p2
      have eb := par_app e2
      rw [List.nil_append] at eb
      have ne : ∃ x y, TL.spl [58, 32] 0 [] b2 = x :: y := by
        rw [spl_par [58, 32] (by decide)]
        cases TL.par [58, 32] [] b2 with
        | none => exact ⟨_, _, rfl⟩
        | some q => exact ⟨_, _, rfl⟩
      obtain ⟨x, y, exy⟩ := ne
      simp only [exy, List.map_cons]
      by_cases c : okMB (Txt.split (SX.S a) " ") = true
      · rw [if_pos c]
        have hb : SX.S b ≠ Str.empty := fun z => by
          have : b = [] := SX.S_inj (z.trans (show Str.empty = SX.S [] from rfl))
          rw [this] at eb
          simp at eb
        rw [if_neg hb]
        obtain ⟨w, hw⟩ := spl_end (c := 32) (d := 58) (by decide) a2 []
        have : prsO (Txt.split (SX.S a) " ") (Txt.split (SX.S b) " ") = none := by
          refine prsO_none (prO_end (okM_names c) w) ?_
          rw [split_sp b]
          refine List.mem_map.mpr ⟨_, ?_, rfl⟩
          have e3 : b = (a2 ++ [58]) ++ 32 :: b2 := by rw [eb]; simp
          rw [e3, spl_app]
          exact List.mem_append_left _ hw
        rw [this]
        rfl
      · rw [if_neg c]
        rfl
/-! ### promises -/
theorem join_one (a x : Str) : Txt.join a [x] = x := TL.ext_tl (by rw [TL.join_eq, TL.tl_join]; rfl)
theorem textM_nil (ms : List Str) : textM ms [] = Txt.join " " ms := by
  cases ms with
  | nil => rfl
  | cons m r => exact join_one _ _
def sp_parsed (K : PySem.W.Frag) (C : Addr) (Cs : Nat → Addr) : Sp := fun vs H Q E => ∃ t : Str, vs = [.str t] ∧ tOk t ∧ (progP t = none → ∀ q : Nat × V, q.1 ≤ 5 → Ex6 H E Cs q) ∧
  ∀ ms ps, progP t = some (ms, ps) → ∀ H' x, Same H H' → StrAt K C H' x ms (ag ms ps) → Q (.ref x) H'
def readT (t : Str) : Option (List Str × List Pr) := (progP t).bind fun r => if textM r.1 (prsOf (ag r.1 r.2) r.1) = t then some r else none
/-- data, a dict, or strengths -/
def RV (K : PySem.W.Frag) (C : Addr) (H : Hp) (v : V) (o : Option PyData) : Prop := VD K H v o ∨ (o = none ∧ ∃ a dx fs, v = .ref a ∧ H a = some (.ins C dx fs))
theorem RV.mono {K : PySem.W.Frag} {C : Addr} {H H' : Hp} {v : V} {o : Option PyData} (s : Same H H') (h : RV K C H v o) : RV K C H' v o := by
  rcases h with h | ⟨e, a, dx, fs, e2, h⟩
  · exact .inl (h.mono s)
  · exact .inr ⟨e, a, dx, fs, e2, s _ _ h⟩
theorem RV.sure {K : PySem.W.Frag} {C : Addr} {H : Hp} {v : V} {o : Option PyData} (h : RV K C H v o) : sureV v = true := by
  rcases h with h | ⟨_, a, _, _, rfl, _⟩
  · exact vd_sure h
  · rfl
def sp_readS (K : PySem.W.Frag) (C Ct : Addr) : Sp := fun vs H Q E => ∃ (v : V) (o : Option PyData), vs = [v] ∧ RV K C H v o ∧ ((∀ t ms ps, o = some (.str t) → readT t = some (ms, ps) → ∀ H' x, Same H H' → StrAt K C H' x ms (ag ms ps) → Q (.ref x) H')) ∧
  ((∀ t, o = some (.str t) → readT t = none) → Rz H E Ct "value" v)
def sp_ltext (K : PySem.W.Frag) : Sp := fun vs H Q _ => ∃ (m l1 l2 : Addr) (ms : List Str) (ps : List Pr), vs = [.ref m] ∧ Model K H m l1 l2 ms ps ∧ (∀ s ∈ ms, nameS s = true) ∧ ms.length ≤ 8 ∧ 1 ≤ ms.length ∧ okPs ms ps ∧ ∀ H', Same H H' → Q (.str (textM ms (prsOf (ag ms ps) ms))) H'
theorem part_ok {t : Str} (ht : tOk t) : tOk (Txt.partition t ": ").1 ∧ tOk (Txt.partition t ": ").2.2 := by
  rw [← SX.S_tl t] at ht ⊢
  generalize t.cps.toList = L at ht
  rw [sep_S]
  cases e : TL.par [58, 32] [] L with
  | none =>
    rw [SX.partition_none (by decide) e]
    exact ⟨ht, tOk_sub ht (by simp) fun c hc => (List.not_mem_nil hc).elim⟩
  | some p =>
    obtain ⟨a, b⟩ := p
    rw [SX.partition_some (by decide) e]
    have eL := par_app e
    rw [List.nil_append] at eL
    subst eL
    exact ⟨tOk_sub ht (by simp) (by simp; intro c hc; exact .inl hc), tOk_sub ht (by simp; omega) (by simp; intro c hc; exact .inr (.inr (.inr hc)))⟩
def tupD (w : Str) : PyData := .tuple ((Txt.split w "!").map PyData.str)
theorem can_str {w : Str} (h : tOk w) : (PyData.str w).canLay0 = true ∧ (PyData.str w).depth ≤ 0 := ⟨by simp only [PyData.canLay0]; exact h.2, by simp [PyData.depth]⟩
theorem its_strs {K : PySem.W.Frag} {H : Hp} {ws : List Str} (h : ∀ w ∈ ws, tOk w) (l : ws.length ≤ 100001) : Its K H (ws.map V.str) (ws.map PyData.str) := by
  refine ⟨dpAll_strs ws, by rw [List.length_map]; omega, fun d hd => ?_⟩
  obtain ⟨s, hs, rfl⟩ := List.mem_map.mp hd
  exact ⟨⟨(can_str (h s hs)).1, Nat.le_trans (can_str (h s hs)).2 (by decide)⟩, fun t e => by injection e with e; rw [← e]; exact (h s hs).1⟩
theorem its_tups {K : PySem.W.Frag} {H : Hp} {zs : List V} {ws : List Str} (dp : DpAll K H zs (ws.map tupD)) (h : ∀ w ∈ ws, tOk w) (l : ws.length ≤ 100001) : Its K H zs (ws.map tupD) := by
  refine ⟨dp, by rw [List.length_map]; omega, fun d hd => ?_⟩
  obtain ⟨s, hs, rfl⟩ := List.mem_map.mp hd
  have a : ∀ d ∈ (Txt.split s "!").map PyData.str, d.canLay0 = true ∧ d.depth ≤ 0 := fun d hd => by
    obtain ⟨u, hu, rfl⟩ := List.mem_map.mp hd
    exact can_str ((split_ok split_bang (h s hs)).1 u hu)
  have dl := depthAll_le fun d hd => (a d hd).2
  exact ⟨⟨by simp only [tupD, PyData.canLay0]; exact canAll_mem.mpr fun d hd => (a d hd).1, by simp only [tupD, PyData.depth]; omega⟩, fun t e => nomatch e⟩
/-- what is wrong with the pairs, and how they are read -/
theorem clS_prsO {K : PySem.W.Frag} {H : Hp} {ms : List Str} {xs : List V} {ds : List PyData} {r : Option (Nat × V)} {ps : List Pr} (h : ClS K H ms xs ds r ps) : ∀ ws : List Str, ws.map tupD = ds → (r = none → prsO ms ws = some ps) ∧ ∀ q, r = some q → prsO ms ws = none := by
  have two : ∀ (w : Str) (e1 e2 : PyData), tupD w = .tuple [e1, e2] → ∃ a b, Txt.split w "!" = [a, b] ∧ e1 = .str a ∧ e2 = .str b := fun w e1 e2 e => by
    unfold tupD at e
    injection e with e
    match Txt.split w "!", e with
    | [a, b], e =>
      injection e with z1 z2
      injection z2 with z2
      exact ⟨a, b, rfl, z1.symm, z2.symm⟩
  have md : ∀ a : Str, modeB ms (.str a) = false → a ∉ ms := fun a e hm => by
    rw [(modeB_iff ms (.str a)).mpr ⟨a, hm, rfl⟩] at e
    cases e
  induction h with
  | nil =>
    intro ws e
    cases ws with
    | nil => exact ⟨fun _ => rfl, fun q e => nomatch e⟩
    | cons w r => cases e
  | odd a b =>
    intro ws e
    cases ws with
    | nil => cases e
    | cons w r =>
      injection e with e1 e2
      refine ⟨(fun e => nomatch e), fun q _ => prsO_none (w := w) ?_ List.mem_cons_self⟩
      unfold prO
      rw [← e1] at b
      rcases b with b | ⟨es, b, l⟩
      · cases b
      · unfold tupD at b
        injection b with b
        split
        · rename_i x y e
          rw [e] at b
          rw [← b] at l
          exact absurd rfl l
        · rfl
  | one a b c d =>
    intro ws e
    cases ws with
    | nil => cases e
    | cons w r =>
      injection e with e1 e2
      obtain ⟨x, y, es, rfl, rfl⟩ := two _ _ _ e1
      refine ⟨(fun e => nomatch e), fun q _ => prsO_none (w := w) ?_ List.mem_cons_self⟩
      unfold prO
      rw [es]
      exact if_neg fun z => md x d z.1
  | two a b c d f =>
    intro ws e
    cases ws with
    | nil => cases e
    | cons w r =>
      injection e with e1 e2
      obtain ⟨x, y, es, rfl, rfl⟩ := two _ _ _ e1
      refine ⟨(fun e => nomatch e), fun q _ => prsO_none (w := w) ?_ List.mem_cons_self⟩
      unfold prO
      rw [es]
      exact if_neg fun z => md y f z.2
  | @ok t a b xs ds r ps st ha hb _ ih =>
    intro ws e
    cases ws with
    | nil => cases e
    | cons w rs =>
      injection e with e1 e2
      obtain ⟨x, y, es, z1, z2⟩ := two _ _ _ e1
      injection z1 with z1
      injection z2 with z2
      subst z1 z2
      have p : prO ms w = some (a, b) := by
        unfold prO
        rw [es]
        exact if_pos ⟨ha, hb⟩
      obtain ⟨i1, i2⟩ := ih rs e2
      unfold prsO
      rw [p]
      refine ⟨fun e => ?_, fun q e => ?_⟩
      · show (prsO ms rs).map _ = _
        rw [i1 e]
        rfl
      · show (prsO ms rs).map _ = _
        rw [i2 q e]
        rfl
theorem both_prog {K : PySem.W.Frag} {H : Hp} {lm D : Addr} {hw ws : List Str} {zs : List V} (hl : SqL K H lm (hw.map V.str)) (h1 : ∀ w ∈ hw, tOk w) (l1 : hw.length ≤ 100001) (l0 : 1 ≤ hw.length) (hD : SqL K H D zs) (dp : DpAll K H zs (ws.map tupD)) (h2 : ∀ w ∈ ws, tOk w) (l2 : ws.length ≤ 100001) :
    ∃ r ms ps, Both K H (.ref lm) (.ref D) r ms ps ∧ (r = none → (if okMB hw = true then (prsO hw ws).map fun ps => (hw, ps) else none) = some (ms, ps)) ∧ ∀ q, r = some q → (if okMB hw = true then (prsO hw ws).map fun ps => (hw, ps) else none) = none := by
  have it := its_strs (K := K) (H := H) h1 l1
  have okm : okMB hw = true → (∀ s ∈ hw, nameS s = true) ∧ hw.Nodup ∧ hw.length ≤ 8 := fun h => by
    unfold okMB at h
    rw [Bool.and_eq_true, Bool.and_eq_true, decide_eq_true_iff, decide_eq_true_iff] at h
    exact ⟨List.all_eq_true.mp h.1, h.2.1, h.2.2⟩
  cases e : scanM (hw.map V.str) (hw.map PyData.str) [] with
  | some q =>
    refine ⟨_, _, _, .bad (.bad hl it e), (fun e => nomatch e), fun _ _ => if_neg fun c => ?_⟩
    obtain ⟨a, b, _⟩ := okm c
    rw [scan_ok hw [] a b fun s _ h => (List.not_mem_nil h).elim] at e
    cases e
  | none =>
    obtain ⟨ms, _, e2, hn, nd⟩ := scan_names [] it.1 e
    have em : hw = ms := by
      have e3 := congrArg (List.map strOf) e2
      rw [List.map_map, List.map_map] at e3
      have id : strOf ∘ PyData.str = id := rfl
      rw [id, List.map_id, List.map_id] at e3
      exact e3
    subst em
    by_cases c : hw.length ≤ 8
    · have ok : okMB hw = true := by
        unfold okMB
        rw [Bool.and_eq_true, Bool.and_eq_true, decide_eq_true_iff, decide_eq_true_iff]
        exact ⟨List.all_eq_true.mpr fun s hs => (hn s hs).1, nd, c⟩
      obtain ⟨r, ps, hc⟩ := clS_all hw dp
      obtain ⟨i1, i2⟩ := clS_prsO hc ws rfl
      refine ⟨r, hw, ps, .go (.ok hl (fun s hs => (hn s hs).1) nd ⟨l0, c⟩) (.lst hD (its_tups dp h2 l2) hc), fun e => ?_, fun q e => ?_⟩
      · rw [if_pos ok, i1 e]
        rfl
      · rw [if_pos ok, i2 q e]
        rfl
    · refine ⟨_, _, _, .bad (.len hl it e (by rw [List.length_map]; omega)), (fun e => nomatch e), fun _ _ => if_neg fun z => c (okm z).2.2⟩
theorem list_or_split {σ : L2.St} {Q : VK} {H : Hp} {c : Bool} {s : Str} (hv : σ[3]? = some (some (.str s))) (hs : s.length ≤ 100000) (rest : ∀ p H' ws, Same H H' → H' p = some (.lst (ws.map V.str)) → ws = (if c = true then [] else Txt.split s " ") → Q (.ref p) H') :
    if c = true then tLst tNil σ H Q else tM1 rSplitN (tVar 3) (tC (V.str " ")) σ H Q := by
  cases c with
  | true => exact iteT ⟨by show 0 ≤ sizeLine; decide, fun p hp => rest p _ [] (same_new hp) upd_same rfl⟩
  | false => exact iteF ⟨_, hv, ⟨s, rfl⟩, s, " ", rfl, rfl, by decide +kernel, Nat.le_trans (Nat.add_le_add_right hs 2) (by show 100002 ≤ sizeLine; decide), fun p hp => rest p _ _ (same_new hp) upd_same rfl⟩
theorem join_two (a x y : Str) : Txt.join a [x, y] = x ++ (a ++ y) := TL.ext_tl (by
  rw [TL.join_eq, TL.tl_join, TL.tl_append, TL.tl_append]
  rfl)
theorem join_nil (a : Str) : Txt.join a [] = Str.empty := TL.ext_tl (by rw [TL.join_eq, TL.tl_join]; rfl)
theorem app_emp (a : Str) : a ++ Str.empty = a := TL.ext_tl (by rw [TL.tl_append]; exact List.append_nil _)
theorem prT_eq (p : Pr) : prT p = (p.1 ++ ("!" : Str)) ++ p.2 := by
  unfold prT
  rw [emp_app]
theorem text_none {ms : List Str} : Txt.join " " ms ++ Str.empty = textM ms [] := by rw [app_emp, textM_nil]
theorem text_some {ms : List Str} (h : 1 ≤ ms.length) {pp : List Pr} (hp : pp ≠ []) : Txt.join " " ms ++ ((": " : Str) ++ Txt.join " " (pp.map prT)) = textM ms pp := by
  unfold textM
  have l : 0 < (pp.map prT).length := by
    rw [List.length_map]
    exact List.length_pos_iff.mpr hp
  have e : (([ms, pp.map prT] : List (List Str)).filter fun ws => decide (0 < ws.length)) = [ms, pp.map prT] := by
    have a : decide (0 < ms.length) = true := decide_eq_true h
    have b : decide (0 < (pp.map prT).length) = true := decide_eq_true l
    simp only [List.filter, a, b]
  rw [e]
  exact (join_two _ _ _).symm
theorem prs_text {pp : List Pr} (hp : pp ≠ []) : Txt.join " " (pp.map prT) ≠ Str.empty := fun z => by
  cases pp with
  | nil => exact hp rfl
  | cons p r =>
    have e := congrArg TL.tl z
    rw [TL.join_eq, TL.tl_join, List.map_cons, List.map_cons, prT_eq, TL.tl_append, TL.tl_append] at e
    cases r with
    | nil => simp [TL.joinL, TL.tl, Str.empty] at e; exact absurd e.2.1 (by decide +kernel)
    | cons q r =>
      rw [List.map_cons, List.map_cons, TL.joinL] at e
      have := congrArg List.length e
      have b : (TL.tl ("!" : Str)).length = 1 := by decide +kernel
      simp only [List.length_append, b] at this
      have c : (TL.tl Str.empty).length = 0 := rfl
      omega
def sp_lbent18 : Sp := fun vs H Q _ => ∃ (H0 : Hp) (p : Addr) (n : Nat) (t : Str), vs = [.ref p, .str t] ∧ BoxIn H0 H p n ∧ tOk t ∧ t.length ≤ 950 ∧ n + 3 < 1000000 ∧
  ∀ (H' : Hp) (u : Str), BoxIn H0 H' p (n + 3) → tOk u → u.length ≤ t.length + 7 → Q (.str u) H'
def sp_lisname (K : PySem.W.Frag) : Sp := fun vs H Q _ => ∃ t : Str, vs = [.str t] ∧ tOk t ∧ ∀ H', Same H H' → Q (.bl (nameS t)) H'
theorem cutl (x : Str) (i : Nat) : (cutS x none (some (i : Int))).length ≤ i := by
  show (((x.cps.toList.drop (HT.sIx x.length 0 none)).take (HT.sIx x.length x.length (some (i : Int)) - HT.sIx x.length 0 none)).toArray).size ≤ _
  rw [List.size_toArray, List.length_take, HT.sIx_none, HT.sIx_nat]
  omega
theorem cutr (x : Str) (j : Nat) : (cutS x (some (j : Int)) none).length ≤ x.length - j := by
  show (((x.cps.toList.drop (HT.sIx x.length 0 (some (j : Int)))).take (HT.sIx x.length x.length none - HT.sIx x.length 0 (some (j : Int)))).toArray).size ≤ _
  rw [List.size_toArray, List.length_take, HT.sIx_none, HT.sIx_nat]
  omega
def txS (ms : List Str) (ps : List Pr) : Str := textM ms (prsOf (ag ms ps) ms)
theorem prs_none (ms : List Str) : prsOf (ag ms []) ms = [] := by
  cases h : prsOf (ag ms []) ms with
  | nil => rfl
  | cons p r =>
    have hp : p ∈ prsOf (ag ms []) ms := by rw [h]; exact List.mem_cons_self
    obtain ⟨l, hl, hq⟩ := List.mem_flatten.mp hp
    obtain ⟨j, _, rfl⟩ := List.mem_map.mp hl
    obtain ⟨m, r', e, e1, e2, e3⟩ := mem_outP hq
    have := (List.mem_filter.mp e3).2
    simp [adj] at this
theorem txS_nil (ms : List Str) : txS ms [] = Txt.join " " ms := by
  unfold txS
  rw [prs_none, textM_nil]
theorem law_reads (t : Str) : lawP txS t = readT t := read_same txS txS_nil t
def sp_lread (K : PySem.W.Frag) : Sp := fun vs H Q _ => ∃ t : Str, vs = [.str t] ∧ tOk t ∧ (lawP txS t = none → ∀ H', Same H H' → Q .non H') ∧
  ∀ ms ps, lawP txS t = some (ms, ps) → ∀ (H' : Hp) (q l1 l2 : Addr), Same H H' → Model K H' q l1 l2 ms ps → (∀ s ∈ ms, nameS s = true) → ms.Nodup → 1 ≤ ms.length → ms.length ≤ 8 → okPs ms ps → Q (.ref q) H'
/-! ### the law's reading -/
def wsR : List Str → List Str
  | [] => []
  | b :: _ => Txt.split b " "
theorem lawP_eq (tx : List Str → List Pr → Str) {t h : Str} {r : List Str} (eh : Txt.split t ": " = h :: r) : lawP tx t = if r.length ≤ 1 ∧ okMB (Txt.split h " ") = true then (prsO (Txt.split h " ") (wsR r)).bind fun ps => if tx (Txt.split h " ") ps = t then some (Txt.split h " ", ps) else none else none := by
  unfold lawP
  rw [eh]
  by_cases c : okMB (Txt.split h " ") = true
  · match r with
    | [] => simp [c, wsR, prsO]
    | [b] => simp [c, wsR]
    | b :: d :: e => simp
  · match r with
    | [] => simp [c]
    | [b] => simp [c]
    | b :: d :: e => simp
theorem split_or_list {K : PySem.W.Frag} {σ : L2.St} {Q : VK} {H : Hp} {c : Bool} {q1 : Addr} {xs : List V} {ws : List Str} (hv : σ[1]? = some (some (.ref q1))) (sq : SqL K H q1 xs) (h1 : c = true → ∃ b, atI xs 1 = some (.str b) ∧ b.length ≤ 100000 ∧ ws = Txt.split b " ") (h2 : c = false → ws = [])
    (rest : ∀ p H', Same H H' → H p = none → H' p = some (.lst (ws.map V.str)) → Q (.ref p) H') : if c = true then tM1 rSplitN (tOp (rIxL K) (tVar 1) (tC (.int 1))) (tC (V.str " ")) σ H Q else tLst tNil σ H Q := by
  cases c with
  | true =>
    obtain ⟨b, e1, e2, rfl⟩ := h1 rfl
    exact iteT ⟨_, hv, q1, xs, 1, .str b, rfl, rfl, sq, e1, ⟨b, rfl⟩, b, " ", rfl, rfl, by decide +kernel, Nat.le_trans (Nat.add_le_add_right e2 2) (by show 100002 ≤ sizeLine; decide), fun p hp => rest p _ (same_new hp) hp upd_same⟩
  | false =>
    rw [h2 rfl] at rest
    exact iteF ⟨by show 0 ≤ sizeLine; decide, fun p hp => rest p _ (same_new hp) hp upd_same⟩
def badI (ms : List Str) (i : Nat) : Bool := !(nameS (ms.getD i Str.empty)) || decide (ms.getD i Str.empty ∈ ms.take i)
theorem badI_at {ms : List Str} {i : Nat} {w : Str} (h : ms[i]? = some w) : badI ms i = (!(nameS w) || decide (w ∈ ms.take i)) := by
  unfold badI
  rw [List.getD_eq_getElem?_getD, h]
  rfl
theorem names_bad (ms : List Str) : ((List.range ms.length).filter (badI ms)).isEmpty = (ms.all nameS && decide ms.Nodup) := by
  rw [Bool.eq_iff_iff, List.isEmpty_iff, List.filter_eq_nil_iff, Bool.and_eq_true, List.all_eq_true, decide_eq_true_iff]
  constructor
  · intro h
    have key : ∀ i w, ms[i]? = some w → nameS w = true ∧ w ∉ ms.take i := fun i w hw => by
      have := h i (List.mem_range.mpr (List.getElem?_eq_some_iff.mp hw).1)
      rw [badI_at hw] at this
      simpa using this
    refine ⟨fun s hs => ?_, List.pairwise_iff_getElem.mpr fun i j hi hj hij e => ?_⟩
    · obtain ⟨i, hi⟩ := List.mem_iff_getElem?.mp hs
      exact (key i s hi).1
    · refine (key j _ (List.getElem?_eq_getElem hj)).2 ?_
      rw [← e]
      exact List.mem_iff_getElem?.mpr ⟨i, by rw [List.getElem?_take_of_lt hij]; exact List.getElem?_eq_getElem hi⟩
  · rintro ⟨h1, h2⟩ i hi
    have hw := List.getElem?_eq_getElem (List.mem_range.mp hi)
    rw [badI_at hw, h1 _ (List.getElem_mem _)]
    rw [Bool.not_true, Bool.false_or, decide_eq_true_iff]
    intro hm
    obtain ⟨j, hj, e⟩ := List.mem_iff_getElem.mp hm
    rw [List.length_take] at hj
    rw [List.getElem_take] at e
    exact (List.pairwise_iff_getElem.mp h2) j i (by omega) (List.mem_range.mp hi) (by omega) e
/-! ### a text told is read back -/
theorem name_free {s : Str} (h : nameS s = true) {c : Nat} (hc : okSign c = false) : c ∉ TL.tl s := fun hm => by
  unfold nameS at h
  rw [Bool.and_eq_true, Bool.and_eq_true, Bool.and_eq_true] at h
  have := List.all_eq_true.mp h.2.2.2 c hm
  rw [hc] at this
  cases this
theorem join_free {c : Nat} {a : Str} (ha : c ∉ TL.tl a) {ys : List Str} (h : ∀ y ∈ ys, c ∉ TL.tl y) : c ∉ TL.tl (Txt.join a ys) := by
  rw [TL.join_eq, TL.tl_join]
  induction ys with
  | nil => exact fun z => (List.not_mem_nil z).elim
  | cons y r ih =>
    have ih := ih fun z hz => h z (List.mem_cons_of_mem _ hz)
    cases r with
    | nil => exact h y List.mem_cons_self
    | cons q r =>
      rw [List.map_cons, List.map_cons, TL.joinL]
      intro z
      rcases List.mem_append.mp z with z | z
      · exact h y List.mem_cons_self z
      · rcases List.mem_append.mp z with z | z
        · exact ha z
        · exact ih z
theorem tl_sp : TL.tl (" " : Str) = [32] := by decide +kernel
theorem tl_sep : TL.tl (": " : Str) = [58, 32] := by decide +kernel
theorem tl_bang : TL.tl ("!" : Str) = [33] := by decide +kernel
theorem prT_free {ms : List Str} (hn : ∀ s ∈ ms, nameS s = true) {p : Pr} (h : p.1 ∈ ms ∧ p.2 ∈ ms) : 32 ∉ TL.tl (prT p) := by
  rw [prT_eq, TL.tl_append, TL.tl_append, tl_bang]
  have h1 := name_free (hn _ h.1) (c := 32) (by decide +kernel)
  have h2 := name_free (hn _ h.2) (c := 32) (by decide +kernel)
  intro z
  rcases List.mem_append.mp z with z | z
  · rcases List.mem_append.mp z with z | z
    · exact h1 z
    · exact absurd z (by decide)
  · exact h2 z
theorem split_prT {ms : List Str} (hn : ∀ s ∈ ms, nameS s = true) {p : Pr} (h : p.1 ∈ ms ∧ p.2 ∈ ms) : Txt.split (prT p) "!" = [p.1, p.2] := by
  have e : prT p = Txt.join "!" [p.1, p.2] := by
    rw [prT_eq, join_two]
    exact TL.ext_tl (by rw [TL.tl_append, TL.tl_append, TL.tl_append, TL.tl_append, List.append_assoc])
  rw [e]
  exact TL.split_join tl_bang (by decide +kernel) (by simp) fun q hq => by
    simp only [List.mem_cons, List.not_mem_nil, or_false] at hq
    rcases hq with rfl | rfl
    · exact name_free (hn _ h.1) (by decide +kernel)
    · exact name_free (hn _ h.2) (by decide +kernel)
theorem prsO_told {ms : List Str} (hn : ∀ s ∈ ms, nameS s = true) : ∀ {pp : List Pr}, (∀ p ∈ pp, p.1 ∈ ms ∧ p.2 ∈ ms) → prsO ms (pp.map prT) = some pp
  | [], _ => rfl
  | p :: r, h => by
    have hp := h p List.mem_cons_self
    have ih := prsO_told hn fun q hq => h q (List.mem_cons_of_mem _ hq)
    have e : prO ms (prT p) = some p := by
      unfold prO
      rw [split_prT hn hp]
      exact if_pos hp
    rw [List.map_cons]
    unfold prsO
    rw [e, ih]
    rfl
theorem progP_told {ms : List Str} (hn : ∀ s ∈ ms, nameS s = true) (nd : ms.Nodup) (l1 : 1 ≤ ms.length) (l8 : ms.length ≤ 8) {pp : List Pr} (hp : ∀ p ∈ pp, p.1 ∈ ms ∧ p.2 ∈ ms) : progP (textM ms pp) = some (ms, pp) := by
  have ne : ms ≠ [] := fun z => by
    rw [z] at l1
    exact absurd l1 (by decide)
  have ok : okMB ms = true := by
    unfold okMB
    rw [Bool.and_eq_true, Bool.and_eq_true, decide_eq_true_iff, decide_eq_true_iff]
    exact ⟨List.all_eq_true.mpr hn, nd, l8⟩
  have sm : Txt.split (Txt.join " " ms) " " = ms := TL.split_join tl_sp (by decide +kernel) ne fun q hq => name_free (hn q hq) (by decide +kernel)
  have cf : 58 ∉ TL.tl (Txt.join " " ms) := join_free (by rw [tl_sp]; decide) fun y hy => name_free (hn y hy) (by decide +kernel)
  unfold progP
  by_cases c : pp = []
  · subst c
    rw [textM_nil, TL.partition_none tl_sep cf]
    show (if okMB (Txt.split (Txt.join " " ms) " ") = true then _ else _) = _
    rw [sm, if_pos ok, if_pos rfl]
    rfl
  · rw [← text_some l1 c]
    have ea : Txt.join " " ms ++ ((": " : Str) ++ Txt.join " " (pp.map prT)) = Txt.join " " ms ++ (": " : Str) ++ Txt.join " " (pp.map prT) := TL.ext_tl (by rw [TL.tl_append, TL.tl_append, TL.tl_append, TL.tl_append, List.append_assoc])
    rw [ea, TL.partition_app tl_sep cf]
    have sp : Txt.split (Txt.join " " (pp.map prT)) " " = pp.map prT := TL.split_join tl_sp (by decide +kernel) (by simpa using c) fun q hq => by
      obtain ⟨p, hp', rfl⟩ := List.mem_map.mp hq
      exact prT_free hn (hp p hp')
    show (if okMB (Txt.split (Txt.join " " ms) " ") = true then _ else _) = _
    rw [sm, if_pos ok, if_neg (prs_text c), sp, prsO_told hn hp]
    rfl
/-- the pairs that are told tell the same strengths -/
theorem ag_told {ms : List Str} (ps : List Pr) : ∀ m ∈ ms, ag ms (prsOf (ag ms ps) ms) m = ag ms ps m := by
  intro a ha
  refine ag_congr fun b hb => ?_
  obtain ⟨i, hi⟩ := List.mem_iff_getElem?.mp ha
  obtain ⟨j, hj⟩ := List.mem_iff_getElem?.mp hb
  have up : ∀ x y : Str, (x, y) ∈ prsOf (ag ms ps) ms → adj ps x y = true := fun x y h => by
    obtain ⟨l, hl, hp⟩ := List.mem_flatten.mp h
    obtain ⟨j, _, rfl⟩ := List.mem_map.mp hl
    obtain ⟨m, r, e, e1, e2, e3⟩ := mem_outP hp
    have e1 : x = m := e1
    subst e1
    exact (List.mem_filter.mp e3).2
  rw [Bool.eq_iff_iff]
  constructor
  · intro h
    unfold adj at h
    rw [Bool.or_eq_true, decide_eq_true_iff, decide_eq_true_iff] at h
    rcases h with h | h
    · exact up a b h
    · rw [adj_symm]
      exact up b a h
  · intro h
    unfold adj
    rw [Bool.or_eq_true, decide_eq_true_iff, decide_eq_true_iff]
    rcases Nat.le_total i j with l | l
    · exact .inl ((in_prs hi hj l).mpr ((mem_ag hb).mpr h))
    · exact .inr ((in_prs hj hi l).mpr ((mem_ag ha).mpr (by rw [adj_symm]; exact h)))
theorem readT_told {ms : List Str} (hn : ∀ s ∈ ms, nameS s = true) (nd : ms.Nodup) (l1 : 1 ≤ ms.length) (l8 : ms.length ≤ 8) (ps : List Pr) : readT (textM ms (prsOf (ag ms ps) ms)) = some (ms, prsOf (ag ms ps) ms) := by
  unfold readT
  rw [progP_told hn nd l1 l8 fun p hp => mem_prsOf hp]
  have e : prsOf (ag ms (prsOf (ag ms ps) ms)) ms = prsOf (ag ms ps) ms := prsOf_congr (ag_told ps)
  show (if textM ms (prsOf (ag ms (prsOf (ag ms ps) ms)) ms) = _ then _ else _) = _
  rw [e, if_pos rfl]
def sp_ltold18 (K : PySem.W.Frag) (C : Addr) : Sp := fun vs H Q _ => ∃ (v : V) (o : Option PyData), vs = [v] ∧ RV K C H v o ∧ (∀ t ms ps, o = some (.str t) → readT t = some (ms, ps) → ∀ H' q x, Same H H' → H' q = some (.lst [.str "read", .ref x]) → StrAt K C H' x ms (ag ms ps) → Q (.ref q) H') ∧
  ((∀ t, o = some (.str t) → readT t = none) → ∀ H' q, Same H H' → H' q = some (.lst [.str "text", v]) → Q (.ref q) H')
theorem told_len {ms : List Str} (hn : ∀ s ∈ ms, nameS s = true) (l8 : ms.length ≤ 8) (l1 : 1 ≤ ms.length) {pp : List Pr} (hp : ∀ p ∈ pp, p.1 ∈ ms ∧ p.2 ∈ ms) (l : pp.length ≤ 40) : tOk (textM ms pp) ∧ (textM ms pp).length ≤ 900 := by
  have p1 : ∀ y ∈ ms, y.length ≤ 8 := fun y hy => nameS_len (hn y hy)
  have p2 : ∀ y ∈ pp.map prT, y.length ≤ 17 := fun y hy => by
    obtain ⟨p, h, rfl⟩ := List.mem_map.mp hy
    have h1 := nameS_len (hn _ (hp p h).1)
    have h2 := nameS_len (hn _ (hp p h).2)
    have z1 : ("!" : Str).length = 1 := by decide +kernel
    rw [prT_eq, Str.length_append, Str.length_append]
    omega
  have zs : (" " : Str).length = 1 := by decide +kernel
  have zc : (": " : Str).length = 2 := by decide +kernel
  have s1 := sum_le ms 8 p1
  have s2 := sum_le (pp.map prT) 17 p2
  have j1 := join_len (" " : Str) ms
  have j2 := join_len (" " : Str) (pp.map prT)
  rw [List.length_map] at s2 j2
  rw [zs] at j1 j2
  have m1 : ms.length * 8 ≤ 8 * 8 := Nat.mul_le_mul_right _ l8
  have m2 : pp.length * 17 ≤ 40 * 17 := Nat.mul_le_mul_right _ l
  have key : (textM ms pp).length ≤ 900 := by
    by_cases c : pp = []
    · subst c
      rw [textM_nil]
      omega
    · rw [← text_some l1 c, Str.length_append, Str.length_append, zc]
      omega
  have ok1 : ∀ y ∈ ms, ∀ c ∈ TL.tl y, c < 0x110000 := fun y hy c hc => strOk_iff.mp (nameS_ok (hn y hy)) c hc
  have jn : ∀ (ys : List Str), (∀ y ∈ ys, ∀ c ∈ TL.tl y, c < 0x110000) → ∀ c ∈ TL.tl (Txt.join " " ys), c < 0x110000 := fun ys h c hc => Classical.byContradiction fun z => join_free (c := c) (by rw [tl_sp]; intro q; rw [List.mem_singleton.mp q] at z; exact z (by decide)) (fun y hy q => z (h y hy c q)) hc
  have ok2 : ∀ y ∈ pp.map prT, ∀ c ∈ TL.tl y, c < 0x110000 := fun y hy c hc => by
    obtain ⟨p, h, rfl⟩ := List.mem_map.mp hy
    rw [prT_eq, TL.tl_append, TL.tl_append, tl_bang] at hc
    rcases List.mem_append.mp hc with q | q
    · rcases List.mem_append.mp q with q | q
      · exact ok1 _ (hp p h).1 c q
      · rw [List.mem_singleton.mp q]
        decide
    · exact ok1 _ (hp p h).2 c q
  refine ⟨⟨Nat.le_trans key (by decide), strOk_iff.mpr fun c hc => ?_⟩, key⟩
  have hc : c ∈ TL.tl (textM ms pp) := hc
  by_cases e : pp = []
  · subst e
    rw [textM_nil] at hc
    exact jn ms ok1 c hc
  · rw [← text_some l1 e, TL.tl_append, TL.tl_append, tl_sep] at hc
    rcases List.mem_append.mp hc with q | q
    · exact jn ms ok1 c q
    · rcases List.mem_append.mp q with q | q
      · simp only [List.mem_cons, List.not_mem_nil, or_false] at q
        rcases q with rfl | rfl
        all_goals decide
      · exact jn _ ok2 c q
theorem outP_len {f : Str → List Str} : ∀ {l : List Str}, (outP f l).length ≤ l.length
  | [] => Nat.zero_le _
  | m :: r => by
    show (((m :: r).filter _).map _).length ≤ _
    rw [List.length_map]
    exact List.length_filter_le _ _
theorem prs36 (f : Str → List Str) {ms : List Str} (l8 : ms.length ≤ 8) : (prsOf f ms).length ≤ 40 := by
  have key : ∀ i, i ≤ ms.length → 2 * (prsA f ms i).length ≤ i * (2 * ms.length + 1 - i) := fun i => by
    induction i with
    | zero => exact fun _ => Nat.zero_le _
    | succ i ih =>
      intro hi
      have ih := ih (by omega)
      have o := outP_len (f := f) (l := ms.drop i)
      rw [List.length_drop] at o
      rw [prsA_succ, List.length_append]
      have hm : ms.length ≤ 8 := l8
      generalize ms.length = n at *
      generalize (prsA f ms i).length = x at *
      generalize (outP f (ms.drop i)).length = y at *
      have : n = 0 ∨ n = 1 ∨ n = 2 ∨ n = 3 ∨ n = 4 ∨ n = 5 ∨ n = 6 ∨ n = 7 ∨ n = 8 := by omega
      have hi8 : i = 0 ∨ i = 1 ∨ i = 2 ∨ i = 3 ∨ i = 4 ∨ i = 5 ∨ i = 6 ∨ i = 7 := by omega
      rcases this with rfl | rfl | rfl | rfl | rfl | rfl | rfl | rfl | rfl <;> rcases hi8 with rfl | rfl | rfl | rfl | rfl | rfl | rfl | rfl <;> omega
  have := key ms.length (Nat.le_refl _)
  have e : 2 * ms.length + 1 - ms.length = ms.length + 1 := by omega
  rw [e] at this
  have m : ms.length * (ms.length + 1) ≤ 8 * 9 := Nat.mul_le_mul l8 (by omega)
  unfold prsOf
  omega
theorem odd_none : readT "" = none ∧ readT " " = none ∧ readT ": a!a" = none ∧ readT "a a" = none := by decide +kernel
theorem readT_text {u : Str} {ms : List Str} {ps : List Pr} (h : readT u = some (ms, ps)) : textM ms (prsOf (ag ms ps) ms) = u := by
  unfold readT at h
  cases e : progP u with
  | none =>
    rw [e] at h
    cases h
  | some r =>
    rw [e] at h
    have h : (if textM r.1 (prsOf (ag r.1 r.2) r.1) = u then some r else none) = some (ms, ps) := h
    by_cases c : textM r.1 (prsOf (ag r.1 r.2) r.1) = u
    · rw [if_pos c] at h
      injection h with h
      rw [h] at c
      exact c
    · rw [if_neg c] at h
      cases h
theorem progP_ok {t : Str} {ms : List Str} {ps : List Pr} (h : progP t = some (ms, ps)) : okMB ms = true := by
  unfold progP at h
  by_cases c : okMB (Txt.split (Txt.partition t ": ").1 " ") = true
  · rw [if_pos c] at h
    generalize prsO _ _ = z at h
    cases z with
    | none => cases h
    | some y =>
      injection h with h
      injection h with h1 h2
      rw [← h1]
      exact c
  · rw [if_neg c] at h
    cases h
theorem okM_len {ms : List Str} (h : okMB ms = true) : ms.length ≤ 8 := by
  unfold okMB at h
  rw [Bool.and_eq_true, Bool.and_eq_true, decide_eq_true_iff (p := ms.length ≤ 8)] at h
  exact h.2.2
theorem readT_of {t : Str} {ms : List Str} {ps : List Pr} (h : progP t = some (ms, ps)) : readT t = if textM ms (prsOf (ag ms ps) ms) = t then some (ms, ps) else none := by
  unfold readT
  rw [h]
  rfl
theorem readT_no {t : Str} (h : progP t = none) : readT t = none := by
  unfold readT
  rw [h]
  rfl
/-! base 3 -/
/-! ### kinds and steps -/
def kindsL : List Str := ["put", "strike", "read", "direct", "hang", "take", "split", "join"]
def locksTb : List (Str × List Str) := [("put", ["table", "part"]), ("strike", ["table", "part"]), ("read", ["table", "part"]), ("direct", ["part"]), ("hang", ["table", "new", "rest"]), ("take", ["table", "old", "rest"]), ("split", ["table", "old", "new", "rest"]), ("join", ["table", "old", "new", "rest"])]
def stepsTb : List (Str × List (List Str)) := [("put", [["look"], ["again"], ["key"], ["put"], ["claim"], ["end"]]), ("strike", [["look"], ["again"], ["strike"], ["end"]]), ("read", [["look"], ["again"], ["view"], ["read"], ["end"]]), ("direct", [["border"], ["key"], ["put"], ["claim"], ["end"]]),
  ("hang", [["scan", "new"], ["scan", "rest"], ["switch"], ["wait"], ["close"], ["end"]]), ("take", [["switch"], ["wait"], ["close"], ["end"]]), ("split", [["move"], ["switch"], ["wait"], ["close"], ["end"]]), ("join", [["move"], ["switch"], ["wait"], ["close"], ["end"]])]
def locksT (k : Str) : List Str := ((locksTb.find? fun p => decide (p.1 = k)).map (·.2)).getD []
def stepsT (k : Str) : List (List Str) := ((stepsTb.find? fun p => decide (p.1 = k)).map (·.2)).getD []
def strsD (ss : List Str) : PyData := .tuple (ss.map .str)
def kindD (d : PyData) : Bool := (kindsL.map PyData.str).any fun z => PyData.eqv z d
theorem eqv_str_iff {s : Str} {d : PyData} (h : PyData.eqv (.str s) d = true) : d = .str s := by
  cases d with
  | str t =>
    have h' : (s == t) = true := by simpa [PyData.eqv] using h
    rw [eq_of_beq h']
  | _ => simp [PyData.eqv] at h
theorem eqv_str_iff2 {s : Str} {d : PyData} (h : PyData.eqv d (.str s) = true) : d = .str s := by
  cases d with
  | str t =>
    have h' : (t == s) = true := by simpa [PyData.eqv] using h
    rw [eq_of_beq h']
  | _ => simp [PyData.eqv] at h
theorem eqv_str_self (s : Str) : PyData.eqv (.str s) (.str s) = true := by simp [PyData.eqv]
theorem any_strs {ss : List Str} {s : Str} : ((ss.map PyData.str).any fun z => PyData.eqv z (.str s)) = decide (s ∈ ss) := by
  rw [Bool.eq_iff_iff, List.any_eq_true, decide_eq_true_iff]
  constructor
  · rintro ⟨z, hz, e⟩
    obtain ⟨t, ht, rfl⟩ := List.mem_map.mp hz
    have := eqv_str_iff e
    injection this with h
    rw [h]
    exact ht
  · intro h
    exact ⟨_, List.mem_map.mpr ⟨s, h, rfl⟩, eqv_str_self s⟩
theorem kindD_str (s : Str) : kindD (.str s) = decide (s ∈ kindsL) := any_strs
theorem kindD_of {d : PyData} (h : kindD d = true) : ∃ s ∈ kindsL, d = .str s := by
  obtain ⟨z, hz, e⟩ := List.any_eq_true.mp h
  obtain ⟨s, hs, rfl⟩ := List.mem_map.mp hz
  exact ⟨s, hs, eqv_str_iff e⟩
theorem eqvAll_strs : ∀ (ss : List Str) {ds : List PyData}, PyData.eqvAll (ss.map .str) ds = true → ds = ss.map .str
  | [], ds, h => by
    cases ds with
    | nil => rfl
    | cons d r => simp [PyData.eqvAll] at h
  | s :: r, ds, h => by
    cases ds with
    | nil => simp [PyData.eqvAll] at h
    | cons d es =>
      have h' : (PyData.eqv (.str s) d && PyData.eqvAll (r.map .str) es) = true := by simpa [PyData.eqvAll] using h
      rw [Bool.and_eq_true] at h'
      rw [eqv_str_iff h'.1, eqvAll_strs r h'.2]
      rfl
theorem eqv_strs_self : ∀ ss : List Str, PyData.eqvAll (ss.map .str) (ss.map .str) = true
  | [] => by simp [PyData.eqvAll]
  | s :: r => by simp [PyData.eqvAll, eqv_str_self, eqv_strs_self r]
theorem any_strsD {L : List (List Str)} {ss : List Str} : ((L.map strsD).any fun z => PyData.eqv z (strsD ss)) = decide (ss ∈ L) := by
  rw [Bool.eq_iff_iff, List.any_eq_true, decide_eq_true_iff]
  constructor
  · rintro ⟨z, hz, e⟩
    obtain ⟨t, ht, rfl⟩ := List.mem_map.mp hz
    have e' : PyData.eqvAll (t.map .str) (ss.map .str) = true := by simpa [strsD, PyData.eqv] using e
    have := eqvAll_strs t e'
    have h2 : ss = t := by
      have inj : Function.Injective PyData.str := fun a b q => by injection q
      exact List.map_inj_right (fun a b q => by injection q) |>.mp this
    rw [h2]
    exact ht
  · intro h
    exact ⟨_, List.mem_map.mpr ⟨ss, h, rfl⟩, by simp [strsD, PyData.eqv, eqv_strs_self]⟩
theorem any_strsD_no {L : List (List Str)} {ds : List PyData} (h : ∀ ss : List Str, ds ≠ ss.map .str) : ((L.map strsD).any fun z => PyData.eqv z (.tuple ds)) = false := by
  cases e : (L.map strsD).any fun z => PyData.eqv z (.tuple ds) with
  | false => rfl
  | true =>
    obtain ⟨z, hz, e⟩ := List.any_eq_true.mp e
    obtain ⟨t, ht, rfl⟩ := List.mem_map.mp hz
    have e' : PyData.eqvAll (t.map .str) ds = true := by simpa [strsD, PyData.eqv] using e
    exact absurd (eqvAll_strs t e') (h t)
/-- what is_step tells of texts -/
def stepS (k : Str) : List Str → Bool
  | [a, b, c] => decide (a = "lock") && (decide (b ∈ locksT k) && nameS c)
  | ss => decide (ss ∈ stepsT k)
/-- .. and of all data -/
def stepD (k : Str) : List PyData → Bool
  | [a, b, c] => PyData.eqv a (.str "lock") && ((((locksT k).map PyData.str).any fun z => PyData.eqv z b) && nameO (some c))
  | ds => ((stepsT k).map strsD).any fun z => PyData.eqv z (.tuple ds)
theorem stepD_strs (k : Str) (ss : List Str) : stepD k (ss.map .str) = stepS k ss := by
  match ss with
  | [a, b, c] =>
    show (PyData.eqv (.str a) (.str "lock") && ((((locksT k).map PyData.str).any fun z => PyData.eqv z (.str b)) && nameS c)) = _
    rw [any_strs]
    have : PyData.eqv (.str a) (.str "lock") = decide (a = "lock") := by
      rw [Bool.eq_iff_iff, decide_eq_true_iff]
      exact ⟨fun h => by have := eqv_str_iff2 h; injection this, fun h => by rw [h]; exact eqv_str_self _⟩
    rw [this]
    rfl
  | [] => exact any_strsD (ss := [])
  | [a] => exact any_strsD (ss := [a])
  | [a, b] => exact any_strsD (ss := [a, b])
  | a :: b :: c :: d :: r => exact any_strsD (ss := a :: b :: c :: d :: r)
theorem stepD_no {k : Str} {ds : List PyData} (h : ∀ ss : List Str, ds ≠ ss.map .str) : stepD k ds = false := by
  match ds, h with
  | [a, b, c], h =>
    show (PyData.eqv a (.str "lock") && ((((locksT k).map PyData.str).any fun z => PyData.eqv z b) && nameO (some c))) = false
    cases e1 : PyData.eqv a (.str "lock") with
    | false => rfl
    | true =>
      cases e2 : ((locksT k).map PyData.str).any fun z => PyData.eqv z b with
      | false => rfl
      | true =>
        cases c with
        | str c =>
          obtain ⟨z, hz, e⟩ := List.any_eq_true.mp e2
          obtain ⟨t, ht, rfl⟩ := List.mem_map.mp hz
          exact absurd (by rw [eqv_str_iff2 e1, eqv_str_iff e]; rfl) (h ["lock", t, c])
        | _ => rfl
  | [], h => exact any_strsD_no h
  | [a], h => exact any_strsD_no h
  | [a, b], h => exact any_strsD_no h
  | a :: b :: c :: d :: r, h => exact any_strsD_no h
def stepO (k : Str) : Option PyData → Bool
  | some (.tuple ds) => stepD k ds
  | _ => false
theorem stepO_ty {k : Str} {o : Option PyData} (e : isT "tuple" o = false) : stepO k o = false := by
  rcases o with _ | d
  · rfl
  · cases d with
    | tuple s => cases e
    | _ => rfl
theorem kinds_shaped : SeqAt.shaped (.tuple (kindsL.map PyData.str)) = true := by decide +kernel
theorem locks_shaped {k : Str} (h : k ∈ kindsL) : SeqAt.shaped (strsD (locksT k)) = true := by
  have all : ∀ k ∈ kindsL, SeqAt.shaped (strsD (locksT k)) = true := by decide +kernel
  exact all k h
theorem steps_shaped {k : Str} (h : k ∈ kindsL) : SeqAt.shaped (.tuple ((stepsT k).map strsD)) = true := by
  have all : ∀ k ∈ kindsL, SeqAt.shaped (.tuple ((stepsT k).map strsD)) = true := by decide +kernel
  exact all k h
theorem stepD_else {k : Str} {ds : List PyData} (h : ds.length ≠ 3) : stepD k ds = ((stepsT k).map strsD).any fun z => PyData.eqv z (.tuple ds) := by
  match ds, h with
  | [], _ => rfl
  | [_], _ => rfl
  | [_, _], _ => rfl
  | [_, _, _], h => exact absurd rfl h
  | _ :: _ :: _ :: _ :: _, _ => rfl
theorem shaped_item {d : PyData} (h : d.canLay0 = true ∧ d.depth ≤ 63) : SeqAt.shaped d = true := shaped_iff.mpr ⟨h.1, by omega⟩
/-- the texts within a tuple are short -/
def shortO (o : Option PyData) : Prop := ∀ ds, o = some (.tuple ds) → ds.length ≤ 200000 ∧ ∀ s, PyData.str s ∈ ds → s.length ≤ 100000
def sp_kind (K : PySem.W.Frag) : Sp := fun vs H Q _ => ∃ (v : V) (d : PyData), vs = [v] ∧ Dp K H v d ∧ SeqAt.shaped d = true ∧ Q (.bl (kindD d)) H
def sp_rkind (K : PySem.W.Frag) (C : Addr) : Sp := fun vs H Q E => ∃ (v : V) (d : PyData), vs = [v] ∧ Dp K H v d ∧ SeqAt.shaped d = true ∧ (kindD d = true → Q .non H) ∧ (kindD d = false → Rz H E C "kind" v)
def sp_is_step (K : PySem.W.Frag) (C : Addr) : Sp := fun vs H Q E => ∃ (x y : V) (o : Option PyData) (d : PyData), vs = [x, y] ∧ VD K H x o ∧ shortO o ∧ Dp K H y d ∧ SeqAt.shaped d = true ∧ (kindD d = false → Rz H E C "kind" y) ∧
  ∀ k, d = .str k → k ∈ kindsL → ∀ H', Same H H' → Q (.bl (stepO k o)) H'
/-! ### the law's own steps -/
def askersL : List Str := ["put", "strike", "read"]
def changesL : List Str := ["hang", "take", "split", "join"]
def atTb : List (Str × List Str) := [("table", askersL ++ changesL), ("part", askersL ++ (["direct"] : List Str)), ("old", ["take", "split", "join"]), ("rest", changesL), ("new", ["hang", "split", "join"])]
def whereTb : List (Str × List Str) := [("look", askersL), ("again", askersL), ("border", ["direct"]), ("strike", ["strike"]), ("end", kindsL), ("key", ["put", "direct"]), ("put", ["put", "direct"]), ("claim", ["put", "direct"]), ("view", ["read"]), ("read", ["read"]), ("switch", changesL), ("wait", changesL), ("close", changesL), ("move", ["split", "join"])]
def lockR (k : Str) : List Str → Bool
  | [b, c] => nameS c && decide (k ∈ (getO atTb b).getD [])
  | _ => false
def whereR (k a : Str) : List Str → Bool
  | [] => decide (k ∈ (getO whereTb a).getD [])
  | _ => false
def lawS (k : Str) : List Str → Bool
  | [] => false
  | a :: r => if a = "lock" then lockR k r else if a = "scan" then decide (k = "hang") && decide (r ∈ ([["new"], ["rest"]] : List (List Str))) else whereR k a r
def wordsW : List Str := ["look", "again", "border", "strike", "end", "key", "put", "claim", "view", "read", "switch", "wait", "close", "move", "lock", "scan"]
theorem getO_none {tb : List (Str × List Str)} {w : Str} (h : ∀ p ∈ tb, p.1 ≠ w) : getO tb w = none := by
  induction tb with
  | nil => rfl
  | cons p r ih =>
    have e1 : ¬ p.1 = w := h p List.mem_cons_self
    have := ih fun q hq => h q (List.mem_cons_of_mem _ hq)
    simpa [getO, List.find?_cons, e1] using this
theorem steps_len : ∀ k ∈ kindsL, ∀ t ∈ stepsT k, (t.length = 1 ∧ (∀ x ∈ t, x ∈ wordsW)) ∨ (t.length = 2 ∧ k = "hang" ∧ (t = (["scan", "new"] : List Str) ∨ t = (["scan", "rest"] : List Str))) := by decide +kernel
theorem one_law : ∀ k ∈ kindsL, ∀ a ∈ wordsW, stepS k [a] = lawS k [a] := by decide +kernel
theorem lock_law : ∀ k ∈ kindsL, ∀ b ∈ (["table", "part", "old", "new", "rest"] : List Str), decide (b ∈ locksT k) = decide (k ∈ (getO atTb b).getD []) := by decide +kernel
theorem lock_in : ∀ k ∈ kindsL, ∀ b ∈ locksT k, b ∈ (["table", "part", "old", "new", "rest"] : List Str) := by decide +kernel
theorem scan_in : (["scan", "new"] : List Str) ∈ stepsT "hang" ∧ (["scan", "rest"] : List Str) ∈ stepsT "hang" := by decide +kernel
theorem stepS_law {k : Str} (hk : k ∈ kindsL) (ss : List Str) : stepS k ss = lawS k ss := by
  match ss with
  | [] =>
    have all : ∀ k ∈ kindsL, stepS k [] = lawS k [] := by decide +kernel
    exact all k hk
  | [a] =>
    by_cases ha : a ∈ wordsW
    · exact one_law k hk a ha
    · have e1 : stepS k [a] = false := by
        refine decide_eq_false fun h => ?_
        rcases steps_len k hk _ h with ⟨_, h2⟩ | ⟨h2, _⟩
        · exact ha (h2 a List.mem_cons_self)
        · cases h2
      have n1 : ¬ a = "lock" := fun e => ha (by rw [e]; decide +kernel)
      have n2 : ¬ a = "scan" := fun e => ha (by rw [e]; decide +kernel)
      have n3 : getO whereTb a = none := getO_none fun p hp e => ha (by
        have all : ∀ p ∈ whereTb, p.1 ∈ wordsW := by decide +kernel
        rw [← e]
        exact all p hp)
      rw [e1]
      show false = if a = "lock" then lockR k [] else if a = "scan" then decide (k = "hang") && decide ([] ∈ ([["new"], ["rest"]] : List (List Str))) else decide (k ∈ (getO whereTb a).getD [])
      rw [if_neg n1, if_neg n2, n3]
      rfl
  | [a, b] =>
    have e : stepS k [a, b] = decide ([a, b] ∈ stepsT k) := rfl
    rw [e]
    show _ = if a = "lock" then false else if a = "scan" then decide (k = "hang") && decide ([b] ∈ ([["new"], ["rest"]] : List (List Str))) else false
    by_cases n1 : a = "lock"
    · rw [if_pos n1]
      refine decide_eq_false fun h => ?_
      rcases steps_len k hk _ h with ⟨h2, _⟩ | ⟨_, _, h2 | h2⟩
      · cases h2
      · injection h2 with h3 _
        rw [n1] at h3
        exact absurd h3 (by decide +kernel)
      · injection h2 with h3 _
        rw [n1] at h3
        exact absurd h3 (by decide +kernel)
    · rw [if_neg n1]
      by_cases n2 : a = "scan"
      · rw [if_pos n2, Bool.eq_iff_iff, Bool.and_eq_true, decide_eq_true_iff, decide_eq_true_iff, decide_eq_true_iff]
        constructor
        · intro h
          rcases steps_len k hk _ h with ⟨h2, _⟩ | ⟨_, h1, h2 | h2⟩
          · cases h2
          · injection h2 with _ h3
            exact ⟨h1, by rw [h3]; decide +kernel⟩
          · injection h2 with _ h3
            exact ⟨h1, by rw [h3]; decide +kernel⟩
        · rintro ⟨h1, h2⟩
          rw [h1, n2]
          rcases List.mem_cons.mp h2 with h3 | h3
          · rw [h3]; exact scan_in.1
          · rw [List.mem_singleton.mp h3]; exact scan_in.2
      · rw [if_neg n2]
        refine decide_eq_false fun h => ?_
        rcases steps_len k hk _ h with ⟨h2, _⟩ | ⟨_, _, h2 | h2⟩
        · cases h2
        · injection h2 with h3 _
          exact n2 h3
        · injection h2 with h3 _
          exact n2 h3
  | [a, b, c] =>
    show (decide (a = "lock") && (decide (b ∈ locksT k) && nameS c)) = if a = "lock" then nameS c && decide (k ∈ (getO atTb b).getD []) else if a = "scan" then decide (k = "hang") && decide ([b, c] ∈ ([["new"], ["rest"]] : List (List Str))) else false
    have e : decide (b ∈ locksT k) = decide (k ∈ (getO atTb b).getD []) := by
      by_cases hb : b ∈ (["table", "part", "old", "new", "rest"] : List Str)
      · exact lock_law k hk b hb
      · have n3 : getO atTb b = none := getO_none fun p hp e => hb (by
          have all : ∀ p ∈ atTb, p.1 ∈ (["table", "part", "old", "new", "rest"] : List Str) := by decide +kernel
          rw [← e]
          exact all p hp)
        rw [n3, decide_eq_false fun h => hb (lock_in k hk b h)]
        rfl
    by_cases n1 : a = "lock"
    · rw [if_pos n1, decide_eq_true n1, e, Bool.true_and, Bool.and_comm]
    · rw [if_neg n1, decide_eq_false n1, Bool.false_and]
      by_cases n2 : a = "scan"
      · rw [if_pos n2]
        have : decide ([b, c] ∈ ([["new"], ["rest"]] : List (List Str))) = false := decide_eq_false fun h => by
          rcases List.mem_cons.mp h with h3 | h3
          · cases h3
          · cases List.mem_singleton.mp h3
        rw [this, Bool.and_false]
      · rw [if_neg n2]
  | a :: b :: c :: d :: r =>
    have e1 : stepS k (a :: b :: c :: d :: r) = false := by
      refine decide_eq_false fun h => ?_
      rcases steps_len k hk _ h with ⟨h2, _⟩ | ⟨h2, _⟩
      · simp at h2
      · simp at h2
    rw [e1]
    show false = if a = "lock" then false else if a = "scan" then decide (k = "hang") && decide ((b :: c :: d :: r) ∈ ([["new"], ["rest"]] : List (List Str))) else false
    by_cases n1 : a = "lock"
    · rw [if_pos n1]
    · rw [if_neg n1]
      by_cases n2 : a = "scan"
      · rw [if_pos n2]
        have : decide ((b :: c :: d :: r) ∈ ([["new"], ["rest"]] : List (List Str))) = false := decide_eq_false fun h => by
          rcases List.mem_cons.mp h with h3 | h3
          · cases h3
          · cases List.mem_singleton.mp h3
        rw [this, Bool.and_false]
      · rw [if_neg n2]
def sp_law_kinds : Sp := fun vs H Q _ => vs = [] ∧ ∀ p, H p = none → Q (.ref p) (upd H p (.lst (kindsL.map V.str)))
def sp_law_is_step (K : PySem.W.Frag) : Sp := fun vs H Q _ => ∃ (v : V) (o : Option PyData) (k : Str), vs = [v, .str k] ∧ VD K H v o ∧ shortO o ∧ k ∈ kindsL ∧ ∀ H', Same H H' → Q (.bl (stepO k o)) H'
def notStr : PyData → Bool
  | .str _ => false
  | _ => true
/-- those of which f holds -/
theorem strs_ds : ∀ {ds : List PyData}, (ds.filter notStr).isEmpty = true → ∃ ss : List Str, ds = ss.map .str
  | [], _ => ⟨[], rfl⟩
  | d :: r, h => by
    cases d with
    | str s =>
      obtain ⟨ss, e⟩ := strs_ds (ds := r) (by simpa [notStr] using h)
      exact ⟨s :: ss, by rw [e]; rfl⟩
    | _ => simp [notStr] at h
theorem strs_ds_no {ds : List PyData} (h : (ds.filter notStr).isEmpty = false) (ss : List Str) : ds ≠ ss.map .str := by
  intro e
  rw [e] at h
  have : (ss.map PyData.str).filter notStr = [] := by
    rw [List.filter_eq_nil_iff]
    intro a ha
    obtain ⟨s, _, rfl⟩ := List.mem_map.mp ha
    simp [notStr]
  rw [this] at h
  cases h
theorem dp_strs {K : PySem.W.Frag} {H : Hp} : ∀ {ss : List Str} {xs : List V}, DpAll K H xs (ss.map .str) → xs = ss.map V.str
  | [], _, .nil => rfl
  | s :: r, _, .cons a b => by
    cases a
    rw [dp_strs b]
    rfl
theorem strsD_shaped {ss : List Str} (h : ∀ s ∈ ss, SeqAt.shaped (.str s) = true) : SeqAt.shaped (strsD ss) = true := by
  refine shaped_iff.mpr ⟨?_, ?_⟩
  · simp only [strsD, PyData.canLay0]
    refine canAll_mem.mpr fun d hd => ?_
    obtain ⟨s, hs, rfl⟩ := List.mem_map.mp hd
    exact (shaped_iff.mp (h s hs)).1
  · have : PyData.depthAll (ss.map .str) ≤ 0 := depthAll_le fun d hd => by
      obtain ⟨s, hs, rfl⟩ := List.mem_map.mp hd
      simp [PyData.depth]
    simp only [strsD, PyData.depth]
    omega
/-! ### atoms: short texts, 5, None -/
def At (v : V) : Prop := (∃ s, v = .str s ∧ sOk 16 s) ∨ v = .int 5 ∨ v = .non
def atD : V → PyData
  | .str s => .str s
  | .int i => .int i
  | _ => .none
theorem At.dp {v : V} (h : At v) : (∀ (K : PySem.W.Frag) (H : Hp), Dp K H v (atD v)) ∧ (atD v).canLay0 = true ∧ (atD v).depth ≤ 0 ∧ ∀ s, atD v = .str s → s.length ≤ 100000 := by
  rcases h with ⟨s, rfl, hs⟩ | rfl | rfl
  · refine ⟨fun K H => .str s, ?_, by simp [atD, PyData.depth], fun t e => ?_⟩
    · simp only [atD, PyData.canLay0]
      exact hs.2
    · injection e with e
      rw [← e]
      exact Nat.le_trans hs.1 (by decide)
  · exact ⟨fun K H => .int 5, rfl, by simp [atD, PyData.depth], fun t e => nomatch e⟩
  · exact ⟨fun K H => .non, rfl, by simp [atD, PyData.depth], fun t e => nomatch e⟩
theorem ats_dp {K : PySem.W.Frag} {H : Hp} : ∀ {xs : List V}, (∀ v ∈ xs, At v) → DpAll K H xs (xs.map atD)
  | [], _ => .nil
  | x :: r, h => .cons ((h x List.mem_cons_self).dp.1 K H) (ats_dp fun v hv => h v (List.mem_cons_of_mem _ hv))
theorem ats_shaped {xs : List V} (h : ∀ v ∈ xs, At v) : SeqAt.shaped (.tuple (xs.map atD)) = true ∧ SeqAt.shaped (.list (xs.map atD)) = true := by
  have h1 : PyData.canLayAll0 (xs.map atD) = true := canAll_mem.mpr fun d hd => by
    obtain ⟨v, hv, rfl⟩ := List.mem_map.mp hd
    exact (h v hv).dp.2.1
  have h2 : PyData.depthAll (xs.map atD) ≤ 0 := depthAll_le fun d hd => by
    obtain ⟨v, hv, rfl⟩ := List.mem_map.mp hd
    exact (h v hv).dp.2.2.1
  refine ⟨shaped_iff.mpr ⟨by simp only [PyData.canLay0]; exact h1, ?_⟩, shaped_iff.mpr ⟨by simp only [PyData.canLay0]; exact h1, ?_⟩⟩
  · simp only [PyData.depth]
    omega
  · simp only [PyData.depth]
    omega
theorem ats_tup {K : PySem.W.Frag} {H : Hp} {t : Addr} {xs : List V} (h : ∀ v ∈ xs, At v) (hl : xs.length ≤ 100) (ht : H t = some (.tup xs)) : ∃ o, VD K H (.ref t) o ∧ shortO o := by
  refine ⟨some (.tuple (xs.map atD)), .dat (.tup (SqT.of ht) (ats_dp h)) (ats_shaped h).1 (fun s e => nomatch e), fun ds e => ?_⟩
  injection e with e
  injection e with e
  rw [← e]
  refine ⟨by rw [List.length_map]; exact Nat.le_trans hl (by decide), fun s hs => ?_⟩
  obtain ⟨v, hv, q⟩ := List.mem_map.mp hs
  exact (h v hv).dp.2.2.2 s q
theorem ats_lst {K : PySem.W.Frag} {H : Hp} {t : Addr} {xs : List V} (h : ∀ v ∈ xs, At v) (ht : H t = some (.lst xs)) : ∃ o, VD K H (.ref t) o ∧ shortO o :=
  ⟨some (.list (xs.map atD)), .dat (.lst (SqL.of ht) (ats_dp h)) (ats_shaped h).2 (fun s e => nomatch e), fun ds e => by cases e⟩
theorem at_strs {ss : List Str} (h : ∀ s ∈ ss, sOk 16 s) : ∀ v ∈ ss.map V.str, At v := fun v hv => by
  obtain ⟨s, hs, rfl⟩ := List.mem_map.mp hv
  exact .inl ⟨s, rfl, h s hs⟩
def sp_drawn_step : Sp := fun vs H Q _ => ∃ (H0 : Hp) (p m : Addr) (n : Nat) (ms : List Str), vs = [.ref p, .ref m] ∧ BoxIn H0 H p n ∧ H0 m = some (.lst (ms.map V.str)) ∧ 0 < ms.length ∧ ms.length ≤ 100 ∧ (∀ s ∈ ms, sOk 16 s) ∧ n + 10 < 1000000 ∧
  ∀ (H1 H' : Hp) (t : Addr) (ss : List Str), Same H0 H1 → BoxIn H1 H' p (n + 10) → H1 t = some (.tup (ss.map V.str)) → ss.length ≤ 3 → ((∀ s ∈ ss, sOk 16 s) ∧ (ss.headD "" = "lock" → ss.getD 2 "" ∈ ms)) → Q (.ref t) H'
def sp_bent (K : PySem.W.Frag) : Sp := fun vs H Q _ => ∃ (H0 : Hp) (p t : Addr) (n : Nat) (ss : List Str), vs = [.ref p, .ref t] ∧ BoxIn H0 H p n ∧ H0 t = some (.tup (ss.map V.str)) ∧ ss.length ≤ 3 ∧ (∀ s ∈ ss, sOk 16 s) ∧ n + 10 < 1000000 ∧
  ∀ (H1 H' : Hp) (v : V), Same H0 H1 → BoxIn H1 H' p (n + 10) → (∃ o, VD K H1 v o ∧ shortO o) → Q v H'
/-- told of a raise, with the value itself -/
def Told1 (H : Hp) (Q : VK) (w : Str) (v : V) : Prop := ∀ p H', Same H H' → H p = none → H' p = some (.lst [.str w, v]) → Q (.ref p) H'
def sp_told (K : PySem.W.Frag) : Sp := fun vs H Q _ => ∃ (x y : V) (o : Option PyData) (d : PyData), vs = [x, y] ∧ VD K H x o ∧ shortO o ∧ Dp K H y d ∧ SeqAt.shaped d = true ∧ kindD d = false ∧ Told1 H Q "kind" y
/-! ### places, counts and orders in a list -/
def pAt {α : Type} (p : α → Bool) (xs : List α) (i : Nat) : Bool := match xs[i]? with
  | some x => p x
  | none => false
def poss {α : Type} (p : α → Bool) (xs : List α) (n : Nat) : List Nat := (List.range n).filter (pAt p xs)
theorem poss_step {α : Type} (p : α → Bool) (xs : List α) (n : Nat) : poss p xs (n + 1) = if pAt p xs n = true then poss p xs n ++ [n] else poss p xs n := by
  unfold poss
  rw [List.range_succ, List.filter_append]
  cases h : pAt p xs n with
  | true => simp [h]
  | false => simp [h]
theorem poss_len {α : Type} (p : α → Bool) (xs : List α) (n : Nat) : (poss p xs n).length ≤ n := by
  unfold poss
  have := List.length_filter_le (pAt p xs) (List.range n)
  rw [List.length_range] at this
  exact this
theorem mem_poss {α : Type} {p : α → Bool} {xs : List α} {i : Nat} : i ∈ poss p xs xs.length ↔ ∃ x, xs[i]? = some x ∧ p x = true := by
  unfold poss pAt
  rw [List.mem_filter, List.mem_range]
  constructor
  · rintro ⟨h1, h2⟩
    rw [List.getElem?_eq_getElem h1] at h2
    exact ⟨_, List.getElem?_eq_getElem h1, h2⟩
  · rintro ⟨x, h1, h2⟩
    refine ⟨(List.getElem?_eq_some_iff.mp h1).1, ?_⟩
    rw [h1]
    exact h2
theorem poss_map {α β : Type} (f : α → β) (p : β → Bool) (xs : List α) (n : Nat) : poss p (xs.map f) n = poss (fun x => p (f x)) xs n := by
  unfold poss
  congr 1
  funext i
  unfold pAt
  rw [List.getElem?_map]
  cases xs[i]? <;> rfl
theorem poss_congr {α : Type} {p q : α → Bool} {xs : List α} (h : ∀ x ∈ xs, p x = q x) (n : Nat) : poss p xs n = poss q xs n := by
  unfold poss
  congr 1
  funext i
  unfold pAt
  cases e : xs[i]? with
  | none => rfl
  | some x => exact h x (List.mem_of_getElem? e)
theorem filter_map_len {α β : Type} (f : α → β) (p : β → Bool) (xs : List α) : ((xs.map f).filter p).length = (xs.filter fun x => p (f x)).length := by
  rw [List.filter_map, List.length_map]
  rfl
/-! ### conditions of a list, and which follow from others when all items are in A -/
inductive Cd (α : Type) where
  | a (p : α → Bool)
  | one (p : α → Bool)
  | le (p : α → Bool)
  | ord (p q : α → Bool)
  | imp (p q : α → Bool)
  | nand (p q : α → Bool)
def Cd.holds {α : Type} (ts : List α) : Cd α → Prop
  | .a p => poss p ts ts.length = [ts.length - 1]
  | .one p => (ts.filter p).length = 1
  | .le p => (ts.filter p).length ≤ 1
  | .ord p q => ∀ i ∈ poss p ts ts.length, ∀ j ∈ poss q ts ts.length, i < j
  | .imp p q => (∃ x ∈ ts, p x = true) → ∃ x ∈ ts, q x = true
  | .nand p q => ¬ ((∃ x ∈ ts, p x = true) ∧ ∃ x ∈ ts, q x = true)
def eqm {α : Type} (A : List α) (p q : α → Bool) : Bool := A.all fun x => p x == q x
def subm {α : Type} (A : List α) (p q : α → Bool) : Bool := A.all fun x => !p x || q x
def nom {α : Type} (A : List α) (p : α → Bool) : Bool := A.all fun x => !p x
def Cd.gives {α : Type} (A : List α) : Cd α → Cd α → Bool
  | .a q, .a p => eqm A p q
  | .one q, .one p => eqm A p q
  | .le q, .le p => subm A p q
  | .one q, .le p => subm A p q
  | .imp p' q', .imp p q => subm A p p' && subm A q' q
  | .nand p' q', .nand p q => subm A p p' && subm A q q'
  | _, _ => false
def Cd.cov {α : Type} (x y : α) : Cd α → Bool
  | .ord p q => p x && q y
  | .nand p q => (p x && q y) || (p y && q x)
  | _ => false
def Cd.none {α : Type} (A : List α) : Cd α → Bool
  | .le p => nom A p
  | .imp p _ => nom A p
  | .nand p q => nom A p || nom A q
  | _ => false
def Cd.from {α : Type} (A : List α) (L : List (Cd α)) (c : Cd α) : Bool := c.none A || (L.any fun d => d.gives A c) || (match c with
  | .ord p q => A.all fun x => A.all fun y => !(p x && q y) || L.any fun d => d.cov x y
  | _ => false)
section
variable {α : Type} {A ts : List α}
theorem filter_congr' {p q : α → Bool} (hA : ∀ x ∈ ts, x ∈ A) (h : eqm A p q = true) : ts.filter p = ts.filter q := by
  refine List.filter_congr fun x hx => ?_
  exact eq_of_beq (List.all_eq_true.mp h x (hA x hx))
theorem sub_of {p q : α → Bool} (h : subm A p q = true) {x : α} (hx : x ∈ A) (hp : p x = true) : q x = true := by
  have := List.all_eq_true.mp h x hx
  rw [hp] at this
  simpa using this
theorem no_of {p : α → Bool} (h : nom A p = true) {x : α} (hx : x ∈ A) : p x = false := by
  have := List.all_eq_true.mp h x hx
  simpa using this
theorem filter_sub_len {p q : α → Bool} (hA : ∀ x ∈ ts, x ∈ A) (h : subm A p q = true) : (ts.filter p).length ≤ (ts.filter q).length := by
  induction ts with
  | nil => exact Nat.le_refl _
  | cons x r ih =>
    have ih := ih fun y hy => hA y (List.mem_cons_of_mem _ hy)
    have hs := fun e : p x = true => sub_of h (hA x List.mem_cons_self) e
    cases e : p x with
    | true => simp [e, hs e]; omega
    | false =>
      cases e2 : q x with
      | true => simp [e, e2]; omega
      | false => simp [e, e2]; omega
theorem Cd.gives_ok (hA : ∀ x ∈ ts, x ∈ A) {d c : Cd α} (h : d.gives A c = true) (hd : d.holds ts) : c.holds ts := by
  cases d <;> cases c <;> simp only [Cd.gives] at h <;> try cases h
  case a.a q p =>
    have e : poss p ts ts.length = poss q ts ts.length := poss_congr (fun x hx => eq_of_beq (List.all_eq_true.mp h x (hA x hx))) _
    show poss p ts ts.length = _
    rw [e]
    exact hd
  case one.one q p =>
    show (ts.filter p).length = 1
    rw [filter_congr' hA h]
    exact hd
  case one.le q p =>
    have hd : (ts.filter q).length = 1 := hd
    have := filter_sub_len hA h
    show (ts.filter p).length ≤ 1
    omega
  case le.le q p =>
    have hd : (ts.filter q).length ≤ 1 := hd
    have := filter_sub_len hA h
    show (ts.filter p).length ≤ 1
    omega
  case imp.imp p' q' p q =>
    rw [Bool.and_eq_true] at h
    rintro ⟨x, hx, e⟩
    obtain ⟨y, hy, f⟩ := hd ⟨x, hx, sub_of h.1 (hA x hx) e⟩
    exact ⟨y, hy, sub_of h.2 (hA y hy) f⟩
  case nand.nand p' q' p q =>
    rw [Bool.and_eq_true] at h
    rintro ⟨⟨x, hx, e⟩, y, hy, f⟩
    exact hd ⟨⟨x, hx, sub_of h.1 (hA x hx) e⟩, y, hy, sub_of h.2 (hA y hy) f⟩
theorem Cd.none_ok (hA : ∀ x ∈ ts, x ∈ A) {c : Cd α} (h : c.none A = true) : c.holds ts := by
  cases c <;> simp only [Cd.none] at h <;> try cases h
  case le p =>
    have : ts.filter p = [] := by
      rw [List.filter_eq_nil_iff]
      intro x hx
      rw [no_of h (hA x hx)]
      decide
    show (ts.filter p).length ≤ 1
    rw [this]
    exact Nat.zero_le _
  case imp p q =>
    rintro ⟨x, hx, e⟩
    rw [no_of h (hA x hx)] at e
    cases e
  case nand p q =>
    rintro ⟨⟨x, hx, e⟩, y, hy, f⟩
    rw [Bool.or_eq_true] at h
    rcases h with h | h
    · rw [no_of h (hA x hx)] at e
      cases e
    · rw [no_of h (hA y hy)] at f
      cases f
theorem Cd.from_ok (hA : ∀ x ∈ ts, x ∈ A) {L : List (Cd α)} (hL : ∀ d ∈ L, d.holds ts) {c : Cd α} (h : c.from A L = true) : c.holds ts := by
  unfold Cd.from at h
  rw [Bool.or_eq_true, Bool.or_eq_true] at h
  rcases h with (h | h) | h
  · exact Cd.none_ok hA h
  · obtain ⟨d, hd, e⟩ := List.any_eq_true.mp h
    exact Cd.gives_ok hA e (hL d hd)
  · cases c with
    | ord p q =>
      intro i hi j hj
      obtain ⟨x, hx, px⟩ := mem_poss.mp hi
      obtain ⟨y, hy, qy⟩ := mem_poss.mp hj
      have mx := List.mem_of_getElem? hx
      have my := List.mem_of_getElem? hy
      have h2 := List.all_eq_true.mp (List.all_eq_true.mp h x (hA x mx)) y (hA y my)
      rw [px, qy] at h2
      have h3 : (L.any fun d => d.cov x y) = true := by simpa using h2
      obtain ⟨d, hd, e⟩ := List.any_eq_true.mp h3
      have hh := hL d hd
      cases d <;> simp only [Cd.cov] at e <;> try cases e
      case ord p' q' =>
        rw [Bool.and_eq_true] at e
        exact hh i (mem_poss.mpr ⟨x, hx, e.1⟩) j (mem_poss.mpr ⟨y, hy, e.2⟩)
      case nand p' q' =>
        rw [Bool.or_eq_true, Bool.and_eq_true, Bool.and_eq_true] at e
        rcases e with e | e
        · exact absurd ⟨⟨x, mx, e.1⟩, y, my, e.2⟩ hh
        · exact absurd ⟨⟨y, my, e.1⟩, x, mx, e.2⟩ hh
    | _ => cases h
/-- one of r in all, q and c of r: p brings q, so p and c are not together -/
theorem nand_of {p q c r : α → Bool} (h1 : (Cd.one r).holds ts) (h2 : (Cd.imp p q).holds ts) (hq : ∀ x, q x = true → r x = true) (hc : ∀ x, c x = true → r x = true) (hqc : ∀ x, q x = true → c x = true → False) : (Cd.nand p c).holds ts := by
  rintro ⟨hp, y, hy, cy⟩
  obtain ⟨x, hx, qx⟩ := h2 hp
  have l : (ts.filter r).length = 1 := h1
  obtain ⟨z, e⟩ := List.length_eq_one_iff.mp l
  have ex : x ∈ ts.filter r := List.mem_filter.mpr ⟨hx, hq x qx⟩
  have ey : y ∈ ts.filter r := List.mem_filter.mpr ⟨hy, hc y cy⟩
  rw [e] at ex ey
  rw [List.mem_singleton.mp ex] at qx
  rw [List.mem_singleton.mp ey] at cy
  exact hqc z qx cy
theorem imp_of {p q c r : α → Bool} (h1 : (Cd.one r).holds ts) (h2 : (Cd.nand p c).holds ts) (hr : ∀ x, r x = true → q x = true ∨ c x = true) : (Cd.imp p q).holds ts := by
  intro hp
  have l : (ts.filter r).length = 1 := h1
  obtain ⟨z, e⟩ := List.length_eq_one_iff.mp l
  have ez : z ∈ ts.filter r := by
    rw [e]
    exact List.mem_singleton.mpr rfl
  obtain ⟨hz, rz⟩ := List.mem_filter.mp ez
  rcases hr z rz with h | h
  · exact ⟨z, hz, h⟩
  · exact absurd ⟨hp, z, hz, h⟩ h2
end
/-! ### programs -/
def neededTb : List (Str × List (List Str)) := [("put", [["look"], ["put", "claim"]]), ("strike", [["look"], ["strike"]]), ("read", [["look"], ["view"], ["read"]]), ("direct", [["put", "claim"]]), ("hang", [["switch", "close"]]), ("take", [["switch", "close"]]), ("split", [["switch", "close"], ["move"]]), ("join", [["switch", "close"], ["move"]])]
def neededT (k : Str) : List (List Str) := ((neededTb.find? fun p => decide (p.1 = k)).map (·.2)).getD []
def onceT : List Str := ["border", "key", "scan new", "scan rest"]
def ordersT : List (List Str × List Str) := [(["look"], ["lock part", "again", "key", "put", "claim", "strike", "read"]), (["view"], ["read"]), (["border", "key", "again"], ["put", "claim", "strike", "read"]), (["move", "scan new", "scan rest"], ["switch", "close"]), (["switch"], ["wait"])]
/-- the first two words of a step -/
abbrev T2 : Type := List Str
def w1 (t : T2) : Str := Txt.join " " t
def w2 (t : T2) : Str := if t = (["lock", "part"] : List Str) then "part" else t.headD ""
def in1 (g : List Str) (t : T2) : Bool := decide (w1 t ∈ g)
def in2 (g : List Str) (t : T2) : Bool := decide (w2 t ∈ g)
def tsT (k : Str) : List T2 := stepsT k ++ (locksT k).map fun t => (["lock", t] : List Str)
def deedsL : List Str := ["put", "claim", "strike", "read"]
def partL : List Str := ["part", "again", "key", "put", "claim", "strike", "read"]
def progL (k : Str) : List (Cd T2) := [.a (in1 ["end", "close"])] ++ ((neededT k).map fun g => .one (in1 g)) ++ [.imp (in1 ["wait"]) (in1 ["switch"])] ++ (onceT.map fun w => .le (in1 [w])) ++ ordersT.map fun p => .ord (in1 p.1) (in1 p.2)
def firstK : List Str := ["put", "strike", "read", "direct"]
def lawL (k : Str) : List (Cd T2) := if k ∈ firstK then
    [.a (in2 ["end"]), .one (in2 deedsL), .le (in2 ["border"]), .le (in2 ["key"]), .ord (in2 ["border", "key", "again", "view"]) (in2 deedsL)] ++ (if k = "direct" then [] else [.one (in2 ["look"])] ++ (if k = "read" then [.one (in2 ["view"])] else []) ++ [.ord (in2 ["look"]) (in2 partL)])
  else [.a (in2 ["end", "close"]), .one (in2 ["switch", "close"]), .ord (in2 ["move", "scan"]) (in2 ["switch", "close"]), .ord (in2 ["switch", "close"]) (in2 ["wait"]), .nand (in2 ["wait"]) (in2 ["close"])] ++ (if k ∈ (["split", "join"] : List Str) then [.one (in2 ["move"])] else []) ++ [.le fun t => decide (t = (["scan", "new"] : List Str)), .le fun t => decide (t = (["scan", "rest"] : List Str))]
theorem law_of_prog1 : ∀ k ∈ firstK, (lawL k).all (Cd.from (tsT k) (progL k)) = true := by decide +kernel
theorem prog_of_law1 : ∀ k ∈ firstK, (progL k).all (Cd.from (tsT k) (lawL k)) = true := by decide +kernel
def nandX : Cd T2 := .nand (in1 ["wait"]) (in1 ["close"])
def impX : Cd T2 := .imp (in1 ["wait"]) (in1 ["switch"])
def oneX : Cd T2 := .one (in1 ["switch", "close"])
theorem law_of_prog2 : ∀ k ∈ changesL, (lawL k).all (Cd.from (tsT k) (nandX :: progL k)) = true := by decide +kernel
theorem prog_of_law2 : ∀ k ∈ changesL, (progL k).all (Cd.from (tsT k) (impX :: lawL k)) = true := by decide +kernel
theorem one_progP : ∀ k ∈ changesL, oneX.from (tsT k) (progL k) = true ∧ impX.from (tsT k) (progL k) = true := by decide +kernel
theorem one_lawP : ∀ k ∈ changesL, oneX.from (tsT k) (lawL k) = true ∧ nandX.from (tsT k) (lawL k) = true := by decide +kernel
theorem kinds_two : ∀ k ∈ kindsL, k ∈ firstK ∨ k ∈ changesL := by decide +kernel
theorem prog_law {k : Str} (hk : k ∈ kindsL) {ts : List T2} (hA : ∀ x ∈ ts, x ∈ tsT k) : (∀ d ∈ progL k, d.holds ts) ↔ ∀ d ∈ lawL k, d.holds ts := by
  rcases kinds_two k hk with h | h
  · exact ⟨fun q d hd => Cd.from_ok hA q (List.all_eq_true.mp (law_of_prog1 k h) d hd), fun q d hd => Cd.from_ok hA q (List.all_eq_true.mp (prog_of_law1 k h) d hd)⟩
  · have sc : ∀ x : T2, in1 ["switch"] x = true → in1 ["switch", "close"] x = true := fun x e => decide_eq_true (List.mem_cons.mpr (.inl (List.mem_singleton.mp (of_decide_eq_true e))))
    have cc : ∀ x : T2, in1 ["close"] x = true → in1 ["switch", "close"] x = true := fun x e => decide_eq_true (List.mem_cons_of_mem _ (of_decide_eq_true e))
    have no : ∀ x : T2, in1 ["switch"] x = true → in1 ["close"] x = true → False := fun x e f => by
      have e1 := List.mem_singleton.mp (of_decide_eq_true e)
      have e2 := List.mem_singleton.mp (of_decide_eq_true f)
      rw [e1] at e2
      exact absurd e2 (by decide +kernel)
    have or' : ∀ x : T2, in1 ["switch", "close"] x = true → in1 ["switch"] x = true ∨ in1 ["close"] x = true := fun x e => by
      rcases List.mem_cons.mp (of_decide_eq_true e) with q | q
      · exact .inl (decide_eq_true (List.mem_singleton.mpr q))
      · exact .inr (decide_eq_true q)
    refine ⟨fun q d hd => ?_, fun q d hd => ?_⟩
    · have h1 := Cd.from_ok hA q (one_progP k h).1
      have h2 := Cd.from_ok hA q (one_progP k h).2
      have h3 : nandX.holds ts := nand_of h1 h2 sc cc no
      refine Cd.from_ok hA (fun c hc => ?_) (List.all_eq_true.mp (law_of_prog2 k h) d hd)
      rcases List.mem_cons.mp hc with e | e
      · rw [e]; exact h3
      · exact q c e
    · have h1 := Cd.from_ok hA q (one_lawP k h).1
      have h2 := Cd.from_ok hA q (one_lawP k h).2
      have h3 : impX.holds ts := imp_of h1 h2 or'
      refine Cd.from_ok hA (fun c hc => ?_) (List.all_eq_true.mp (prog_of_law2 k h) d hd)
      rcases List.mem_cons.mp hc with e | e
      · rw [e]; exact h3
      · exact q c e
/-! ### promises of the programs' defs -/
def endsB (ws : List Str) : Bool := decide (poss (fun w => decide (w ∈ (["end", "close"] : List Str))) ws ws.length = [ws.length - 1])
def cntG (g : List Str) (ws : List Str) : Nat := (ws.filter fun w => decide (w ∈ g)).length
def hasB (k : Str) (ws : List Str) : Bool := ((neededT k).all fun g => decide (cntG g ws = 1)) && (!(decide (("wait" : Str) ∈ ws) && !decide (("switch" : Str) ∈ ws)) && onceT.all fun w => decide ((ws.filter fun x => decide (x = w)).length ≤ 1))
def befB (ws : List Str) (E L : List Str) : Bool := decide (∀ i ∈ poss (fun w => decide (w ∈ E)) ws ws.length, ∀ j ∈ poss (fun w => decide (w ∈ L)) ws ws.length, i < j)
def ordB (ws : List Str) : Bool := ordersT.all fun p => befB ws p.1 p.2
def sp_step_text (K : PySem.W.Frag) : Sp := fun vs H Q _ => ∃ (a : Addr) (t : List Str), vs = [.ref a] ∧ SqT K H a (t.map V.str) ∧ t.length ≤ 3 ∧ (∀ s ∈ t, s.length ≤ 100000) ∧ Q (.str (Txt.join " " t)) H
def sp_ws (K : PySem.W.Frag) (f : List Str → Bool) : Sp := fun vs H Q _ => ∃ (l : Addr) (ws : List Str), vs = [.ref l] ∧ SqL K H l (ws.map V.str) ∧ 1 ≤ ws.length ∧ ws.length ≤ 12 ∧ ∀ H', Same H H' → Q (.bl (f ws)) H'
def sp_has (K : PySem.W.Frag) : Sp := fun vs H Q _ => ∃ (l : Addr) (ws : List Str) (k : Str), vs = [.ref l, .str k] ∧ k ∈ kindsL ∧ SqL K H l (ws.map V.str) ∧ 1 ≤ ws.length ∧ ws.length ≤ 12 ∧ ∀ H', Same H H' → Q (.bl (hasB k ws)) H'
def sp_before (K : PySem.W.Frag) : Sp := fun vs H Q _ => ∃ (l e f : Addr) (ws E L : List Str), vs = [.ref l, .ref e, .ref f] ∧ SqL K H l (ws.map V.str) ∧ SqT K H e (E.map V.str) ∧ SqT K H f (L.map V.str) ∧ 1 ≤ ws.length ∧ ws.length ≤ 12 ∧ ∀ H', Same H H' → Q (.bl (befB ws E L)) H'
def wordsB (k : Str) (ws : List Str) : Bool := endsB ws && (hasB k ws && ordB ws)
def strD : PyData → Str
  | .str s => s
  | _ => ""
def wD : PyData → Str
  | .tuple es => w1 ((es.take 2).map strD)
  | _ => ""
def progD (k : Str) (ds : List PyData) : Bool := decide (1 ≤ ds.length ∧ ds.length ≤ 12) && ((ds.all fun d => stepO k (some d)) && wordsB k (ds.map wD))
def progO (k : Str) : Option PyData → Bool
  | some (.list ds) => progD k ds
  | _ => false
theorem progO_ty {k : Str} {o : Option PyData} (e : isT "list" o = false) : progO k o = false := by
  rcases o with _ | d
  · rfl
  · cases d with
    | list s => cases e
    | _ => rfl
theorem strD_strs (ss : List Str) : (ss.map PyData.str).map strD = ss := by
  rw [List.map_map]
  exact List.map_id'' (fun _ => rfl) ss
theorem wD_strs (ss : List Str) : wD (strsD ss) = w1 (ss.take 2) := by
  show w1 (((ss.map PyData.str).take 2).map strD) = _
  rw [← List.map_take, strD_strs]
theorem kit_oL {K : PySem.W.Frag} (o : Option PyData) : PySem.W.kitOne K (.type (tyO o)) (.type "list") = some (isT "list" o) := by
  have h := tyO_mem o
  unfold isT
  generalize tyO o = nm at h ⊢
  rcases h with rfl | rfl | rfl | rfl | rfl | rfl | rfl
  all_goals exact kit_ty (by decide +kernel)
theorem VD.lst_of {K : PySem.W.Frag} {H : Hp} {v : V} {o : Option PyData} (hv : VD K H v o) (e : isT "list" o = true) : ∃ a xs ds, v = .ref a ∧ o = some (.list ds) ∧ SqL K H a xs ∧ DpAll K H xs ds ∧ SeqAt.shaped (.list ds) = true := by
  cases hv with
  | dat a b c =>
    cases a with
    | lst h1 h2 => exact ⟨_, _, _, rfl, rfl, h1, h2, b⟩
    | _ => cases e
  | dic a => cases e
theorem shaped_of_list {ds : List PyData} (h : SeqAt.shaped (.list ds) = true) {d : PyData} (hd : d ∈ ds) : d.canLay0 = true ∧ d.depth ≤ 63 := by
  obtain ⟨h1, h2⟩ := shaped_iff.mp h
  simp only [PyData.canLay0] at h1
  simp only [PyData.depth] at h2
  have := depthAll_mem hd
  exact ⟨canAll_mem.mp h1 d hd, by omega⟩
theorem stepO_strs {k : Str} {d : PyData} (h : stepO k (some d) = true) : ∃ ss : List Str, d = strsD ss ∧ stepS k ss = true := by
  cases d with
  | tuple ds =>
    have h : stepD k ds = true := h
    by_cases e : (ds.filter notStr).isEmpty = true
    · obtain ⟨ss, rfl⟩ := strs_ds e
      rw [stepD_strs] at h
      exact ⟨ss, rfl, h⟩
    · rw [stepD_no (strs_ds_no (by simpa using e))] at h
      cases h
  | _ => cases h
theorem valid_strs {k : Str} : ∀ {ds : List PyData}, (∀ d ∈ ds, stepO k (some d) = true) → ∃ sss : List (List Str), ds = sss.map strsD ∧ ∀ ss ∈ sss, stepS k ss = true
  | [], _ => ⟨[], rfl, fun s h => by cases h⟩
  | d :: r, h => by
    obtain ⟨ss, rfl, hs⟩ := stepO_strs (h d List.mem_cons_self)
    obtain ⟨sss, rfl, hr⟩ := valid_strs (ds := r) fun x hx => h x (List.mem_cons_of_mem _ hx)
    refine ⟨ss :: sss, rfl, fun x hx => ?_⟩
    rcases List.mem_cons.mp hx with rfl | q
    · exact hs
    · exact hr x q
def progOk (o : Option PyData) : Prop := ∀ ds, o = some (.list ds) → ds.length ≤ 200000 ∧ ∀ d ∈ ds, shortO (some d) ∧ ∀ s, d = .str s → s.length ≤ 100000
def sp_is_program (K : PySem.W.Frag) (C : Addr) : Sp := fun vs H Q E => ∃ (x y : V) (o : Option PyData) (d : PyData), vs = [x, y] ∧ VD K H x o ∧ progOk o ∧ Dp K H y d ∧ SeqAt.shaped d = true ∧ (kindD d = false → Rz H E C "kind" y) ∧
  ∀ k, d = .str k → k ∈ kindsL → ∀ H', Same H H' → Q (.bl (progO k o)) H'
theorem cut_take2 (ss : List Str) : cutV (ss.map V.str) none (some 2) = (ss.take 2).map V.str := by
  unfold cutV
  rw [HT.sIx_none, show (2 : Int) = ((2 : Nat) : Int) from rfl, HT.sIx_nat, List.length_map, List.drop_zero, Nat.sub_zero, List.map_take]
  by_cases h : 2 ≤ ss.length
  · rw [Nat.min_eq_left h]
  · rw [Nat.min_eq_right (by omega), List.take_of_length_le (by simp), List.take_of_length_le (by simp; omega)]
theorem whole2 {ss : List Str} (h : HT.sIx (ss.map V.str).length (ss.map V.str).length (some 2) = (ss.map V.str).length) : ss.take 2 = ss := by
  rw [show (2 : Int) = ((2 : Nat) : Int) from rfl, HT.sIx_nat, List.length_map] at h
  exact List.take_of_length_le (by omega)
/-! ### the law's side -/
def sp_count (K : PySem.W.Frag) : Sp := fun vs H Q _ => ∃ (l m : Addr) (ws g : List Str), vs = [.ref l, .ref m] ∧ H l = some (.lst (ws.map V.str)) ∧ H m = some (.lst (g.map V.str)) ∧ ws.length ≤ 12 ∧ ∀ H', Same H H' → Q (.int (cntG g ws : Nat)) H'
def befL (ws : List Str) (E L : List Str) : Bool := decide (∀ i ∈ poss (fun w => decide (w ∈ E)) ws ws.length, ∀ j ∈ poss (fun w => decide (w ∈ L)) ws ws.length, i ≤ j)
def sp_order (K : PySem.W.Frag) : Sp := fun vs H Q _ => ∃ (l e f : Addr) (ws E L : List Str), vs = [.ref l, .ref e, .ref f] ∧ H l = some (.lst (ws.map V.str)) ∧ H e = some (.lst (E.map V.str)) ∧ H f = some (.lst (L.map V.str)) ∧ ws.length ≤ 12 ∧ ∀ H', Same H H' → Q (.bl (befL ws E L)) H'
def sp_law_is_program (K : PySem.W.Frag) : Sp := fun vs H Q _ => ∃ (v : V) (o : Option PyData) (k : Str), vs = [v, .str k] ∧ VD K H v o ∧ progOk o ∧ k ∈ kindsL ∧ ∀ H', Same H H' → Q (.bl (progO k o)) H'
/-! ### both ways to say it are one -/
def lawW (sss : List (List Str)) : List Str := sss.map fun ss => w2 (ss.take 2)
def scansL (sss : List (List Str)) : List (List Str) := sss.filter fun ss => decide (ss.headD "" = "scan")
def lawE (k : Str) (sss : List (List Str)) : Bool :=
  decide ((lawW sss).getLastD "" ∈ (if k ∈ firstK then (["end"] : List Str) else ["end", "close"])) && (decide (cntG ["end", "close"] (lawW sss).dropLast = 0) &&
  (if k ∈ firstK then
    decide (cntG deedsL (lawW sss) = 1) && (decide (cntG ["border"] (lawW sss) ≤ 1) && (decide (cntG ["key"] (lawW sss) ≤ 1) && (befL (lawW sss) ["border", "key", "again", "view"] deedsL &&
    (if k = "direct" then true else decide (cntG ["look"] (lawW sss) = 1) && ((if k = "read" then decide (cntG ["view"] (lawW sss) = 1) else true) && befL (lawW sss) ["look"] partL)))))
  else decide (cntG ["switch", "close"] (lawW sss) = 1) && (befL (lawW sss) ["move", "scan"] ["switch", "close"] && (befL (lawW sss) ["switch", "close"] ["wait"] && (!(decide (("wait" : Str) ∈ lawW sss) && decide (("close" : Str) ∈ lawW sss)) &&
    ((if k ∈ (["split", "join"] : List Str) then decide (cntG ["move"] (lawW sss) = 1) else true) && decide (scansL sss).Nodup))))))
theorem take_ts {k : Str} (hk : k ∈ kindsL) {ss : List Str} (h : stepS k ss = true) : ss.take 2 ∈ tsT k := by
  have lit : ∀ s, stepsT k = stepsT k → s ∈ stepsT k → s.take 2 = s := fun s _ hs => by
    rcases steps_len k hk s hs with ⟨h1, _⟩ | ⟨h1, _⟩
    · exact List.take_of_length_le (by omega)
    · exact List.take_of_length_le (by omega)
  by_cases e : ss.length = 3
  · match ss, e with
    | [a, b, c], _ =>
      have h' : (decide (a = "lock") && (decide (b ∈ locksT k) && nameS c)) = true := h
      rw [Bool.and_eq_true, Bool.and_eq_true, decide_eq_true_iff, decide_eq_true_iff] at h'
      refine List.mem_append_right _ (List.mem_map.mpr ⟨b, h'.2.1, ?_⟩)
      rw [h'.1]
      rfl
  · have h' : ss ∈ stepsT k := by
      match ss, e, h with
      | [], _, h => exact of_decide_eq_true h
      | [_], _, h => exact of_decide_eq_true h
      | [_, _], _, h => exact of_decide_eq_true h
      | [_, _, _], e, _ => exact absurd rfl e
      | _ :: _ :: _ :: _ :: _, _, h => exact of_decide_eq_true h
    rw [lit ss rfl h']
    exact List.mem_append_left _ h'
section
variable {ts : List T2}
theorem cnt1 (g : List Str) : cntG g (ts.map w1) = (ts.filter (in1 g)).length := filter_map_len w1 (fun w => decide (w ∈ g)) ts
theorem cnt2 (g : List Str) : cntG g (ts.map w2) = (ts.filter (in2 g)).length := filter_map_len w2 (fun w => decide (w ∈ g)) ts
theorem poss1 (g : List Str) : poss (fun w => decide (w ∈ g)) (ts.map w1) (ts.map w1).length = poss (in1 g) ts ts.length := by
  rw [List.length_map]
  exact poss_map w1 (fun w => decide (w ∈ g)) ts ts.length
theorem poss2 (g : List Str) : poss (fun w => decide (w ∈ g)) (ts.map w2) (ts.map w2).length = poss (in2 g) ts ts.length := by
  rw [List.length_map]
  exact poss_map w2 (fun w => decide (w ∈ g)) ts ts.length
theorem prog_holds (k : Str) : wordsB k (ts.map w1) = true ↔ ∀ d ∈ progL k, d.holds ts := by
  unfold wordsB endsB hasB ordB befB
  simp only [cnt1, poss1]
  simp only [List.length_map, Bool.and_eq_true, decide_eq_true_iff, List.all_eq_true, Bool.not_eq_true', Bool.and_eq_false_iff, Bool.not_eq_false', decide_eq_false_iff_not]
  have one1 : ∀ w : Str, ((ts.map w1).filter fun x => decide (x = w)).length = (ts.filter (in1 [w])).length := fun w => by
    have e : (fun x : Str => decide (x = w)) = fun x => decide (x ∈ ([w] : List Str)) := by
      funext x
      rw [Bool.eq_iff_iff, decide_eq_true_iff, decide_eq_true_iff, List.mem_singleton]
    rw [e]
    exact cnt1 [w]
  have mem1 : ∀ w : Str, w ∈ ts.map w1 ↔ ∃ x ∈ ts, in1 [w] x = true := fun w => by
    rw [List.mem_map]
    exact ⟨fun ⟨x, hx, e⟩ => ⟨x, hx, decide_eq_true (List.mem_singleton.mpr e)⟩, fun ⟨x, hx, e⟩ => ⟨x, hx, List.mem_singleton.mp (of_decide_eq_true e)⟩⟩
  simp only [one1, mem1]
  constructor
  · rintro ⟨h1, ⟨h2, h3, h4⟩, h5⟩ d hd
    unfold progL at hd
    simp only [List.mem_append, List.mem_map, List.mem_singleton] at hd
    rcases hd with (((rfl | ⟨g, hg, rfl⟩) | rfl) | ⟨w, hw, rfl⟩) | ⟨p, hp, rfl⟩
    · exact h1
    · exact h2 g hg
    · intro q
      rcases h3 with h3 | h3
      · exact absurd q h3
      · exact h3
    · exact h4 w hw
    · exact h5 p hp
  · intro h
    have g : ∀ d, d ∈ progL k → d.holds ts := h
    refine ⟨g (.a (in1 ["end", "close"])) ?_, ⟨fun x hx => g (.one (in1 x)) ?_, ?_, fun x hx => g (.le (in1 [x])) ?_⟩, fun x hx => g (.ord (in1 x.1) (in1 x.2)) ?_⟩
    · unfold progL; simp
    · unfold progL
      simp only [List.mem_append, List.mem_map, List.mem_singleton]
      exact .inl (.inl (.inl (.inr ⟨x, hx, rfl⟩)))
    · have hi := g (.imp (in1 ["wait"]) (in1 ["switch"])) (by unfold progL; simp)
      by_cases q : ∃ x ∈ ts, in1 ["wait"] x = true
      · exact .inr (hi q)
      · exact .inl q
    · unfold progL
      simp only [List.mem_append, List.mem_map, List.mem_singleton]
      exact .inl (.inr ⟨x, hx, rfl⟩)
    · unfold progL
      simp only [List.mem_append, List.mem_map, List.mem_singleton]
      exact .inr ⟨x, hx, rfl⟩
/-- no item is of both -/
theorem befL_ord {E L : List Str} (no : ∀ w ∈ E, w ∉ L) : befL (ts.map w2) E L = true ↔ (Cd.ord (in2 E) (in2 L)).holds ts := by
  unfold befL
  rw [poss2, poss2, decide_eq_true_iff]
  show _ ↔ ∀ i ∈ poss (in2 E) ts ts.length, ∀ j ∈ poss (in2 L) ts ts.length, i < j
  constructor
  · intro h i hi j hj
    have := h i hi j hj
    rcases Nat.lt_or_eq_of_le this with q | q
    · exact q
    · exfalso
      subst q
      obtain ⟨x, hx, px⟩ := mem_poss.mp hi
      obtain ⟨y, hy, py⟩ := mem_poss.mp hj
      rw [hx] at hy
      cases hy
      exact no _ (of_decide_eq_true px) (of_decide_eq_true py)
  · intro h i hi j hj
    exact Nat.le_of_lt (h i hi j hj)
theorem last_a {p q : T2 → Bool} (he : ∀ x ∈ ts, p x = q x) (h0 : ts ≠ []) : (Cd.a p).holds ts ↔ p (ts.getLast h0) = true ∧ (ts.dropLast.filter q).length = 0 := by
  have hn : 0 < ts.length := List.length_pos_iff.mpr h0
  have last : ts[ts.length - 1]? = some (ts.getLast h0) := by
    rw [List.getLast_eq_getElem]
    exact List.getElem?_eq_getElem (by omega)
  show poss p ts ts.length = [ts.length - 1] ↔ _
  constructor
  · intro h
    constructor
    · have : ts.length - 1 ∈ poss p ts ts.length := by rw [h]; exact List.mem_singleton.mpr rfl
      obtain ⟨x, hx, px⟩ := mem_poss.mp this
      rw [last] at hx
      cases hx
      exact px
    · rw [List.length_eq_zero_iff, List.filter_eq_nil_iff]
      intro x hx qx
      obtain ⟨i, hi, e⟩ := List.getElem_of_mem hx
      have hi2 : i < ts.length - 1 := by rw [List.length_dropLast] at hi; exact hi
      rw [List.getElem_dropLast] at e
      have hm : x ∈ ts := List.dropLast_subset _ hx
      have : i ∈ poss p ts ts.length := mem_poss.mpr ⟨x, by rw [← e]; exact List.getElem?_eq_getElem (by omega), by rw [he x hm]; exact qx⟩
      rw [h] at this
      have := List.mem_singleton.mp this
      omega
  · rintro ⟨h1, h2⟩
    rw [List.length_eq_zero_iff, List.filter_eq_nil_iff] at h2
    have hs : ts.length = (ts.length - 1) + 1 := by omega
    rw [hs, poss_step]
    have e1 : pAt p ts (ts.length - 1) = true := by
      unfold pAt
      rw [last]
      exact h1
    have e2 : poss p ts (ts.length - 1) = [] := by
      unfold poss
      rw [List.filter_eq_nil_iff]
      intro i hi
      have hi := List.mem_range.mp hi
      unfold pAt
      rw [List.getElem?_eq_getElem (by omega)]
      show ¬ p ts[i] = true
      rw [he _ (List.getElem_mem (by omega))]
      refine h2 _ ?_
      rw [← List.getElem_dropLast (by rw [List.length_dropLast]; exact hi)]
      exact List.getElem_mem _
    rw [e1, if_pos rfl, e2]
    rfl
end
theorem scan_steps : ∀ k ∈ kindsL, ∀ s ∈ stepsT k, s.headD "" = "scan" → s = (["scan", "new"] : List Str) ∨ s = (["scan", "rest"] : List Str) := by decide +kernel
theorem step_cases {k : Str} {ss : List Str} (h : stepS k ss = true) : ss ∈ stepsT k ∨ ∃ b c, ss = (["lock", b, c] : List Str) := by
  by_cases e : ss.length = 3
  · match ss, e with
    | [a, b, c], _ =>
      have h' : (decide (a = "lock") && (decide (b ∈ locksT k) && nameS c)) = true := h
      rw [Bool.and_eq_true, decide_eq_true_iff] at h'
      rw [h'.1]
      exact .inr ⟨b, c, rfl⟩
  · match ss, e, h with
    | [], _, h => exact .inl (of_decide_eq_true h)
    | [_], _, h => exact .inl (of_decide_eq_true h)
    | [_, _], _, h => exact .inl (of_decide_eq_true h)
    | [_, _, _], e, _ => exact absurd rfl e
    | _ :: _ :: _ :: _ :: _, _, h => exact .inl (of_decide_eq_true h)
theorem scan_ss {k : Str} (hk : k ∈ kindsL) {ss : List Str} (h : stepS k ss = true) : (ss.headD "" = "scan" ↔ ss.take 2 = (["scan", "new"] : List Str) ∨ ss.take 2 = (["scan", "rest"] : List Str)) ∧ (ss.take 2 = (["scan", "new"] : List Str) → ss = (["scan", "new"] : List Str)) ∧ (ss.take 2 = (["scan", "rest"] : List Str) → ss = (["scan", "rest"] : List Str)) := by
  have ns : ¬ (("lock" : Str) = "scan") := by decide +kernel
  rcases step_cases h with hs | ⟨b, c, rfl⟩
  · have ht : ss.take 2 = ss := by
      rcases steps_len k hk ss hs with ⟨h1, _⟩ | ⟨h1, _⟩
      · exact List.take_of_length_le (by omega)
      · exact List.take_of_length_le (by omega)
    rw [ht]
    refine ⟨⟨scan_steps k hk ss hs, ?_⟩, fun e => e, fun e => e⟩
    rintro (rfl | rfl)
    · rfl
    · rfl
  · refine ⟨⟨fun e => absurd e ns, ?_⟩, fun e => ?_, fun e => ?_⟩
    · rintro (e | e)
      · exact absurd (congrArg (fun l : List Str => l.headD "") e) ns
      · exact absurd (congrArg (fun l : List Str => l.headD "") e) ns
    · exact absurd (congrArg (fun l : List Str => l.headD "") e) ns
    · exact absurd (congrArg (fun l : List Str => l.headD "") e) ns
theorem scans_le {k : Str} (hk : k ∈ kindsL) {sss : List (List Str)} (hv : ∀ ss ∈ sss, stepS k ss = true) : (scansL sss).Nodup ↔ (Cd.le fun t : T2 => decide (t = (["scan", "new"] : List Str))).holds (sss.map fun ss => ss.take 2) ∧ (Cd.le fun t : T2 => decide (t = (["scan", "rest"] : List Str))).holds (sss.map fun ss => ss.take 2) := by
  have cnt : ∀ a : List Str, (a = (["scan", "new"] : List Str) ∨ a = (["scan", "rest"] : List Str)) → ((sss.map fun ss => ss.take 2).filter fun t => decide (t = a)).length = (scansL sss).count a := by
    intro a ha
    rw [filter_map_len, List.count_eq_countP, List.countP_eq_length_filter]
    unfold scansL
    rw [List.filter_filter]
    congr 1
    refine List.filter_congr fun ss hs => ?_
    obtain ⟨h1, h2, h3⟩ := scan_ss hk (hv ss hs)
    rw [Bool.eq_iff_iff, decide_eq_true_iff, Bool.and_eq_true, beq_iff_eq, decide_eq_true_iff]
    rcases ha with rfl | rfl
    · exact ⟨fun e => ⟨h2 e, h1.mpr (.inl e)⟩, fun e => by rw [e.1]; rfl⟩
    · exact ⟨fun e => ⟨h3 e, h1.mpr (.inr e)⟩, fun e => by rw [e.1]; rfl⟩
  show _ ↔ ((sss.map fun ss => ss.take 2).filter fun t => decide (t = (["scan", "new"] : List Str))).length ≤ 1 ∧ ((sss.map fun ss => ss.take 2).filter fun t => decide (t = (["scan", "rest"] : List Str))).length ≤ 1
  rw [cnt _ (.inl rfl), cnt _ (.inr rfl), List.nodup_iff_count]
  constructor
  · exact fun h => ⟨h _, h _⟩
  · rintro ⟨h1, h2⟩ a
    by_cases hm : a ∈ scansL sss
    · obtain ⟨hm1, hm2⟩ := List.mem_filter.mp hm
      obtain ⟨g1, g2, g3⟩ := scan_ss hk (hv a hm1)
      rcases g1.mp (of_decide_eq_true hm2) with e | e
      · rw [g2 e]; exact h1
      · rw [g3 e]; exact h2
    · rw [List.count_eq_zero_of_not_mem hm]
      exact Nat.zero_le _
theorem end_close : ∀ k ∈ firstK, ∀ x ∈ tsT k, in2 ["end"] x = in2 ["end", "close"] x := by decide +kernel
theorem law_holds {k : Str} (hk : k ∈ kindsL) {sss : List (List Str)} (hv : ∀ ss ∈ sss, stepS k ss = true) (h0 : sss ≠ []) : lawE k sss = true ↔ ∀ d ∈ lawL k, d.holds (sss.map fun ss => ss.take 2) := by
  have hA : ∀ x ∈ sss.map (fun ss => ss.take 2), x ∈ tsT k := fun x hx => by
    obtain ⟨ss, hs, rfl⟩ := List.mem_map.mp hx
    exact take_ts hk (hv ss hs)
  have eW : lawW sss = (sss.map fun ss => ss.take 2).map w2 := by
    unfold lawW
    rw [List.map_map]
    rfl
  have sc := scans_le hk hv
  generalize hts : (sss.map fun ss => ss.take 2) = ts at hA eW sc ⊢
  have t0 : ts ≠ [] := by
    rw [← hts]
    simpa using h0
  have eL : (lawW sss).getLastD "" = w2 (ts.getLast t0) := by
    rw [eW, List.getLastD_eq_getLast?, List.getLast?_map, List.getLast?_eq_some_getLast t0]
    rfl
  have eD : cntG ["end", "close"] (lawW sss).dropLast = (ts.dropLast.filter (in2 ["end", "close"])).length := by
    rw [eW, ← List.map_dropLast]
    exact cnt2 _
  have mem2 : ∀ w : Str, w ∈ ts.map w2 ↔ ∃ x ∈ ts, in2 [w] x = true := fun w => by
    rw [List.mem_map]
    exact ⟨fun ⟨x, hx, e⟩ => ⟨x, hx, decide_eq_true (List.mem_singleton.mpr e)⟩, fun ⟨x, hx, e⟩ => ⟨x, hx, List.mem_singleton.mp (of_decide_eq_true e)⟩⟩
  have b1 := befL_ord (ts := ts) (E := ["border", "key", "again", "view"]) (L := deedsL) (by decide +kernel)
  have b2 := befL_ord (ts := ts) (E := ["look"]) (L := partL) (by decide +kernel)
  have b3 := befL_ord (ts := ts) (E := ["move", "scan"]) (L := ["switch", "close"]) (by decide +kernel)
  have b4 := befL_ord (ts := ts) (E := ["switch", "close"]) (L := ["wait"]) (by decide +kernel)
  unfold lawE lawL
  rw [eL, eD, eW]
  simp only [cnt2]
  by_cases hf : k ∈ firstK
  · have la := last_a (ts := ts) (p := in2 ["end"]) (q := in2 ["end", "close"]) (fun x hx => end_close k hf x (hA x hx)) t0
    have l1 : decide (w2 (ts.getLast t0) ∈ (["end"] : List Str)) = in2 ["end"] (ts.getLast t0) := rfl
    rw [if_pos hf, if_pos hf, if_pos hf, l1]
    by_cases hd : k = "direct"
    · rw [if_pos hd, if_pos hd]
      simp only [Bool.and_eq_true, decide_eq_true_iff, b1, List.append_nil, List.forall_mem_cons, List.not_mem_nil, false_imp_iff, implies_true, and_true, la]
      rw [and_assoc]
      rfl
    · rw [if_neg hd, if_neg hd]
      by_cases hr : k = "read"
      · rw [if_pos hr, if_pos hr]
        simp only [Bool.and_eq_true, decide_eq_true_iff, b1, b2, List.cons_append, List.nil_append, List.forall_mem_cons, List.not_mem_nil, false_imp_iff, implies_true, and_true, la]
        rw [and_assoc]
        rfl
      · rw [if_neg hr, if_neg hr]
        simp only [Bool.and_eq_true, decide_eq_true_iff, b1, b2, List.cons_append, List.nil_append, List.forall_mem_cons, List.not_mem_nil, false_imp_iff, implies_true, and_true, true_and, la]
        rw [and_assoc]
        rfl
  · have la := last_a (ts := ts) (p := in2 ["end", "close"]) (q := in2 ["end", "close"]) (fun _ _ => rfl) t0
    have l1 : decide (w2 (ts.getLast t0) ∈ (["end", "close"] : List Str)) = in2 ["end", "close"] (ts.getLast t0) := rfl
    rw [if_neg hf, if_neg hf, if_neg hf, l1]
    have nd : (!(decide (("wait" : Str) ∈ ts.map w2) && decide (("close" : Str) ∈ ts.map w2))) = true ↔ (Cd.nand (in2 ["wait"]) (in2 ["close"])).holds ts := by
      rw [Bool.not_eq_true', Bool.and_eq_false_iff, decide_eq_false_iff_not, decide_eq_false_iff_not, mem2, mem2]
      show _ ↔ ¬ (_ ∧ _)
      rw [Classical.not_and_iff_not_or_not]
    by_cases hm : k ∈ (["split", "join"] : List Str)
    · rw [if_pos hm, if_pos hm]
      simp only [Bool.and_eq_true, decide_eq_true_iff, b3, b4, nd, sc, List.cons_append, List.nil_append, List.forall_mem_cons, List.not_mem_nil, false_imp_iff, implies_true, and_true, la]
      rw [and_assoc]
      rfl
    · rw [if_neg hm, if_neg hm]
      simp only [Bool.and_eq_true, decide_eq_true_iff, b3, b4, nd, sc, List.cons_append, List.nil_append, List.forall_mem_cons, List.not_mem_nil, false_imp_iff, implies_true, and_true, true_and, la]
      rw [and_assoc]
      rfl
theorem words_law {k : Str} (hk : k ∈ kindsL) {sss : List (List Str)} (hv : ∀ ss ∈ sss, stepS k ss = true) (h0 : sss ≠ []) : wordsB k (sss.map fun ss => w1 (ss.take 2)) = lawE k sss := by
  have e : (sss.map fun ss => w1 (ss.take 2)) = (sss.map fun ss => ss.take 2).map w1 := by
    rw [List.map_map]
    rfl
  rw [e, Bool.eq_iff_iff, prog_holds, law_holds hk hv h0]
  refine prog_law hk fun x hx => ?_
  obtain ⟨ss, hs, rfl⟩ := List.mem_map.mp hx
  exact take_ts hk (hv ss hs)
theorem ne1 (n : Nat) : (!decide (V.int (n : Int) = V.int 1)) = !decide (n = 1) := by
  rw [dec_int]
  congr 1
  rw [Bool.eq_iff_iff, beq_iff_eq, decide_eq_true_iff]
  omega
theorem eqv_strsD (a b : List Str) : PyData.eqv (strsD a) (strsD b) = decide (a = b) := by
  rw [Bool.eq_iff_iff, decide_eq_true_iff]
  constructor
  · intro h
    have e : PyData.eqvAll (a.map .str) (b.map .str) = true := by simpa [strsD, PyData.eqv] using h
    have := eqvAll_strs a e
    exact (List.map_inj_right (fun x y q => by injection q) |>.mp this).symm
  · rintro rfl
    simp [strsD, PyData.eqv, eqv_strs_self]
theorem step_ne {k : Str} (hk : k ∈ kindsL) {ss : List Str} (h : stepS k ss = true) : ss ≠ [] := by
  rcases step_cases h with hs | ⟨b, c, rfl⟩
  · rcases steps_len k hk ss hs with ⟨h1, _⟩ | ⟨h1, _⟩
    · exact fun e => by rw [e] at h1; cases h1
    · exact fun e => by rw [e] at h1; cases h1
  · exact fun e => by cases e
theorem cut_last (W : List Str) : cutV (W.map V.str) none (some (-1)) = W.dropLast.map V.str := by
  unfold cutV
  rw [HT.sIx_none, List.drop_zero, Nat.sub_zero, List.dropLast_eq_take, List.map_take]
  congr 1
  unfold HT.sIx
  simp only []
  rw [if_pos (by decide), List.length_map]
  omega
theorem at_last {W : List Str} (h : W ≠ []) : atI (W.map V.str) (-1) = some (.str (W.getLastD "")) := by
  have hn : 0 < W.length := List.length_pos_iff.mpr h
  unfold atI ixN
  rw [if_neg (by decide), List.length_map, if_pos (by omega)]
  show (W.map V.str)[_]? = _
  rw [List.getElem?_map, List.getLastD_eq_getLast?, List.getLast?_eq_getElem?]
  have e : ((-1 : Int) + (W.length : Int)).toNat = W.length - 1 := by omega
  rw [e, List.getElem?_eq_getElem (by omega)]
  rfl
def lastL (k : Str) : List Str := if k ∈ firstK then (["end"] : List Str) else ["end", "close"]
theorem kinds4 (k : Str) : inV (.str k) (cutV (kindsL.map V.str) none (some 4)) = decide (k ∈ firstK) := by
  have e : cutV (kindsL.map V.str) none (some 4) = firstK.map V.str := by rfl
  rw [e, in_strs]
def hdD : PyData → Str
  | .tuple (.str s :: _) => s
  | _ => ""
theorem hdD_strs (ss : List Str) : hdD (strsD ss) = ss.headD "" := by
  cases ss <;> rfl
theorem scans_ds (sss : List (List Str)) : ((sss.map strsD).filter fun d => decide (hdD d = "scan")) = (scansL sss).map strsD := by
  rw [List.filter_map]
  unfold scansL
  congr 2
  funext ss
  show decide (hdD (strsD ss) = "scan") = _
  rw [hdD_strs]
def dupC (S : List (List Str)) (j : Nat) : Bool := match S[j]? with
  | some s => decide (s ∈ S.take j)
  | none => false
theorem nodup_idx (S : List (List Str)) : ((List.range S.length).filter (dupC S)).isEmpty = decide S.Nodup := by
  rw [Bool.eq_iff_iff, List.isEmpty_iff, List.filter_eq_nil_iff, decide_eq_true_iff]
  have key : ∀ j (hj : j < S.length), dupC S j = decide (S[j] ∈ S.take j) := fun j hj => by
    unfold dupC
    rw [List.getElem?_eq_getElem hj]
  constructor
  · intro h
    refine List.pairwise_iff_getElem.mpr fun i j hi hj hij e => ?_
    have := h j (List.mem_range.mpr hj)
    rw [key j hj, decide_eq_true_iff] at this
    refine this ?_
    rw [← e]
    have e2 : S[i] = (S.take j)[i]'(by rw [List.length_take]; omega) := by rw [List.getElem_take]
    rw [e2]
    exact List.getElem_mem _
  · intro h j hj
    have hj := List.mem_range.mp hj
    rw [key j hj, decide_eq_true_iff]
    intro hm
    obtain ⟨i, hi, e⟩ := List.getElem_of_mem hm
    rw [List.length_take] at hi
    rw [List.getElem_take] at e
    exact List.pairwise_iff_getElem.mp h i j (by omega) hj (by omega) e
/-! ### programs drawn -/
def PL (K : PySem.W.Frag) (H : Hp) (l : Addr) (sss : List (List Str)) : Prop := ∃ xs, H l = some (.lst xs) ∧ DpAll K H xs (sss.map strsD)
theorem PL.mono {K : PySem.W.Frag} {H H' : Hp} {l : Addr} {sss : List (List Str)} (h : PL K H l sss) (s : Same H H') : PL K H' l sss := by
  obtain ⟨xs, h1, h2⟩ := h
  exact ⟨xs, s _ _ h1, dpAll_mono s h2⟩
theorem dp_tup1 {K : PySem.W.Frag} {H : Hp} {t : Addr} {ss : List Str} (h : H t = some (.tup (ss.map V.str))) : Dp K H (.ref t) (strsD ss) := .tup (SqT.of h) (dpAll_strs ss)
def goodS (ss : List Str) : Prop := ss.length ≤ 3 ∧ ∀ s ∈ ss, sOk 16 s
theorem good_vd {K : PySem.W.Frag} {H : Hp} {v : V} {ss : List Str} (g : goodS ss) (h : Dp K H v (strsD ss)) : VD K H v (some (strsD ss)) ∧ shortO (some (strsD ss)) := by
  refine ⟨.dat h (strsD_shaped fun s hs => shaped_iff.mpr ⟨?_, by simp [PyData.depth]⟩) (fun s e => nomatch e), fun ds e => ?_⟩
  · simp only [PyData.canLay0]
    exact (g.2 s hs).2
  · injection e with e
    injection e with e
    rw [← e]
    refine ⟨by rw [List.length_map]; have := g.1; omega, fun s hs => ?_⟩
    obtain ⟨t, ht, q⟩ := List.mem_map.mp hs
    injection q with q
    rw [← q]
    exact Nat.le_trans (g.2 t ht).1 (by decide)
theorem good_list {K : PySem.W.Frag} {H : Hp} {l : Addr} {sss : List (List Str)} (g : ∀ ss ∈ sss, goodS ss) (hl : sss.length ≤ 100) (h : PL K H l sss) : VD K H (.ref l) (some (.list (sss.map strsD))) ∧ progOk (some (.list (sss.map strsD))) := by
  obtain ⟨xs, h1, h2⟩ := h
  have sh : ∀ ss, goodS ss → (strsD ss).canLay0 = true ∧ (strsD ss).depth ≤ 1 := fun ss g => by
    refine ⟨(shaped_iff.mp (strsD_shaped fun s hs => shaped_iff.mpr ⟨by simp only [PyData.canLay0]; exact (g.2 s hs).2, by simp [PyData.depth]⟩)).1, ?_⟩
    have : PyData.depthAll (ss.map .str) ≤ 0 := depthAll_le fun d hd => by
      obtain ⟨s, hs, rfl⟩ := List.mem_map.mp hd
      simp [PyData.depth]
    simp only [strsD, PyData.depth]
    omega
  refine ⟨.dat (.lst (SqL.of h1) h2) (shaped_list (n := 1) (by decide) fun d hd => ?_) (fun s e => nomatch e), fun ds e => ?_⟩
  · obtain ⟨ss, hs, rfl⟩ := List.mem_map.mp hd
    exact sh ss (g ss hs)
  · injection e with e
    injection e with e
    rw [← e]
    refine ⟨by rw [List.length_map]; exact Nat.le_trans hl (by decide), fun d hd => ?_⟩
    obtain ⟨ss, hs, rfl⟩ := List.mem_map.mp hd
    exact ⟨fun ds2 e2 => by
      injection e2 with e2
      injection e2 with e2
      rw [← e2]
      refine ⟨by rw [List.length_map]; have := (g ss hs).1; omega, fun s hs2 => ?_⟩
      obtain ⟨t, ht, q⟩ := List.mem_map.mp hs2
      injection q with q
      rw [← q]
      exact Nat.le_trans ((g ss hs).2 t ht).1 (by decide), fun s e => nomatch e⟩
def progS (k : Str) (sss : List (List Str)) : Bool := progD k (sss.map strsD)
theorem progS_len {k : Str} {sss : List (List Str)} (h : progS k sss = true) : 1 ≤ sss.length ∧ sss.length ≤ 12 := by
  unfold progS progD at h
  rw [Bool.and_eq_true, decide_eq_true_iff, List.length_map] at h
  exact h.1
def goodB (sss : List (List Str)) : Bool := sss.all fun ss => !decide (ss.headD "" = "lock") && (decide (ss.length ≤ 3) && ss.all fun s => decide (s.length ≤ 16) && PyData.strOk s)
/-- a step as it is drawn: a lock's mode is one of ms -/
def drawS (ms : List Str) (ss : List Str) : Prop := goodS ss ∧ (ss.headD "" = "lock" → ss.getD 2 "" ∈ ms)
theorem goodB_ok {sss : List (List Str)} (h : goodB sss = true) : ∀ ss ∈ sss, drawS [] ss := fun ss hs => by
  have h0 := List.all_eq_true.mp h ss hs
  rw [Bool.and_eq_true] at h0
  have this := h0.2
  rw [Bool.and_eq_true, decide_eq_true_iff] at this
  refine ⟨⟨this.1, fun s hs => ?_⟩, fun e => absurd e (by simpa using h0.1)⟩
  have := List.all_eq_true.mp this.2 s hs
  rw [Bool.and_eq_true, decide_eq_true_iff] at this
  exact this
def sp_base (K : PySem.W.Frag) : Sp := fun vs H Q _ => ∃ (H0 : Hp) (p : Addr) (n : Nat) (k : Str), vs = [.ref p, .str k] ∧ k ∈ kindsL ∧ BoxIn H0 H p n ∧ n + 5 < 1000000 ∧
  ∀ (H1 H' : Hp) (l : Addr) (sss : List (List Str)), Same H0 H1 → BoxIn H1 H' p (n + 5) → PL K H1 l sss → progS k sss = true → (∀ ss ∈ sss, drawS [] ss) → Q (.ref l) H'
def sp_program (K : PySem.W.Frag) : Sp := fun vs H Q _ => ∃ (H0 : Hp) (p m : Addr) (n : Nat) (k : Str) (ms : List Str), vs = [.ref p, .str k, .ref m] ∧ k ∈ kindsL ∧ BoxIn H0 H p n ∧ H0 m = some (.lst (ms.map V.str)) ∧ 0 < ms.length ∧ ms.length ≤ 100 ∧ (∀ s ∈ ms, sOk 16 s) ∧ n + 200 < 1000000 ∧
  ∀ (H1 H' : Hp) (l : Addr) (sss : List (List Str)), Same H0 H1 → BoxIn H1 H' p (n + 200) → PL K H1 l sss → progS k sss = true → (∀ ss ∈ sss, drawS ms ss) → Q (.ref l) H'
def lastsL : List (List (List Str)) := [[["close"]], [["switch"], ["end"]], [["switch"], ["wait"], ["end"]]]
theorem base_put : ∀ d ∈ ([["claim"], ["put"]] : List (List Str)), progS "put" [["look"], d, ["end"]] = true ∧ goodB [["look"], d, ["end"]] = true ∧ progS "direct" [d, ["end"]] = true ∧ goodB [d, ["end"]] = true := by decide +kernel
theorem base_strike : progS "strike" [["look"], ["strike"], ["end"]] = true ∧ goodB [["look"], ["strike"], ["end"]] = true := by decide +kernel
theorem base_read : ∀ a ∈ ([[["look"], ["view"]], [["view"], ["look"]]] : List (List (List Str))), progS "read" (a ++ ([["read"], ["end"]] : List (List Str))) = true ∧ goodB (a ++ ([["read"], ["end"]] : List (List Str))) = true := by decide +kernel
theorem base_change : ∀ a ∈ lastsL, (∀ k ∈ (["hang", "take"] : List Str), progS k a = true) ∧ (∀ k ∈ (["split", "join"] : List Str), progS k (([["move"]] : List (List Str)) ++ a) = true) ∧ goodB a = true ∧ goodB (([["move"]] : List (List Str)) ++ a) = true := by decide +kernel
/-- a datum of three deep at most, its texts short -/
def GV (K : PySem.W.Frag) (H : Hp) (v : V) : Prop := ∃ d, Dp K H v d ∧ d.canLay0 = true ∧ d.depth ≤ 3 ∧ (∀ s, d = .str s → s.length ≤ 100000) ∧ shortO (some d)
theorem GV.mono {K : PySem.W.Frag} {H H' : Hp} {v : V} (h : GV K H v) (s : Same H H') : GV K H' v := by
  obtain ⟨d, h1, h2⟩ := h
  exact ⟨d, dp_mono s h1, h2⟩
theorem gv_none (K : PySem.W.Frag) (H : Hp) : GV K H .non := ⟨.none, .non, by decide +kernel, by decide +kernel, (fun _ e => nomatch e), fun ds e => by cases e⟩
theorem gv_int (K : PySem.W.Frag) (H : Hp) (i : Int) : GV K H (.int i) := ⟨.int i, .int i, rfl, by simp [PyData.depth], (fun _ e => nomatch e), fun ds e => by cases e⟩
theorem gv_str (K : PySem.W.Frag) (H : Hp) {s : Str} (h : sOk 16 s) : GV K H (.str s) := ⟨.str s, .str s, by simp only [PyData.canLay0]; exact h.2, by simp [PyData.depth], (fun t e => by injection e with e; rw [← e]; exact Nat.le_trans h.1 (by decide)), fun ds e => by cases e⟩
theorem good_sh {ss : List Str} (g : goodS ss) : (strsD ss).canLay0 = true ∧ (strsD ss).depth ≤ 1 := by
  refine ⟨(shaped_iff.mp (strsD_shaped fun s hs => shaped_iff.mpr ⟨by simp only [PyData.canLay0]; exact (g.2 s hs).2, by simp [PyData.depth]⟩)).1, ?_⟩
  have : PyData.depthAll (ss.map .str) ≤ 0 := depthAll_le fun d hd => by
    obtain ⟨s, hs, rfl⟩ := List.mem_map.mp hd
    simp [PyData.depth]
  simp only [strsD, PyData.depth]
  omega
theorem gv_tup {K : PySem.W.Frag} {H : Hp} {v : V} {ss : List Str} (g : goodS ss) (h : Dp K H v (strsD ss)) : GV K H v :=
  ⟨strsD ss, h, (good_sh g).1, Nat.le_trans (good_sh g).2 (by decide), (fun _ e => nomatch e), (good_vd g h).2⟩
/-- the items of a list of such values -/
theorem gv_all {K : PySem.W.Frag} {H : Hp} {xs : List V} (g : ∀ x ∈ xs, GV K H x) : ∃ ds, DpAll K H xs ds ∧ ds.length = xs.length ∧ (∀ d ∈ ds, d.canLay0 = true ∧ d.depth ≤ 3) ∧ ∀ d ∈ ds, shortO (some d) ∧ ∀ s, d = .str s → s.length ≤ 100000 := by
  induction xs with
  | nil => exact ⟨[], .nil, rfl, (fun d h => by cases h), fun d h => by cases h⟩
  | cons y r ih =>
    obtain ⟨ds, i1, i2, i3, i4⟩ := ih fun x hx => g x (List.mem_cons_of_mem _ hx)
    obtain ⟨d, a, b, c, e, f⟩ := g y List.mem_cons_self
    refine ⟨d :: ds, .cons a i1, by simp [i2], fun x hx => ?_, fun x hx => ?_⟩
    · rcases List.mem_cons.mp hx with rfl | q
      · exact ⟨b, c⟩
      · exact i3 x q
    · rcases List.mem_cons.mp hx with rfl | q
      · exact ⟨f, e⟩
      · exact i4 x q
theorem gv_list {K : PySem.W.Frag} {H : Hp} {l : Addr} {xs : List V} (hl : xs.length ≤ 100) (g : ∀ x ∈ xs, GV K H x) (h : H l = some (.lst xs)) : ∃ o, VD K H (.ref l) o ∧ progOk o := by
  obtain ⟨ds, i1, i2, i3, i4⟩ := gv_all g
  refine ⟨some (.list ds), .dat (.lst (SqL.of h) i1) (shaped_list (n := 3) (by decide) i3) (fun s e => nomatch e), fun es e => ?_⟩
  injection e with e
  injection e with e
  rw [← e]
  exact ⟨by omega, i4⟩
theorem pl_gv {K : PySem.W.Frag} {H : Hp} : ∀ {xs : List V} {sss : List (List Str)}, DpAll K H xs (sss.map strsD) → (∀ ss ∈ sss, goodS ss) → ∀ x ∈ xs, GV K H x
  | _, [], .nil, _ => fun x h => by cases h
  | _, ss :: r, .cons a b, g => fun x h => by
    rcases List.mem_cons.mp h with rfl | q
    · exact gv_tup (g ss List.mem_cons_self) a
    · exact pl_gv b (fun s hs => g s (List.mem_cons_of_mem _ hs)) x q
def sp_bent22 (K : PySem.W.Frag) : Sp := fun vs H Q _ => ∃ (H0 : Hp) (p l m : Addr) (n : Nat) (xs : List V) (ms : List Str), vs = [.ref p, .ref l, .ref m] ∧ BoxIn H0 H p n ∧ H0 l = some (.lst xs) ∧ 0 < xs.length ∧ xs.length ≤ 40 ∧ (∀ x ∈ xs, GV K H0 x) ∧ H0 m = some (.lst (ms.map V.str)) ∧ 0 < ms.length ∧ ms.length ≤ 100 ∧ (∀ s ∈ ms, sOk 16 s) ∧ n + 30 < 1000000 ∧
  ∀ (H1 H' : Hp) (l' : Addr) (xs' : List V), Same H0 H1 → BoxIn H1 H' p (n + 30) → H1 l' = some (.lst xs') → xs'.length ≤ xs.length + 9 → (∀ x ∈ xs', GV K H1 x) → Q (.ref l') H'
/-- values that are no programs -/
def OddP (K : PySem.W.Frag) (H : Hp) (v : V) : Prop := ∃ o, VD K H v o ∧ progOk o ∧ ∀ k ∈ kindsL, progO k o = false
def sp_told22 (K : PySem.W.Frag) : Sp := fun vs H Q _ => ∃ (x : V) (o : Option PyData), vs = [x, .str ""] ∧ VD K H x o ∧ progOk o ∧ Told1 H Q "kind" (.str "")
theorem gv_tup0 {K : PySem.W.Frag} {H : Hp} {t : Addr} {ss : List Str} (h3 : ss.length ≤ 3) (h : ∀ s ∈ ss, sOk 16 s) (ht : H t = some (.tup (ss.map V.str))) : GV K H (.ref t) := gv_tup ⟨h3, h⟩ (dp_tup1 ht)
theorem gv_lst1 {K : PySem.W.Frag} {H : Hp} {l t : Addr} (hl : H l = some (.lst [.ref t])) (ht : H t = some (.tup ((["end"] : List Str).map V.str))) : GV K H (.ref l) := by
  refine ⟨.list [strsD ["end"]], .lst (SqL.of hl) (.cons (dp_tup1 ht) .nil), by decide +kernel, by decide +kernel, (fun _ e => nomatch e), fun ds e => by cases e⟩
theorem mem_rep {α : Type} {x : α} {ys : List α} {n : Nat} (h : x ∈ (List.replicate n ys).flatten) : x ∈ ys := by
  obtain ⟨l, hl, hx⟩ := List.mem_flatten.mp h
  rw [(List.mem_replicate.mp hl).2] at hx
  exact hx
theorem len_rep {α : Type} {ys : List α} {n : Nat} : (List.replicate n ys).flatten.length = n * ys.length := by
  induction n with
  | zero => simp
  | succ n ih => rw [List.replicate_succ, List.flatten_cons, List.length_append, ih, Nat.succ_mul, Nat.add_comm]
theorem odd_int (K : PySem.W.Frag) (H : Hp) : OddP K H (.int 5) := ⟨some (.int 5), .dat (.int 5) (by decide +kernel) (fun _ e => nomatch e), (fun ds e => by cases e), fun k _ => rfl⟩
theorem odd_look (K : PySem.W.Frag) (H : Hp) : OddP K H (.str "look") := ⟨some (.str "look"), .dat (.str _) (by decide +kernel) (fun s e => by cases e; decide +kernel), (fun ds e => by cases e), fun k _ => rfl⟩
theorem odd_tup {K : PySem.W.Frag} {H : Hp} {t : Addr} {xs : List V} (g : ∀ x ∈ xs, GV K H x) (h : H t = some (.tup xs)) : OddP K H (.ref t) := by
  obtain ⟨ds, i1, i2, i3, i4⟩ := gv_all g
  refine ⟨some (.tuple ds), .dat (.tup (SqT.of h) i1) (shaped_iff.mpr ⟨?_, ?_⟩) (fun _ e => nomatch e), (fun ds e => by cases e), fun k _ => rfl⟩
  · simp only [PyData.canLay0]
    exact canAll_mem.mpr fun d hd => (i3 d hd).1
  · have := depthAll_le fun d hd => (i3 d hd).2
    simp only [PyData.depth]
    omega
theorem odd_dic {K : PySem.W.Frag} {H : Hp} {t : Addr} (h : H t = some (.dK [])) : OddP K H (.ref t) := ⟨none, .dic h, (fun ds e => by cases e), fun k _ => rfl⟩
theorem odd_lst0 {K : PySem.W.Frag} {H : Hp} {t : Addr} (h : H t = some (.lst [])) : OddP K H (.ref t) := by
  refine ⟨some (.list []), .dat (.lst (SqL.of h) .nil) shaped_nil (fun _ e => nomatch e), fun ds e => ?_, fun k _ => by simp [progO, progD]⟩
  injection e with e
  injection e with e
  rw [← e]
  exact ⟨by decide, fun d h => by cases h⟩
theorem odd_lst1 {K : PySem.W.Frag} {H : Hp} {t : Addr} (h : H t = some (.lst [.non])) : OddP K H (.ref t) := by
  have all : ∀ k ∈ kindsL, progO k (some (.list [.none])) = false := by decide +kernel
  refine ⟨some (.list [.none]), .dat (.lst (SqL.of h) (.cons .non .nil)) (by decide +kernel) (fun _ e => nomatch e), fun ds e => ?_, all⟩
  injection e with e
  injection e with e
  rw [← e]
  refine ⟨by decide, fun d h => ?_⟩
  rw [List.mem_singleton.mp h]
  exact ⟨(fun ds e => by cases e), fun s e => by cases e⟩
theorem kindNo {s : Str} (hk : s ∈ kindsL) {A : Prop} (e : kindD (.str s) = false) : A := by
  rw [kindD_str, decide_eq_true hk] at e
  cases e
theorem kindSh : ∀ s ∈ kindsL, SeqAt.shaped (.str s) = true := by decide +kernel
/-! base 4 -/
def tb_KINDS : PyData := (.tuple [(.str "put"), (.str "strike"), (.str "read"), (.str "direct"), (.str "hang"), (.str "take"), (.str "split"), (.str "join")])
def tb_LOCKS : List (Str × PyData) := [("put", (.tuple [(.str "table"), (.str "part")])), ("strike", (.tuple [(.str "table"), (.str "part")])), ("read", (.tuple [(.str "table"), (.str "part")])), ("direct", (.tuple [(.str "part")])), ("hang", (.tuple [(.str "table"), (.str "new"), (.str "rest")])), ("take", (.tuple [(.str "table"), (.str "old"), (.str "rest")])), ("split", (.tuple [(.str "table"), (.str "old"), (.str "new"), (.str "rest")])), ("join", (.tuple [(.str "table"), (.str "old"), (.str "new"), (.str "rest")]))]
def tb_STEPS : List (Str × PyData) := [("put", (.tuple [(.tuple [(.str "look")]), (.tuple [(.str "again")]), (.tuple [(.str "key")]), (.tuple [(.str "put")]), (.tuple [(.str "claim")]), (.tuple [(.str "end")])])), ("strike", (.tuple [(.tuple [(.str "look")]), (.tuple [(.str "again")]), (.tuple [(.str "strike")]), (.tuple [(.str "end")])])), ("read", (.tuple [(.tuple [(.str "look")]), (.tuple [(.str "again")]), (.tuple [(.str "view")]), (.tuple [(.str "read")]), (.tuple [(.str "end")])])), ("direct", (.tuple [(.tuple [(.str "border")]), (.tuple [(.str "key")]), (.tuple [(.str "put")]), (.tuple [(.str "claim")]), (.tuple [(.str "end")])])), ("hang", (.tuple [(.tuple [(.str "scan"), (.str "new")]), (.tuple [(.str "scan"), (.str "rest")]), (.tuple [(.str "switch")]), (.tuple [(.str "wait")]), (.tuple [(.str "close")]), (.tuple [(.str "end")])])), ("take", (.tuple [(.tuple [(.str "switch")]), (.tuple [(.str "wait")]), (.tuple [(.str "close")]), (.tuple [(.str "end")])])), ("split", (.tuple [(.tuple [(.str "move")]), (.tuple [(.str "switch")]), (.tuple [(.str "wait")]), (.tuple [(.str "close")]), (.tuple [(.str "end")])])), ("join", (.tuple [(.tuple [(.str "move")]), (.tuple [(.str "switch")]), (.tuple [(.str "wait")]), (.tuple [(.str "close")]), (.tuple [(.str "end")])]))]
def tb_NEEDED : List (Str × PyData) := [("put", (.tuple [(.tuple [(.str "look")]), (.tuple [(.str "put"), (.str "claim")])])), ("strike", (.tuple [(.tuple [(.str "look")]), (.tuple [(.str "strike")])])), ("read", (.tuple [(.tuple [(.str "look")]), (.tuple [(.str "view")]), (.tuple [(.str "read")])])), ("direct", (.tuple [(.tuple [(.str "put"), (.str "claim")])])), ("hang", (.tuple [(.tuple [(.str "switch"), (.str "close")])])), ("take", (.tuple [(.tuple [(.str "switch"), (.str "close")])])), ("split", (.tuple [(.tuple [(.str "switch"), (.str "close")]), (.tuple [(.str "move")])])), ("join", (.tuple [(.tuple [(.str "switch"), (.str "close")]), (.tuple [(.str "move")])]))]
def tb_AT_MOST_ONCE : PyData := (.tuple [(.str "border"), (.str "key"), (.str "scan new"), (.str "scan rest")])
def tb_ORDERS : PyData := (.tuple [(.tuple [(.tuple [(.str "look")]), (.tuple [(.str "lock part"), (.str "again"), (.str "key"), (.str "put"), (.str "claim"), (.str "strike"), (.str "read")])]), (.tuple [(.tuple [(.str "view")]), (.tuple [(.str "read")])]), (.tuple [(.tuple [(.str "border"), (.str "key"), (.str "again")]), (.tuple [(.str "put"), (.str "claim"), (.str "strike"), (.str "read")])]), (.tuple [(.tuple [(.str "move"), (.str "scan new"), (.str "scan rest")]), (.tuple [(.str "switch"), (.str "close")])]), (.tuple [(.tuple [(.str "switch")]), (.tuple [(.str "wait")])])])
/-- what the top has written -/
structure Txt (K : PySem.W.Frag) (mg : Str → Option Value) (w : World) where
  f_InvalidName_init : Addr
  fd_InvalidName_init : FuncData
  F_InvalidName_init : Fun K "__init__" "InvalidName.__init__" s_InvalidName_init f_InvalidName_init fd_InvalidName_init
  b_InvalidName_init : Binds K fd_InvalidName_init ["self", "value"] []
  f_InvalidModes_init : Addr
  fd_InvalidModes_init : FuncData
  F_InvalidModes_init : Fun K "__init__" "InvalidModes.__init__" s_InvalidModes_init f_InvalidModes_init fd_InvalidModes_init
  b_InvalidModes_init : Binds K fd_InvalidModes_init ["self", "value"] []
  f_InvalidClash_init : Addr
  fd_InvalidClash_init : FuncData
  F_InvalidClash_init : Fun K "__init__" "InvalidClash.__init__" s_InvalidClash_init f_InvalidClash_init fd_InvalidClash_init
  b_InvalidClash_init : Binds K fd_InvalidClash_init ["self", "value"] []
  f_InvalidStrengths_init : Addr
  fd_InvalidStrengths_init : FuncData
  F_InvalidStrengths_init : Fun K "__init__" "InvalidStrengths.__init__" s_InvalidStrengths_init f_InvalidStrengths_init fd_InvalidStrengths_init
  b_InvalidStrengths_init : Binds K fd_InvalidStrengths_init ["self", "value"] []
  f_InvalidProgram_init : Addr
  fd_InvalidProgram_init : FuncData
  F_InvalidProgram_init : Fun K "__init__" "InvalidProgram.__init__" s_InvalidProgram_init f_InvalidProgram_init fd_InvalidProgram_init
  b_InvalidProgram_init : Binds K fd_InvalidProgram_init ["self", "value"] []
  f_InvalidPrograms_init : Addr
  fd_InvalidPrograms_init : FuncData
  F_InvalidPrograms_init : Fun K "__init__" "InvalidPrograms.__init__" s_InvalidPrograms_init f_InvalidPrograms_init fd_InvalidPrograms_init
  b_InvalidPrograms_init : Binds K fd_InvalidPrograms_init ["self", "value"] []
  f_InvalidText_init : Addr
  fd_InvalidText_init : FuncData
  F_InvalidText_init : Fun K "__init__" "InvalidText.__init__" s_InvalidText_init f_InvalidText_init fd_InvalidText_init
  b_InvalidText_init : Binds K fd_InvalidText_init ["self", "value"] []
  f_Duplicate_init : Addr
  fd_Duplicate_init : FuncData
  F_Duplicate_init : Fun K "__init__" "Duplicate.__init__" s_Duplicate_init f_Duplicate_init fd_Duplicate_init
  b_Duplicate_init : Binds K fd_Duplicate_init ["self", "name"] []
  f_UnknownMode_init : Addr
  fd_UnknownMode_init : FuncData
  F_UnknownMode_init : Fun K "__init__" "UnknownMode.__init__" s_UnknownMode_init f_UnknownMode_init fd_UnknownMode_init
  b_UnknownMode_init : Binds K fd_UnknownMode_init ["self", "name"] []
  f_NoProgram_init : Addr
  fd_NoProgram_init : FuncData
  F_NoProgram_init : Fun K "__init__" "NoProgram.__init__" s_NoProgram_init f_NoProgram_init fd_NoProgram_init
  b_NoProgram_init : Binds K fd_NoProgram_init ["self", "kind"] []
  f_is_name : Addr
  fd_is_name : FuncData
  F_is_name : Fun K "is_name" "is_name" s_is_name f_is_name fd_is_name
  b_is_name : Binds K fd_is_name ["value"] []
  m_is_name : mg "is_name" = some (.ref f_is_name)
  f_require_name : Addr
  fd_require_name : FuncData
  F_require_name : Fun K "require_name" "require_name" s_require_name f_require_name fd_require_name
  b_require_name : Binds K fd_require_name ["value"] []
  m_require_name : mg "require_name" = some (.ref f_require_name)
  f_is_kind : Addr
  fd_is_kind : FuncData
  F_is_kind : Fun K "is_kind" "is_kind" s_is_kind f_is_kind fd_is_kind
  b_is_kind : Binds K fd_is_kind ["value"] []
  m_is_kind : mg "is_kind" = some (.ref f_is_kind)
  f_require_kind : Addr
  fd_require_kind : FuncData
  F_require_kind : Fun K "require_kind" "require_kind" s_require_kind f_require_kind fd_require_kind
  b_require_kind : Binds K fd_require_kind ["value"] []
  m_require_kind : mg "require_kind" = some (.ref f_require_kind)
  f_is_step : Addr
  fd_is_step : FuncData
  F_is_step : Fun K "is_step" "is_step" s_is_step f_is_step fd_is_step
  b_is_step : Binds K fd_is_step ["value", "kind"] []
  m_is_step : mg "is_step" = some (.ref f_is_step)
  f_is_program : Addr
  fd_is_program : FuncData
  F_is_program : Fun K "is_program" "is_program" s_is_program f_is_program fd_is_program
  b_is_program : Binds K fd_is_program ["value", "kind"] []
  m_is_program : mg "is_program" = some (.ref f_is_program)
  f_ends_well : Addr
  fd_ends_well : FuncData
  F_ends_well : Fun K "ends_well" "ends_well" s_ends_well f_ends_well fd_ends_well
  b_ends_well : Binds K fd_ends_well ["words"] []
  m_ends_well : mg "ends_well" = some (.ref f_ends_well)
  f_has_needed : Addr
  fd_has_needed : FuncData
  F_has_needed : Fun K "has_needed" "has_needed" s_has_needed f_has_needed fd_has_needed
  b_has_needed : Binds K fd_has_needed ["words", "kind"] []
  m_has_needed : mg "has_needed" = some (.ref f_has_needed)
  f_is_in_order : Addr
  fd_is_in_order : FuncData
  F_is_in_order : Fun K "is_in_order" "is_in_order" s_is_in_order f_is_in_order fd_is_in_order
  b_is_in_order : Binds K fd_is_in_order ["words"] []
  m_is_in_order : mg "is_in_order" = some (.ref f_is_in_order)
  f_comes_before : Addr
  fd_comes_before : FuncData
  F_comes_before : Fun K "comes_before" "comes_before" s_comes_before f_comes_before fd_comes_before
  b_comes_before : Binds K fd_comes_before ["words", "earlier", "later"] []
  m_comes_before : mg "comes_before" = some (.ref f_comes_before)
  f_step_text : Addr
  fd_step_text : FuncData
  F_step_text : Fun K "step_text" "step_text" s_step_text f_step_text fd_step_text
  b_step_text : Binds K fd_step_text ["step"] []
  m_step_text : mg "step_text" = some (.ref f_step_text)
  f_program_text : Addr
  fd_program_text : FuncData
  F_program_text : Fun K "program_text" "program_text" s_program_text f_program_text fd_program_text
  b_program_text : Binds K fd_program_text ["program"] []
  m_program_text : mg "program_text" = some (.ref f_program_text)
  f_Strengths_init : Addr
  fd_Strengths_init : FuncData
  F_Strengths_init : Fun K "__init__" "Strengths.__init__" s_Strengths_init f_Strengths_init fd_Strengths_init
  b_Strengths_init : Binds K fd_Strengths_init ["self", "modes", "clashes"] []
  f_Strengths_modes : Addr
  fd_Strengths_modes : FuncData
  F_Strengths_modes : Fun K "modes" "Strengths.modes" s_Strengths_modes f_Strengths_modes fd_Strengths_modes
  b_Strengths_modes : Binds K fd_Strengths_modes ["self"] []
  f_Strengths_clashes : Addr
  fd_Strengths_clashes : FuncData
  F_Strengths_clashes : Fun K "clashes" "Strengths.clashes" s_Strengths_clashes f_Strengths_clashes fd_Strengths_clashes
  b_Strengths_clashes : Binds K fd_Strengths_clashes ["self"] []
  f_Strengths_eq : Addr
  fd_Strengths_eq : FuncData
  F_Strengths_eq : Fun K "__eq__" "Strengths.__eq__" s_Strengths_eq f_Strengths_eq fd_Strengths_eq
  b_Strengths_eq : Binds K fd_Strengths_eq ["self", "other"] []
  f_Strengths_str : Addr
  fd_Strengths_str : FuncData
  F_Strengths_str : Fun K "__str__" "Strengths.__str__" s_Strengths_str f_Strengths_str fd_Strengths_str
  b_Strengths_str : Binds K fd_Strengths_str ["self"] []
  f_require_modes : Addr
  fd_require_modes : FuncData
  F_require_modes : Fun K "require_modes" "require_modes" s_require_modes f_require_modes fd_require_modes
  b_require_modes : Binds K fd_require_modes ["modes"] []
  m_require_modes : mg "require_modes" = some (.ref f_require_modes)
  f_require_clashes : Addr
  fd_require_clashes : FuncData
  F_require_clashes : Fun K "require_clashes" "require_clashes" s_require_clashes f_require_clashes fd_require_clashes
  b_require_clashes : Binds K fd_require_clashes ["clashes", "modes"] []
  m_require_clashes : mg "require_clashes" = some (.ref f_require_clashes)
  f_clashing_modes : Addr
  fd_clashing_modes : FuncData
  F_clashing_modes : Fun K "clashing_modes" "clashing_modes" s_clashing_modes f_clashing_modes fd_clashing_modes
  b_clashing_modes : Binds K fd_clashing_modes ["mode", "modes", "clashes"] []
  m_clashing_modes : mg "clashing_modes" = some (.ref f_clashing_modes)
  f_standard : Addr
  fd_standard : FuncData
  F_standard : Fun K "standard" "standard" s_standard f_standard fd_standard
  b_standard : Binds K fd_standard [] []
  m_standard : mg "standard" = some (.ref f_standard)
  f_read_strengths : Addr
  fd_read_strengths : FuncData
  F_read_strengths : Fun K "read_strengths" "read_strengths" s_read_strengths f_read_strengths fd_read_strengths
  b_read_strengths : Binds K fd_read_strengths ["text"] []
  m_read_strengths : mg "read_strengths" = some (.ref f_read_strengths)
  f_parsed_strengths : Addr
  fd_parsed_strengths : FuncData
  F_parsed_strengths : Fun K "parsed_strengths" "parsed_strengths" s_parsed_strengths f_parsed_strengths fd_parsed_strengths
  b_parsed_strengths : Binds K fd_parsed_strengths ["text"] []
  m_parsed_strengths : mg "parsed_strengths" = some (.ref f_parsed_strengths)
  f_Rulebook_init : Addr
  fd_Rulebook_init : FuncData
  F_Rulebook_init : Fun K "__init__" "Rulebook.__init__" s_Rulebook_init f_Rulebook_init fd_Rulebook_init
  b_Rulebook_init : Binds K fd_Rulebook_init ["self", "strengths", "programs"] []
  f_Rulebook_eq : Addr
  fd_Rulebook_eq : FuncData
  F_Rulebook_eq : Fun K "__eq__" "Rulebook.__eq__" s_Rulebook_eq f_Rulebook_eq fd_Rulebook_eq
  b_Rulebook_eq : Binds K fd_Rulebook_eq ["self", "other"] []
  f_Rulebook_str : Addr
  fd_Rulebook_str : FuncData
  F_Rulebook_str : Fun K "__str__" "Rulebook.__str__" s_Rulebook_str f_Rulebook_str fd_Rulebook_str
  b_Rulebook_str : Binds K fd_Rulebook_str ["self"] []
  f_require_strengths : Addr
  fd_require_strengths : FuncData
  F_require_strengths : Fun K "require_strengths" "require_strengths" s_require_strengths f_require_strengths fd_require_strengths
  b_require_strengths : Binds K fd_require_strengths ["value"] []
  m_require_strengths : mg "require_strengths" = some (.ref f_require_strengths)
  f_require_programs : Addr
  fd_require_programs : FuncData
  F_require_programs : Fun K "require_programs" "require_programs" s_require_programs f_require_programs fd_require_programs
  b_require_programs : Binds K fd_require_programs ["value"] []
  m_require_programs : mg "require_programs" = some (.ref f_require_programs)
  f_require_program : Addr
  fd_require_program : FuncData
  F_require_program : Fun K "require_program" "require_program" s_require_program f_require_program fd_require_program
  b_require_program : Binds K fd_require_program ["strengths", "kind", "value"] []
  m_require_program : mg "require_program" = some (.ref f_require_program)
  f_require_mode : Addr
  fd_require_mode : FuncData
  F_require_mode : Fun K "require_mode" "require_mode" s_require_mode f_require_mode fd_require_mode
  b_require_mode : Binds K fd_require_mode ["strengths", "value"] []
  m_require_mode : mg "require_mode" = some (.ref f_require_mode)
  f_read_protocol : Addr
  fd_read_protocol : FuncData
  F_read_protocol : Fun K "read_protocol" "read_protocol" s_read_protocol f_read_protocol fd_read_protocol
  b_read_protocol : Binds K fd_read_protocol ["text"] []
  m_read_protocol : mg "read_protocol" = some (.ref f_read_protocol)
  f_parsed_protocol : Addr
  fd_parsed_protocol : FuncData
  F_parsed_protocol : Fun K "parsed_protocol" "parsed_protocol" s_parsed_protocol f_parsed_protocol fd_parsed_protocol
  b_parsed_protocol : Binds K fd_parsed_protocol ["text"] []
  m_parsed_protocol : mg "parsed_protocol" = some (.ref f_parsed_protocol)
  f_law_cell : Addr
  fd_law_cell : FuncData
  F_law_cell : Fun K "_law_cell" "_law_cell" s_law_cell f_law_cell fd_law_cell
  b_law_cell : Binds K fd_law_cell ["_law_script", "_law_k"] []
  m_law_cell : mg "_law_cell" = some (.ref f_law_cell)
  f_law_box : Addr
  fd_law_box : FuncData
  F_law_box : Fun K "_law_box" "_law_box" s_law_box f_law_box fd_law_box
  b_law_box : Binds K fd_law_box ["_law_cell_here"] []
  m_law_box : mg "_law_box" = some (.ref f_law_box)
  f_law_take : Addr
  fd_law_take : FuncData
  F_law_take : Fun K "_law_take" "_law_take" s_law_take f_law_take fd_law_take
  b_law_take : Binds K fd_law_take ["_law_box_here", "_law_many"] []
  m_law_take : mg "_law_take" = some (.ref f_law_take)
  f_law_mixed : Addr
  fd_law_mixed : FuncData
  F_law_mixed : Fun K "_law_mixed" "_law_mixed" s_law_mixed f_law_mixed fd_law_mixed
  b_law_mixed : Binds K fd_law_mixed ["_law_box_here", "_law_some"] []
  m_law_mixed : mg "_law_mixed" = some (.ref f_law_mixed)
  f_law_names : Addr
  fd_law_names : FuncData
  F_law_names : Fun K "_law_names" "_law_names" s_law_names f_law_names fd_law_names
  b_law_names : Binds K fd_law_names ["_law_box_here", "_law_many"] []
  m_law_names : mg "_law_names" = some (.ref f_law_names)
  f_law_kinds : Addr
  fd_law_kinds : FuncData
  F_law_kinds : Fun K "_law_kinds" "_law_kinds" s_law_kinds f_law_kinds fd_law_kinds
  b_law_kinds : Binds K fd_law_kinds [] []
  m_law_kinds : mg "_law_kinds" = some (.ref f_law_kinds)
  f_law_is_name : Addr
  fd_law_is_name : FuncData
  F_law_is_name : Fun K "_law_is_name" "_law_is_name" s_law_is_name f_law_is_name fd_law_is_name
  b_law_is_name : Binds K fd_law_is_name ["_law_value"] []
  m_law_is_name : mg "_law_is_name" = some (.ref f_law_is_name)
  f_law_is_step : Addr
  fd_law_is_step : FuncData
  F_law_is_step : Fun K "_law_is_step" "_law_is_step" s_law_is_step f_law_is_step fd_law_is_step
  b_law_is_step : Binds K fd_law_is_step ["_law_value", "_law_kind"] []
  m_law_is_step : mg "_law_is_step" = some (.ref f_law_is_step)
  f_law_count : Addr
  fd_law_count : FuncData
  F_law_count : Fun K "_law_count" "_law_count" s_law_count f_law_count fd_law_count
  b_law_count : Binds K fd_law_count ["_law_words", "_law_some"] []
  m_law_count : mg "_law_count" = some (.ref f_law_count)
  f_law_order : Addr
  fd_law_order : FuncData
  F_law_order : Fun K "_law_order" "_law_order" s_law_order f_law_order fd_law_order
  b_law_order : Binds K fd_law_order ["_law_words", "_law_first", "_law_later"] []
  m_law_order : mg "_law_order" = some (.ref f_law_order)
  f_law_is_program : Addr
  fd_law_is_program : FuncData
  F_law_is_program : Fun K "_law_is_program" "_law_is_program" s_law_is_program f_law_is_program fd_law_is_program
  b_law_is_program : Binds K fd_law_is_program ["_law_value", "_law_kind"] []
  m_law_is_program : mg "_law_is_program" = some (.ref f_law_is_program)
  f_law_drawn_step : Addr
  fd_law_drawn_step : FuncData
  F_law_drawn_step : Fun K "_law_drawn_step" "_law_drawn_step" s_law_drawn_step f_law_drawn_step fd_law_drawn_step
  b_law_drawn_step : Binds K fd_law_drawn_step ["_law_box_here", "_law_modes"] []
  m_law_drawn_step : mg "_law_drawn_step" = some (.ref f_law_drawn_step)
  f_law_base : Addr
  fd_law_base : FuncData
  F_law_base : Fun K "_law_base" "_law_base" s_law_base f_law_base fd_law_base
  b_law_base : Binds K fd_law_base ["_law_box_here", "_law_kind"] []
  m_law_base : mg "_law_base" = some (.ref f_law_base)
  f_law_program : Addr
  fd_law_program : FuncData
  F_law_program : Fun K "_law_program" "_law_program" s_law_program f_law_program fd_law_program
  b_law_program : Binds K fd_law_program ["_law_box_here", "_law_kind", "_law_modes"] []
  m_law_program : mg "_law_program" = some (.ref f_law_program)
  f_law_programs : Addr
  fd_law_programs : FuncData
  F_law_programs : Fun K "_law_programs" "_law_programs" s_law_programs f_law_programs fd_law_programs
  b_law_programs : Binds K fd_law_programs ["_law_box_here", "_law_modes"] []
  m_law_programs : mg "_law_programs" = some (.ref f_law_programs)
  f_law_ordered : Addr
  fd_law_ordered : FuncData
  F_law_ordered : Fun K "_law_ordered" "_law_ordered" s_law_ordered f_law_ordered fd_law_ordered
  b_law_ordered : Binds K fd_law_ordered ["_law_programs_here"] []
  m_law_ordered : mg "_law_ordered" = some (.ref f_law_ordered)
  f_law_text : Addr
  fd_law_text : FuncData
  F_law_text : Fun K "_law_text" "_law_text" s_law_text f_law_text fd_law_text
  b_law_text : Binds K fd_law_text ["_law_model"] []
  m_law_text : mg "_law_text" = some (.ref f_law_text)
  f_law_read_head : Addr
  fd_law_read_head : FuncData
  F_law_read_head : Fun K "_law_read_head" "_law_read_head" s_law_read_head f_law_read_head fd_law_read_head
  b_law_read_head : Binds K fd_law_read_head ["_law_line"] []
  m_law_read_head : mg "_law_read_head" = some (.ref f_law_read_head)
  f_law_places : Addr
  fd_law_places : FuncData
  F_law_places : Fun K "_law_places" "_law_places" s_law_places f_law_places fd_law_places
  b_law_places : Binds K fd_law_places ["_law_modes", "_law_pair"] []
  m_law_places : mg "_law_places" = some (.ref f_law_places)
  f_law_read : Addr
  fd_law_read : FuncData
  F_law_read : Fun K "_law_read" "_law_read" s_law_read f_law_read fd_law_read
  b_law_read : Binds K fd_law_read ["_law_text_here"] []
  m_law_read : mg "_law_read" = some (.ref f_law_read)
  f_law_told : Addr
  fd_law_told : FuncData
  F_law_told : Fun K "_law_told" "_law_told" s_law_told f_law_told fd_law_told
  b_law_told : Binds K fd_law_told ["_law_value"] []
  m_law_told : mg "_law_told" = some (.ref f_law_told)
  f_law_bent : Addr
  fd_law_bent : FuncData
  F_law_bent : Fun K "_law_bent" "_law_bent" s_law_bent f_law_bent fd_law_bent
  b_law_bent : Binds K fd_law_bent ["_law_box_here", "_law_text_here"] []
  m_law_bent : mg "_law_bent" = some (.ref f_law_bent)
  f_law : Addr
  fd_law : FuncData
  F_law : Fun K "law" "law" s_law f_law fd_law
  b_law : Binds K fd_law ["_law_script"] []
  m_law : mg "law" = some (.ref f_law)
  C_PartsError : Addr
  g_PartsError : mg "PartsError" = some (.ref C_PartsError)
  C_InvalidName : Addr
  g_InvalidName : mg "InvalidName" = some (.ref C_InvalidName)
  x_InvalidName : OexC K C_InvalidName
  y_InvalidName : XfC K C_InvalidName
  n_InvalidName : PySem.W.findIn K (.ref C_InvalidName) "value" = some none
  i_InvalidName : PySem.W.findIn K (.ref C_InvalidName) "__init__" = some (some (.ref f_InvalidName_init))
  t_InvalidName : PySem.W.typeIn K (.ref f_InvalidName_init) = some (.type "function")
  C_InvalidModes : Addr
  g_InvalidModes : mg "InvalidModes" = some (.ref C_InvalidModes)
  x_InvalidModes : OexC K C_InvalidModes
  y_InvalidModes : XfC K C_InvalidModes
  n_InvalidModes : PySem.W.findIn K (.ref C_InvalidModes) "value" = some none
  i_InvalidModes : PySem.W.findIn K (.ref C_InvalidModes) "__init__" = some (some (.ref f_InvalidModes_init))
  t_InvalidModes : PySem.W.typeIn K (.ref f_InvalidModes_init) = some (.type "function")
  C_InvalidClash : Addr
  g_InvalidClash : mg "InvalidClash" = some (.ref C_InvalidClash)
  x_InvalidClash : OexC K C_InvalidClash
  y_InvalidClash : XfC K C_InvalidClash
  n_InvalidClash : PySem.W.findIn K (.ref C_InvalidClash) "value" = some none
  i_InvalidClash : PySem.W.findIn K (.ref C_InvalidClash) "__init__" = some (some (.ref f_InvalidClash_init))
  t_InvalidClash : PySem.W.typeIn K (.ref f_InvalidClash_init) = some (.type "function")
  C_InvalidStrengths : Addr
  g_InvalidStrengths : mg "InvalidStrengths" = some (.ref C_InvalidStrengths)
  x_InvalidStrengths : OexC K C_InvalidStrengths
  y_InvalidStrengths : XfC K C_InvalidStrengths
  n_InvalidStrengths : PySem.W.findIn K (.ref C_InvalidStrengths) "value" = some none
  i_InvalidStrengths : PySem.W.findIn K (.ref C_InvalidStrengths) "__init__" = some (some (.ref f_InvalidStrengths_init))
  t_InvalidStrengths : PySem.W.typeIn K (.ref f_InvalidStrengths_init) = some (.type "function")
  C_InvalidProgram : Addr
  g_InvalidProgram : mg "InvalidProgram" = some (.ref C_InvalidProgram)
  x_InvalidProgram : OexC K C_InvalidProgram
  y_InvalidProgram : XfC K C_InvalidProgram
  n_InvalidProgram : PySem.W.findIn K (.ref C_InvalidProgram) "value" = some none
  i_InvalidProgram : PySem.W.findIn K (.ref C_InvalidProgram) "__init__" = some (some (.ref f_InvalidProgram_init))
  t_InvalidProgram : PySem.W.typeIn K (.ref f_InvalidProgram_init) = some (.type "function")
  C_InvalidPrograms : Addr
  g_InvalidPrograms : mg "InvalidPrograms" = some (.ref C_InvalidPrograms)
  x_InvalidPrograms : OexC K C_InvalidPrograms
  y_InvalidPrograms : XfC K C_InvalidPrograms
  n_InvalidPrograms : PySem.W.findIn K (.ref C_InvalidPrograms) "value" = some none
  i_InvalidPrograms : PySem.W.findIn K (.ref C_InvalidPrograms) "__init__" = some (some (.ref f_InvalidPrograms_init))
  t_InvalidPrograms : PySem.W.typeIn K (.ref f_InvalidPrograms_init) = some (.type "function")
  C_InvalidText : Addr
  g_InvalidText : mg "InvalidText" = some (.ref C_InvalidText)
  x_InvalidText : OexC K C_InvalidText
  y_InvalidText : XfC K C_InvalidText
  n_InvalidText : PySem.W.findIn K (.ref C_InvalidText) "value" = some none
  i_InvalidText : PySem.W.findIn K (.ref C_InvalidText) "__init__" = some (some (.ref f_InvalidText_init))
  t_InvalidText : PySem.W.typeIn K (.ref f_InvalidText_init) = some (.type "function")
  C_Duplicate : Addr
  g_Duplicate : mg "Duplicate" = some (.ref C_Duplicate)
  x_Duplicate : OexC K C_Duplicate
  y_Duplicate : XfC K C_Duplicate
  n_Duplicate : PySem.W.findIn K (.ref C_Duplicate) "name" = some none
  i_Duplicate : PySem.W.findIn K (.ref C_Duplicate) "__init__" = some (some (.ref f_Duplicate_init))
  t_Duplicate : PySem.W.typeIn K (.ref f_Duplicate_init) = some (.type "function")
  C_UnknownMode : Addr
  g_UnknownMode : mg "UnknownMode" = some (.ref C_UnknownMode)
  x_UnknownMode : OexC K C_UnknownMode
  y_UnknownMode : XfC K C_UnknownMode
  n_UnknownMode : PySem.W.findIn K (.ref C_UnknownMode) "name" = some none
  i_UnknownMode : PySem.W.findIn K (.ref C_UnknownMode) "__init__" = some (some (.ref f_UnknownMode_init))
  t_UnknownMode : PySem.W.typeIn K (.ref f_UnknownMode_init) = some (.type "function")
  C_NoProgram : Addr
  g_NoProgram : mg "NoProgram" = some (.ref C_NoProgram)
  x_NoProgram : OexC K C_NoProgram
  y_NoProgram : XfC K C_NoProgram
  n_NoProgram : PySem.W.findIn K (.ref C_NoProgram) "kind" = some none
  i_NoProgram : PySem.W.findIn K (.ref C_NoProgram) "__init__" = some (some (.ref f_NoProgram_init))
  t_NoProgram : PySem.W.typeIn K (.ref f_NoProgram_init) = some (.type "function")
  C_Strengths : Addr
  g_Strengths : mg "Strengths" = some (.ref C_Strengths)
  cl_Strengths : Cls K C_Strengths
  mk_Strengths : Mk K C_Strengths f_Strengths_init
  ic_Strengths : C8.InsC K C_Strengths
  me_Strengths_init : Meth K C_Strengths "__init__" f_Strengths_init
  me_Strengths_modes : Meth K C_Strengths "modes" f_Strengths_modes
  me_Strengths_clashes : Meth K C_Strengths "clashes" f_Strengths_clashes
  me_Strengths_eq : Meth K C_Strengths "__eq__" f_Strengths_eq
  me_Strengths_str : Meth K C_Strengths "__str__" f_Strengths_str
  no_Strengths_modes : NoAttr K C_Strengths "_modes"
  no_Strengths_against : NoAttr K C_Strengths "_against"
  io_Strengths_list : PySem.W.kitOne K (.type "list") (.ref C_Strengths) = some false
  nf_Strengths_list : PySem.W.notFirst K C_Strengths (.type "list") = true
  io_Strengths_str : PySem.W.kitOne K (.type "str") (.ref C_Strengths) = some false
  nf_Strengths_str : PySem.W.notFirst K C_Strengths (.type "str") = true
  io_own_Strengths_str : PySem.W.kitOne K (.ref C_Strengths) (.type "str") = some false
  C_Rulebook : Addr
  g_Rulebook : mg "Rulebook" = some (.ref C_Rulebook)
  cl_Rulebook : Cls K C_Rulebook
  mk_Rulebook : Mk K C_Rulebook f_Rulebook_init
  ic_Rulebook : C8.InsC K C_Rulebook
  me_Rulebook_init : Meth K C_Rulebook "__init__" f_Rulebook_init
  me_Rulebook_eq : Meth K C_Rulebook "__eq__" f_Rulebook_eq
  me_Rulebook_str : Meth K C_Rulebook "__str__" f_Rulebook_str
  no_Rulebook_strengths : NoAttr K C_Rulebook "_strengths"
  no_Rulebook_programs : NoAttr K C_Rulebook "_programs"
  io_Rulebook_list : PySem.W.kitOne K (.type "list") (.ref C_Rulebook) = some false
  nf_Rulebook_list : PySem.W.notFirst K C_Rulebook (.type "list") = true
  io_Rulebook_str : PySem.W.kitOne K (.type "str") (.ref C_Rulebook) = some false
  nf_Rulebook_str : PySem.W.notFirst K C_Rulebook (.type "str") = true
  io_own_Rulebook_str : PySem.W.kitOne K (.ref C_Rulebook) (.type "str") = some false
  e_InvalidModes_PartsError : PySem.W.exmOne K (.ref C_InvalidModes) (.ref C_PartsError) = some true
  e_InvalidName_PartsError : PySem.W.exmOne K (.ref C_InvalidName) (.ref C_PartsError) = some true
  e_Duplicate_PartsError : PySem.W.exmOne K (.ref C_Duplicate) (.ref C_PartsError) = some true
  e_InvalidStrengths_PartsError : PySem.W.exmOne K (.ref C_InvalidStrengths) (.ref C_PartsError) = some true
  e_InvalidClash_PartsError : PySem.W.exmOne K (.ref C_InvalidClash) (.ref C_PartsError) = some true
  e_UnknownMode_PartsError : PySem.W.exmOne K (.ref C_UnknownMode) (.ref C_PartsError) = some true
  e_InvalidText_PartsError : PySem.W.exmOne K (.ref C_InvalidText) (.ref C_PartsError) = some true
  e_InvalidText_InvalidText : PySem.W.exmOne K (.ref C_InvalidText) (.ref C_InvalidText) = some true
  e_NoProgram_PartsError : PySem.W.exmOne K (.ref C_NoProgram) (.ref C_PartsError) = some true
  e_InvalidProgram_PartsError : PySem.W.exmOne K (.ref C_InvalidProgram) (.ref C_PartsError) = some true
  e_InvalidPrograms_PartsError : PySem.W.exmOne K (.ref C_InvalidPrograms) (.ref C_PartsError) = some true
  A_KINDS : Addr
  c_KINDS : mg "KINDS" = some (.ref A_KINDS)
  A_LOCKS : Addr
  c_LOCKS : mg "LOCKS" = some (.ref A_LOCKS)
  l_LOCKS : ∃ es n, K.lookup A_LOCKS = some ⟨.type "dict", none, .dict es n, #[]⟩ ∧ PySem.W.KeysLit w.params es.toList
  A_STEPS : Addr
  c_STEPS : mg "STEPS" = some (.ref A_STEPS)
  l_STEPS : ∃ es n, K.lookup A_STEPS = some ⟨.type "dict", none, .dict es n, #[]⟩ ∧ PySem.W.KeysLit w.params es.toList
  A_NEEDED : Addr
  c_NEEDED : mg "NEEDED" = some (.ref A_NEEDED)
  l_NEEDED : ∃ es n, K.lookup A_NEEDED = some ⟨.type "dict", none, .dict es n, #[]⟩ ∧ PySem.W.KeysLit w.params es.toList
  A_AT_MOST_ONCE : Addr
  c_AT_MOST_ONCE : mg "AT_MOST_ONCE" = some (.ref A_AT_MOST_ONCE)
  A_ORDERS : Addr
  c_ORDERS : mg "ORDERS" = some (.ref A_ORDERS)
  d_KINDS : datK K 4 (.ref A_KINDS) = some tb_KINDS
  d_LOCKS : tb_LOCKS.map (fun p => nsD K A_LOCKS p.1) = tb_LOCKS.map fun p => some p.2
  d_STEPS : tb_STEPS.map (fun p => nsD K A_STEPS p.1) = tb_STEPS.map fun p => some p.2
  d_NEEDED : tb_NEEDED.map (fun p => nsD K A_NEEDED p.1) = tb_NEEDED.map fun p => some p.2
  d_AT_MOST_ONCE : datK K 4 (.ref A_AT_MOST_ONCE) = some tb_AT_MOST_ONCE
  d_ORDERS : datK K 4 (.ref A_ORDERS) = some tb_ORDERS
  t_LONGEST_NAME : Tok
  c_LONGEST_NAME : mg "LONGEST_NAME" = some (.int 8 t_LONGEST_NAME)
  t_MOST_STEPS : Tok
  c_MOST_STEPS : mg "MOST_STEPS" = some (.int 12 t_MOST_STEPS)
  t_MOST_MODES : Tok
  c_MOST_MODES : mg "MOST_MODES" = some (.int 8 t_MOST_MODES)
  z_all : mg "all" = none
  z_isinstance : mg "isinstance" = none
  z_str : mg "str" = none
  z_len : mg "len" = none
  z_tuple : mg "tuple" = none
  z_list : mg "list" = none
  z_enumerate : mg "enumerate" = none
  z_max : mg "max" = none
  z_min : mg "min" = none
  z_dict : mg "dict" = none
  z_range : mg "range" = none

def C6 {K : PySem.W.Frag} {mg : Str → Option Value} {w : World} (T : Txt K mg w) : Nat → Addr
  | 0 => T.C_InvalidModes
  | 1 => T.C_InvalidName
  | 2 => T.C_Duplicate
  | 3 => T.C_InvalidStrengths
  | 4 => T.C_InvalidClash
  | _ => T.C_UnknownMode
theorem locks_in {k : Str} (h : k ∈ kindsL) : (k, strsD (locksT k)) ∈ tb_LOCKS := by
  have e : tb_LOCKS = kindsL.map fun k => (k, strsD (locksT k)) := by kernel_rfl
  rw [e]
  exact List.mem_map.mpr ⟨k, h, rfl⟩
theorem steps_in {k : Str} (h : k ∈ kindsL) : (k, PyData.tuple ((stepsT k).map strsD)) ∈ tb_STEPS := by
  have e : tb_STEPS = kindsL.map fun k => (k, PyData.tuple ((stepsT k).map strsD)) := by kernel_rfl
  rw [e]
  exact List.mem_map.mpr ⟨k, h, rfl⟩
theorem needed_in {k : Str} (h : k ∈ kindsL) : (k, PyData.tuple ((neededT k).map strsD)) ∈ tb_NEEDED := by
  have e : tb_NEEDED = kindsL.map fun k => (k, PyData.tuple ((neededT k).map strsD)) := by kernel_rfl
  rw [e]
  exact List.mem_map.mpr ⟨k, h, rfl⟩
theorem once_is : tb_AT_MOST_ONCE = strsD onceT := by kernel_rfl
theorem orders_is : tb_ORDERS = .tuple (ordersT.map fun p => .tuple [strsD p.1, strsD p.2]) := by kernel_rfl
theorem dp_strsT {K : PySem.W.Frag} {H : Hp} {v : V} {ss : List Str} (h : Dp K H v (strsD ss)) : ∃ a, v = .ref a ∧ SqT K H a (ss.map V.str) := by
  have h' : Dp K H v (.tuple (ss.map .str)) := h
  cases h' with
  | tup h1 h2 =>
    rw [dp_strs h2] at h1
    exact ⟨_, rfl, h1⟩
theorem dp_tupT {K : PySem.W.Frag} {H : Hp} {v : V} {ds : List PyData} (h : Dp K H v (.tuple ds)) : ∃ a xs, v = .ref a ∧ SqT K H a xs ∧ DpAll K H xs ds := by
  cases h with
  | tup h1 h2 => exact ⟨_, _, rfl, h1, h2⟩
/-! base 5 -/
/-! ### what a lock leaves -/
/-- all but what lies at xs is as it was -/
def SX (xs : List Addr) (H H' : Hp) : Prop := ∀ b o, b ∉ xs → H b = some o → H' b = some o
theorem SX.of {xs : List Addr} {H H' : Hp} (s : Same H H') : SX xs H H' := fun b o _ e => s b o e
theorem SX.trans {xs : List Addr} {H H1 H2 : Hp} (a : SX xs H H1) (b : SX xs H1 H2) : SX xs H H2 := fun c o n e => b c o n (a c o n e)
theorem SX.mono {xs ys : List Addr} {H H' : Hp} (a : SX xs H H') (h : ∀ x ∈ xs, x ∈ ys) : SX ys H H' := fun c o n e => a c o (fun z => n (h c z)) e
/-- what is a list, a tuple or locked is as it was -/
def seqO : HO → Bool
  | .lst _ => true
  | .tup _ => true
  | .frz _ _ => true
  | _ => false
def ND (H H' : Hp) : Prop := ∀ b o, H b = some o → seqO o = true → H' b = some o
theorem ND.of {H H' : Hp} (s : Same H H') : ND H H' := fun b o e _ => s b o e
theorem ND.trans {H H1 H2 : Hp} (a : ND H H1) (b : ND H1 H2) : ND H H2 := fun c o e n => b c o (a c o e n) n
theorem ND.sx {xs : List Addr} {H H' : Hp} (s : SX xs H H') (n : ∀ x ∈ xs, ∀ o, H x = some o → seqO o = false) : ND H H' := fun b o e z => s b o (fun hb => by
  rw [n b hb o e] at z
  cases z) e
theorem ND.lock {H : Hp} {d : Addr} {kvs : List (Key × V)} {od : Obj} (h : H d = some (.dK kvs)) : ND H (upd H d (.frz od (.dK kvs))) := fun b o e n => by
  by_cases z : b = d
  · rw [z, h] at e
    cases e
    cases n
  · rw [upd_ne z]
    exact e
theorem ND.seq {K : PySem.W.Frag} {H H' : Hp} {a : Addr} {xs : List V} (e : ND H H') (h : SqL K H a xs) : SqL K H' a xs := by
  rcases h with (h | ⟨o, h⟩) | h
  · exact .inl (.inl (e _ _ h rfl))
  · exact .inl (.inr ⟨o, e _ _ h rfl⟩)
  · exact .inr h
theorem ND.tup {K : PySem.W.Frag} {H H' : Hp} {a : Addr} {xs : List V} (e : ND H H') (h : SqT K H a xs) : SqT K H' a xs := by
  rcases h with (h | ⟨o, h⟩) | h
  · exact .inl (.inl (e _ _ h rfl))
  · exact .inl (.inr ⟨o, e _ _ h rfl⟩)
  · exact .inr h
/-- a dict that was locked is as it was -/
theorem unlock {H H1 : Hp} {d : Addr} {kvs : List (Key × V)} {od : Obj} (hd : H d = some (.dK kvs)) (s1 : Same (upd H d (.frz od (.dK kvs))) H1) : Same H (upd H1 d (.dK kvs)) := fun b o e => by
  by_cases z : b = d
  · rw [z] at e ⊢
    rw [upd_same, ← hd]
    exact e
  · rw [upd_ne z]
    exact s1 _ _ (by rw [upd_ne z]; exact e)
mutual
theorem dp_nd {K : PySem.W.Frag} {H H' : Hp} (e : ND H H') : ∀ {v : V} {d : PyData}, Dp K H v d → Dp K H' v d
  | _, _, .non => .non
  | _, _, .bl b => .bl b
  | _, _, .int i => .int i
  | _, _, .str x => .str x
  | _, _, .lst h a => .lst (e.seq h) (dpAll_nd e a)
  | _, _, .tup h a => .tup (e.tup h) (dpAll_nd e a)
theorem dpAll_nd {K : PySem.W.Frag} {H H' : Hp} (e : ND H H') : ∀ {vs : List V} {ds : List PyData}, DpAll K H vs ds → DpAll K H' vs ds
  | _, _, .nil => .nil
  | _, _, .cons a b => .cons (dp_nd e a) (dpAll_nd e b)
end
theorem VD.nd {K : PySem.W.Frag} {H H' : Hp} (e : ND H H') {v : V} {d : PyData} (h : VD K H v (some d)) : VD K H' v (some d) := by
  cases h with
  | dat a b c => exact .dat (dp_nd e a) b c
/-! ### protocols: strengths and programs of kinds -/
theorem kit_d {K : PySem.W.Frag} (o : Option PyData) : PySem.W.kitOne K (.type (tyO o)) (.type "dict") = some (isT "dict" o) := by
  have h := tyO_mem o
  unfold isT
  generalize tyO o = nm at h ⊢
  rcases h with rfl | rfl | rfl | rfl | rfl | rfl | rfl
  all_goals exact kit_ty (by decide +kernel)
abbrev Row : Type := Str × List (List Str)
def prgD (sss : List (List Str)) : PyData := .list (sss.map strsD)
def entsP (rows : List Row) : List (Key × PyData) := rows.map fun r => (.inr r.1, prgD r.2)
/-- texts as reading and drawing make them -/
def goodR (r : Row) : Prop := tOk r.1 ∧ r.2.length ≤ 200000 ∧ ∀ ss ∈ r.2, ss.length ≤ 200000 ∧ ∀ s ∈ ss, tOk s
def lockOk (ms : List Str) (sss : List (List Str)) : Bool := sss.all fun ss => !decide (ss.headD "" = "lock") || decide (ss.getD 2 "" ∈ ms)
def rowOk (ms : List Str) (r : Row) : Bool := progS r.1 r.2 && lockOk ms r.2
def rbOk (ms : List Str) (rows : List Row) : Bool := rows.all fun r => decide (r.1 ∈ kindsL) && rowOk ms r
def findR (rows : List Row) (k : Str) : Option (List (List Str)) := (rows.find? fun r => decide (r.1 = k)).map (·.2)
def canon (rows : List Row) : List Row := kindsL.filterMap fun k => (findR rows k).map fun p => (k, p)
theorem prg_depth {r : Row} (gd : goodR r) : ∀ d ∈ r.2.map strsD, d.canLay0 = true ∧ d.depth ≤ 1 := fun d hd => by
  obtain ⟨ss, hs, rfl⟩ := List.mem_map.mp hd
  have h1 : ∀ e ∈ ss.map PyData.str, e.canLay0 = true ∧ e.depth ≤ 0 := fun e he => by
    obtain ⟨s, hs', rfl⟩ := List.mem_map.mp he
    exact can_str ((gd.2.2 ss hs).2 s hs')
  have dl := depthAll_le fun d hd => (h1 d hd).2
  have cl := canAll_mem.mpr fun d hd => (h1 d hd).1
  exact ⟨by show (PyData.tuple (ss.map .str)).canLay0 = true; simpa only [PyData.canLay0] using cl, by show (PyData.tuple (ss.map .str)).depth ≤ 1; simp only [PyData.depth]; omega⟩
theorem prg_shaped {r : Row} (gd : goodR r) : SeqAt.shaped (prgD r.2) = true := by
  have h1 := prg_depth gd
  have dl := depthAll_le fun d hd => (h1 d hd).2
  have cl := canAll_mem.mpr fun d hd => (h1 d hd).1
  exact shaped_iff.mpr ⟨by show (PyData.list (r.2.map strsD)).canLay0 = true; simpa only [PyData.canLay0] using cl, by show (PyData.list (r.2.map strsD)).depth ≤ _; simp only [PyData.depth]; omega⟩
theorem prg_ok {r : Row} (gd : goodR r) : progOk (some (prgD r.2)) := fun ds e => by
  injection e with e
  have e : r.2.map strsD = ds := by injection e
  subst e
  refine ⟨by rw [List.length_map]; exact gd.2.1, fun d hd => ?_⟩
  obtain ⟨ss, hs, rfl⟩ := List.mem_map.mp hd
  obtain ⟨g1, g2⟩ := gd.2.2 ss hs
  refine ⟨fun es z => ?_, fun s z => nomatch z⟩
  injection z with z
  have z : ss.map PyData.str = es := by injection z
  subst z
  refine ⟨by rw [List.length_map]; exact g1, fun s h => ?_⟩
  obtain ⟨s', h', z⟩ := List.mem_map.mp h
  injection z with z
  subst z
  exact (g2 _ h').1
theorem kinds_tok {k : Str} (h : k ∈ kindsL) : (PyData.str k).canLay0 = true := by
  have : ∀ k ∈ kindsL, PyData.strOk k = true := by decide +kernel
  simp only [PyData.canLay0]
  exact this k h
/-- a step of a valid program that begins with `lock` has three words; every step has some -/
theorem prog_step {k : Str} {sss : List (List Str)} (h : progS k sss = true) {ss : List Str} (hs : ss ∈ sss) : stepS k ss = true := by
  have h' : progD k (sss.map strsD) = true := h
  unfold progD at h'
  rw [Bool.and_eq_true, Bool.and_eq_true] at h'
  have := List.all_eq_true.mp h'.2.1 (strsD ss) (List.mem_map.mpr ⟨ss, hs, rfl⟩)
  have this : stepD k (ss.map .str) = true := this
  rwa [stepD_strs] at this
theorem steps_first (k : Str) : ∀ ss ∈ stepsT k, ss ≠ [] ∧ ss.headD "" ≠ "lock" ∧ ss.length ≤ 2 ∧ ∀ s ∈ ss, s.length ≤ 8 := by
  have h : ∀ p ∈ stepsTb, ∀ ss ∈ p.2, (!ss.isEmpty && (!decide (ss.headD "" = "lock") && (decide (ss.length ≤ 2) && ss.all fun s => decide (s.length ≤ 8)))) = true := by decide +kernel
  intro ss hs
  unfold stepsT at hs
  cases e : stepsTb.find? fun p => decide (p.1 = k) with
  | none => rw [e] at hs; cases hs
  | some p =>
    rw [e] at hs
    have := h p (List.mem_of_find?_eq_some e) ss hs
    rw [Bool.and_eq_true, Bool.and_eq_true, Bool.and_eq_true] at this
    obtain ⟨h1, h2, h3, h4⟩ := this
    refine ⟨fun z => ?_, by simpa using h2, of_decide_eq_true h3, fun s hs => of_decide_eq_true (List.all_eq_true.mp h4 s hs)⟩
    rw [z] at h1
    cases h1
theorem step_three {k : Str} {ss : List Str} (h : stepS k ss = true) : ss ≠ [] ∧ (ss.headD "" = "lock" → ∃ b c, ss = ([("lock" : Str), b, c] : List Str) ∧ b ∈ locksT k ∧ nameS c = true) := by
  unfold stepS at h
  split at h
  · rename_i a b c
    rw [Bool.and_eq_true, Bool.and_eq_true] at h
    have e := of_decide_eq_true h.1
    subst e
    exact ⟨by simp, fun _ => ⟨b, c, rfl, of_decide_eq_true h.2.1, h.2.2⟩⟩
  · have := steps_first k ss (of_decide_eq_true h)
    exact ⟨this.1, fun z => absurd z this.2.1⟩
theorem prog_lock {k : Str} {sss : List (List Str)} (h : progS k sss = true) {ss : List Str} (hs : ss ∈ sss) (e : ss.headD "" = "lock") : ∃ b c, ss = ([("lock" : Str), b, c] : List Str) := by
  obtain ⟨b, c, z, _⟩ := (step_three (prog_step h hs)).2 e
  exact ⟨b, c, z⟩
def fsR (a d : Addr) : List (Str × V) := [("_strengths", .ref a), ("_programs", .ref d)]
theorem fsR_s (a d : Addr) : (fsR a d).lookup ("_strengths" : Str) = some (.ref a) := by simp [fsR, List.lookup]
theorem fsR_p (a d : Addr) : (fsR a d).lookup ("_programs" : Str) = some (.ref d) := by
  have e : (("_programs" : Str) == ("_strengths" : Str)) = false := by decide +kernel
  simp [fsR, List.lookup, e]
theorem fsR_eq (a d : Addr) : putF "_programs" (.ref d) (putF "_strengths" (.ref a) []) = fsR a d := by
  show (if ("_strengths" : Str) = "_programs" then _ else _) = _
  rw [if_neg (by decide +kernel)]
  rfl
/-- a protocol stands at x -/
def RbAt (K : PySem.W.Frag) (Cs C : Addr) (H : Hp) (x : Addr) (ms : List Str) (f : Str → List Str) (rows : List Row) : Prop := ∃ (dx a d : Addr) (kvs : List (Key × V)), H x = some (.ins C dx (fsR a d)) ∧ StrAt K Cs H a ms f ∧ H d = some (.dK kvs) ∧ Ents K H kvs (entsP rows)
theorem RbAt.mono {K : PySem.W.Frag} {Cs C : Addr} {H H' : Hp} {x : Addr} {ms : List Str} {f : Str → List Str} {rows : List Row} (s : Same H H') (h : RbAt K Cs C H x ms f rows) : RbAt K Cs C H' x ms f rows := by
  obtain ⟨dx, a, d, kvs, h1, h2, h3, h4⟩ := h
  exact ⟨dx, a, d, kvs, s _ _ h1, h2.mono s, s _ _ h3, h4.mono s⟩
/-- whatever these classes' exceptions hold, they may be raised, also where a dict of xs is still locked -/
def Rb3 (Cs : Addr × Addr × Addr) (xs : List Addr) (H : Hp) (E : XK) : Prop := ∀ (v : V) (d : Addr) (H' : Hp), H d = none → SX xs H H' →
  (H' d = some (.xd [("kind", v)]) → E (.ref Cs.1) (some d) H') ∧ (H' d = some (.xd [("value", v)]) → E (.ref Cs.2.1) (some d) H') ∧ (H' d = some (.xd [("name", v)]) → E (.ref Cs.2.2) (some d) H')
theorem Rb3.back {Cs : Addr × Addr × Addr} {xs : List Addr} {H H1 : Hp} {E : XK} (h : Rb3 Cs xs H E) (s : SX xs H H1) (fr : ∀ b, H1 b = none → H b = none) : Rb3 Cs xs H1 E := fun v d H' n s2 => h v d H' (fr d n) (s.trans s2)
theorem Rb3.bk {Cs : Addr × Addr × Addr} {xs : List Addr} {H H1 : Hp} {E : XK} (h : Rb3 Cs xs H E) (s : Same H H1) : Rb3 Cs xs H1 E := h.back (.of s) fun _ n => s.free n
theorem Rb3.rz {Cs : Addr × Addr × Addr} {xs : List Addr} {H : Hp} {E : XK} (h : Rb3 Cs xs H E) (v : V) : Rz H E Cs.1 "kind" v ∧ Rz H E Cs.2.1 "value" v ∧ Rz H E Cs.2.2 "name" v :=
  ⟨fun d H' n e s => (h v d H' n (.of s)).1 e, fun d H' n e s => (h v d H' n (.of s)).2.1 e, fun d H' n e s => (h v d H' n (.of s)).2.2 e⟩
theorem Rb3.new {Cs : Addr × Addr × Addr} {H H1 : Hp} {E : XK} {p : Addr} (h : Rb3 Cs [] H E) (s : Same H H1) (n : H p = none) : Rb3 Cs [p] H1 E := fun v d H' nd s2 => h v d H' (s.free nd) fun b o _ e =>
  s2 b o (fun z => by
    rw [List.mem_singleton.mp z, n] at e
    cases e) (s _ _ e)
theorem free_lock {H H1 : Hp} {d : Addr} {o u : HO} (hd : H d = some o) (s1 : Same (upd H d u) H1) : ∀ b, H1 b = none → H b = none := fun b e => by
  have h := s1.free e
  by_cases z : b = d
  · rw [z, upd_same] at h
    cases h
  · rw [upd_ne z] at h
    exact h
theorem sx_lock {H H1 : Hp} {d : Addr} {u : HO} (s1 : Same (upd H d u) H1) : SX [d] H H1 := fun b o hb e => s1 _ _ (by
  rw [upd_ne fun z => hb (by rw [z]; exact List.mem_cons_self)]
  exact e)
theorem Ents.nd {K : PySem.W.Frag} {H H' : Hp} (e : ND H H') {ks : List (Key × V)} {ds : List (Key × PyData)} (h : Ents K H ks ds) : Ents K H' ks ds := by
  induction h with
  | nil => exact .nil
  | cons a b _ ih => exact .cons (dp_nd e a) b ih
theorem entsP_get {K : PySem.W.Frag} {H : Hp} : ∀ {rows : List Row} {kvs : List (Key × V)}, Ents K H kvs (entsP rows) → ∀ {i : Nat} {k : Key} {v : V}, kvs[i]? = some (k, v) → ∃ r, rows[i]? = some r ∧ k = .inr r.1 ∧ Dp K H v (prgD r.2) ∧ SeqAt.shaped (prgD r.2) = true
  | [], _, h, i, k, v, e => by
    cases h
    cases e
  | r :: rows, _, h, i, k, v, e => by
    cases h with
    | cons a b c =>
      cases i with
      | zero =>
        cases e
        exact ⟨r, rfl, rfl, a, b⟩
      | succ i => exact entsP_get (rows := rows) c e
def sp_rstrengths (C : Addr) : Sp := fun vs H Q _ => ∃ (a dx : Addr) (fs : List (Str × V)), vs = [.ref a] ∧ H a = some (.ins C dx fs) ∧ Q .non H
def sp_rprograms (K : PySem.W.Frag) (Cs : Addr × Addr × Addr) : Sp := fun vs H Q E => ∃ (pd : Addr) (kvs : List (Key × V)) (rows : List Row), vs = [.ref pd] ∧ H pd = some (.dK kvs) ∧ Ents K H kvs (entsP rows) ∧ (∀ r ∈ rows, goodR r) ∧
  ((rows.all fun r => decide (r.1 ∈ kindsL)) = true → ∀ H', Same H H' → Q .non H') ∧ ((rows.all fun r => decide (r.1 ∈ kindsL)) = false → Rb3 Cs [pd] H E)
def sp_rmode (K : PySem.W.Frag) (C : Addr) (Cs : Addr × Addr × Addr) : Sp := fun vs H Q E => ∃ (xs : List Addr) (a : Addr) (s : Str) (ms : List Str) (f : Str → List Str), vs = [.ref a, .str s] ∧ StrAt K C H a ms f ∧ (s ∈ ms → ∀ H', Same H H' → Q .non H') ∧ (s ∉ ms → Rb3 Cs xs H E)
def sp_rprogram (K : PySem.W.Frag) (C : Addr) (Cs : Addr × Addr × Addr) : Sp := fun vs H Q E => ∃ (xs : List Addr) (a l : Addr) (k : Str) (sss : List (List Str)) (ms : List Str) (f : Str → List Str), vs = [.ref a, .str k, .ref l] ∧ StrAt K C H a ms f ∧ k ∈ kindsL ∧ Dp K H (.ref l) (prgD sss) ∧ goodR (k, sss) ∧
  (rowOk ms (k, sss) = true → ∀ H', Same H H' → Q .non H') ∧ (rowOk ms (k, sss) = false → Rb3 Cs xs H E)
def sp_rinit (K : PySem.W.Frag) (Cst C : Addr) (Cs : Addr × Addr × Addr) : Sp := fun vs H Q E => ∃ (x dx a pd : Addr) (kvs : List (Key × V)) (rows : List Row) (ms : List Str) (f : Str → List Str), vs = [.ref x, .ref a, .ref pd] ∧ H x = some (.ins C dx []) ∧ StrAt K Cst (but H x) a ms f ∧ H pd = some (.dK kvs) ∧
  Ents K (but H x) kvs (entsP rows) ∧ (∀ r ∈ rows, goodR r) ∧ (rows.map (·.1)).Nodup ∧ (rbOk ms rows = false → Rb3 Cs [pd] H E) ∧
  (rbOk ms rows = true → ∀ H', (∀ b o, H b = some o → b ≠ x → H' b = some o) → RbAt K Cst C H' x ms f (canon rows) → Q .non H')
def progT (sss : List (List Str)) : Str := Txt.join ", " (sss.map (Txt.join " "))
def lineT (r : Row) : Str := ((Str.empty ++ r.1) ++ (": " : Str)) ++ progT r.2
def textR (ms : List Str) (ps : List Pr) (rows : List Row) : Str := Txt.join "\n" (textM ms ps :: rows.map lineT)
def shortR (r : Row) : Prop := r.1.length ≤ 8 ∧ r.2.length ≤ 12 ∧ ∀ ss ∈ r.2, ss.length ≤ 3 ∧ ∀ s ∈ ss, s.length ≤ 8
def sp_ptext (K : PySem.W.Frag) : Sp := fun vs H Q _ => ∃ (l : Addr) (sss : List (List Str)), vs = [.ref l] ∧ Dp K H (.ref l) (prgD sss) ∧ sss.length ≤ 12 ∧ (∀ ss ∈ sss, ss.length ≤ 3 ∧ ∀ s ∈ ss, s.length ≤ 8) ∧ ∀ H', Same H H' → Q (.str (progT sss)) H'
def sp_rstr (K : PySem.W.Frag) (Cst C : Addr) : Sp := fun vs H Q _ => ∃ (x : Addr) (ms : List Str) (f : Str → List Str) (rows : List Row), vs = [.ref x] ∧ RbAt K Cst C H x ms f rows ∧ (∀ s ∈ ms, nameS s = true) ∧ (1 ≤ ms.length ∧ ms.length ≤ 8) ∧ rows.length ≤ 8 ∧ (rows.map (·.1)).Nodup ∧ (∀ r ∈ rows, shortR r) ∧
  ∀ H', Same H H' → Q (.str (textR ms (prsOf f ms) rows)) H'
def sp_rbeq (K : PySem.W.Frag) (Cst C : Addr) : Sp := fun vs H Q _ => ∃ (x y : Addr) (ms ms2 : List Str) (f f2 : Str → List Str) (rows rows2 : List Row), vs = [.ref x, .ref y] ∧ RbAt K Cst C H x ms f rows ∧ RbAt K Cst C H y ms2 f2 rows2 ∧ (∀ s ∈ ms, nameS s = true) ∧ (∀ s ∈ ms2, nameS s = true) ∧
  Q (.bl (eqStr ms f ms2 f2 && ((rows.length == rows2.length) && entsEq (entsP rows) (entsP rows2)))) H
/-- a line of a protocol's text, read -/
def lineP (l : Str) : Row := ((Txt.partition l ": ").1, (Txt.split (Txt.partition l ": ").2.2 ", ").map fun s => Txt.split s " ")
def putR (rows : List Row) (r : Row) : List Row := if (rows.any fun q => decide (q.1 = r.1)) = true then rows.map fun q => if q.1 = r.1 then (q.1, r.2) else q else rows ++ [r]
def dictR (lines : List Str) : List Row := lines.foldl (fun rows l => putR rows (lineP l)) []
def progR (t : Str) : Option (List Str × List Pr × List Row) := match Txt.split t "\n" with
  | [] => none
  | first :: lines => (readT first).bind fun r => if rbOk r.1 (dictR lines) = true then some (r.1, r.2, canon (dictR lines)) else none
def readR (t : Str) : Option (List Str × List Pr × List Row) := (progR t).bind fun m => if textR m.1 (prsOf (ag m.1 m.2.1) m.1) m.2.2 = t then some m else none
def sp_parsedR (K : PySem.W.Frag) (Cst C Ct : Addr) (Cs : Addr × Addr × Addr) : Sp := fun vs H Q E => ∃ t : Str, vs = [.str t] ∧ tOk t ∧ (progR t = none → Rb3 Cs [] H E ∧ ∀ v, Rz H E Ct "value" v) ∧
  ∀ ms ps rows, progR t = some (ms, ps, rows) → ∀ H' x, Same H H' → RbAt K Cst C H' x ms (ag ms ps) rows → Q (.ref x) H'
/-- data, a dict, or a protocol -/
def sp_readR (K : PySem.W.Frag) (Cst C Ct : Addr) : Sp := fun vs H Q E => ∃ (v : V) (o : Option PyData), vs = [v] ∧ RV K C H v o ∧ (∀ t ms ps rows, o = some (.str t) → readR t = some (ms, ps, rows) → ∀ H' x, Same H H' → RbAt K Cst C H' x ms (ag ms ps) rows → Q (.ref x) H') ∧
  ((∀ t, o = some (.str t) → readR t = none) → Rz H E Ct "value" v)
theorem kinds_len : ∀ k ∈ kindsL, k.length ≤ 8 := by decide +kernel
theorem locks_len (k : Str) : ∀ b ∈ locksT k, b.length ≤ 8 := by
  have h : ∀ p ∈ locksTb, ∀ b ∈ p.2, b.length ≤ 8 := by decide +kernel
  intro b hb
  unfold locksT at hb
  cases e : locksTb.find? fun p => decide (p.1 = k) with
  | none => rw [e] at hb; cases hb
  | some p =>
    rw [e] at hb
    exact h p (List.mem_of_find?_eq_some e) b hb
theorem step_short {k : Str} {ss : List Str} (h : stepS k ss = true) : ss.length ≤ 3 ∧ ∀ s ∈ ss, s.length ≤ 8 := by
  unfold stepS at h
  split at h
  · rename_i a b c
    rw [Bool.and_eq_true, Bool.and_eq_true] at h
    have e := of_decide_eq_true h.1
    subst e
    refine ⟨by simp, fun s hs => ?_⟩
    rcases List.mem_cons.mp hs with rfl | hs
    · decide +kernel
    rcases List.mem_cons.mp hs with rfl | hs
    · exact locks_len k _ (of_decide_eq_true h.2.1)
    rcases List.mem_cons.mp hs with rfl | hs
    · exact nameS_len h.2.2
    · cases hs
  · have := steps_first k ss (of_decide_eq_true h)
    exact ⟨Nat.le_succ_of_le this.2.2.1, this.2.2.2⟩
theorem prog_len {k : Str} {sss : List (List Str)} (h : progS k sss = true) : 1 ≤ sss.length ∧ sss.length ≤ 12 := by
  have h' : progD k (sss.map strsD) = true := h
  unfold progD at h'
  rw [Bool.and_eq_true] at h'
  have := of_decide_eq_true h'.1
  rwa [List.length_map] at this
theorem row_short {ms : List Str} {r : Row} (hk : r.1 ∈ kindsL) (h : rowOk ms r = true) : shortR r := by
  unfold rowOk at h
  rw [Bool.and_eq_true] at h
  exact ⟨kinds_len _ hk, (prog_len h.1).2, fun ss hs => step_short (prog_step h.1 hs)⟩
theorem findR_mem {rows : List Row} {k : Str} {p : List (List Str)} (h : findR rows k = some p) : (k, p) ∈ rows := by
  unfold findR at h
  cases e : rows.find? fun r => decide (r.1 = k) with
  | none => rw [e] at h; cases h
  | some q =>
    rw [e] at h
    have h : q.2 = p := by injection h
    have := of_decide_eq_true (List.find?_some (p := fun r : Row => decide (r.1 = k)) e)
    have hm := List.mem_of_find?_eq_some e
    rw [← this, ← h]
    exact hm
theorem canon_mem {rows : List Row} {r : Row} (h : r ∈ canon rows) : r.1 ∈ kindsL ∧ findR rows r.1 = some r.2 := by
  obtain ⟨k, hk, e⟩ := List.mem_filterMap.mp h
  cases f : findR rows k with
  | none => rw [f] at e; cases e
  | some p =>
    rw [f] at e
    cases e
    exact ⟨hk, f⟩
theorem canon_keys (rows : List Row) : (canon rows).map (·.1) = kindsL.filter fun k => (findR rows k).isSome := by
  unfold canon
  generalize kindsL = ks
  induction ks with
  | nil => rfl
  | cons k r ih =>
    rw [List.filterMap_cons, List.filter_cons]
    cases f : findR rows k with
    | none => simpa using ih
    | some p => simpa using ih
theorem kinds_nd : kindsL.Nodup := by decide +kernel
theorem canon_nd (rows : List Row) : ((canon rows).map (·.1)).Nodup := by
  rw [canon_keys]
  exact kinds_nd.sublist List.filter_sublist
theorem nd_len {ms : List Str} {rows : List Row} (nd : (rows.map (·.1)).Nodup) (h : ∀ r ∈ rows, r.1 ∈ kindsL ∧ rowOk ms r = true) : rows.length ≤ 8 := by
  have sub : ∀ k ∈ rows.map (·.1), k ∈ kindsL := fun k hk => by
    obtain ⟨r, hr, rfl⟩ := List.mem_map.mp hk
    exact (h r hr).1
  have := nd.length_le_of_subset sub
  rw [List.length_map] at this
  exact this
theorem rbOk_mem {ms : List Str} {rows : List Row} (h : rbOk ms rows = true) {r : Row} (hr : r ∈ rows) : r.1 ∈ kindsL ∧ rowOk ms r = true := by
  have := List.all_eq_true.mp h r hr
  rw [Bool.and_eq_true] at this
  exact ⟨of_decide_eq_true this.1, this.2⟩
theorem canon_ok {ms : List Str} {rows : List Row} (h : rbOk ms rows = true) : ∀ r ∈ canon rows, r.1 ∈ kindsL ∧ rowOk ms r = true := fun r hr => rbOk_mem h (findR_mem (canon_mem hr).2)
theorem progP_one {t : Str} {ms : List Str} {ps : List Pr} (h : progP t = some (ms, ps)) : 1 ≤ ms.length := by
  unfold progP at h
  split at h
  · cases e : prsO (Txt.split (Txt.partition t ": ").1 " ") (if (Txt.partition t ": ").2.2 = Str.empty then [] else Txt.split (Txt.partition t ": ").2.2 " ") with
    | none => rw [e] at h; cases h
    | some q =>
      rw [e] at h
      cases h
      rw [← SX.S_tl (Txt.partition t ": ").1, split_sp, List.length_map]
      exact List.length_pos_iff.mpr (spl_ne 32 _ _)
  · cases h
theorem progR_ok {t : Str} {ms : List Str} {ps : List Pr} {rows : List Row} (h : progR t = some (ms, ps, rows)) : (okMB ms = true ∧ 1 ≤ ms.length) ∧ (∀ r ∈ rows, r.1 ∈ kindsL ∧ rowOk ms r = true) ∧ (rows.map (·.1)).Nodup := by
  unfold progR at h
  split at h
  · cases h
  · rename_i first lines _
    cases e : readT first with
    | none => rw [e] at h; cases h
    | some q =>
      rw [e, Option.bind_some] at h
      split at h
      · rename_i ok
        injection h with h
        injection h with h1 h2
        injection h2 with h2 h3
        subst h1 h3
        refine ⟨?_, canon_ok ok, canon_nd _⟩
        unfold readT at e
        cases e2 : progP first with
        | none => rw [e2] at e; cases e
        | some z =>
          rw [e2, Option.bind_some] at e
          split at e
          · cases e
            exact ⟨progP_ok (ps := q.2) e2, progP_one (ps := q.2) e2⟩
          · cases e
      · cases h
theorem findR_of {rows : List Row} (nd : (rows.map (·.1)).Nodup) {r : Row} (hr : r ∈ rows) : findR rows r.1 = some r.2 := by
  induction rows with
  | nil => cases hr
  | cons q rest ih =>
    rw [List.map_cons, List.nodup_cons] at nd
    unfold findR
    rw [List.find?_cons]
    by_cases e : q.1 = r.1
    · rw [decide_eq_true e]
      rcases List.mem_cons.mp hr with rfl | h
      · rfl
      · exact absurd (List.mem_map.mpr ⟨r, h, e.symm⟩) nd.1
    · rw [decide_eq_false e]
      rcases List.mem_cons.mp hr with rfl | h
      · exact absurd rfl e
      · exact ih nd.2 h
theorem findD_entsP (k : Str) : ∀ rows : List Row, findD (entsP rows) (.inr k) = (findR rows k).map prgD
  | [] => rfl
  | q :: rest => by
    have ih := findD_entsP k rest
    show (if (Sum.inr q.1 : Key) = .inr k then some (prgD q.2) else findD (entsP rest) (.inr k)) = _
    unfold findR
    rw [List.find?_cons]
    by_cases e : q.1 = k
    · rw [if_pos (by rw [e]), decide_eq_true e]
      rfl
    · rw [if_neg (fun z => e (by injection z)), decide_eq_false e, ih]
      rfl
/-- what stands at a kind -/
theorem entsP_val {K : PySem.W.Frag} {H : Hp} {kvs : List (Key × V)} {rows : List Row} (en : Ents K H kvs (entsP rows)) {k : Str} {p : List (List Str)} (h : findR rows k = some p) : ∃ l, valV kvs (.inr k) = some (.ref l) ∧ Dp K H (.ref l) (prgD p) := by
  rcases en.at_ (.inr k) with ⟨_, e⟩ | ⟨v, d, e1, e2, dv, _⟩
  · rw [findD_entsP, h] at e
    cases e
  · rw [findD_entsP, h] at e2
    have e2 : prgD p = d := by injection e2
    subst e2
    cases dv with
    | lst a b => exact ⟨_, e1, .lst a b⟩
theorem entsP_in {K : PySem.W.Frag} {H : Hp} {kvs : List (Key × V)} {rows : List Row} (en : Ents K H kvs (entsP rows)) (k : Str) : (valV kvs (.inr k)).isSome = (findR rows k).isSome := by
  rcases en.at_ (.inr k) with ⟨e1, e⟩ | ⟨v, d, e1, e2, dv, _⟩
  · rw [findD_entsP] at e
    rw [e1]
    cases h : findR rows k with
    | none => rfl
    | some p => rw [h] at e; cases e
  · rw [findD_entsP] at e2
    rw [e1]
    cases h : findR rows k with
    | none => rw [h] at e2; cases e2
    | some p => rfl
theorem progT_len {sss : List (List Str)} (l12 : sss.length ≤ 12) (gd : ∀ ss ∈ sss, ss.length ≤ 3 ∧ ∀ s ∈ ss, s.length ≤ 8) : (progT sss).length ≤ 500 := by
  have hj : ∀ y ∈ sss.map (Txt.join " "), y.length ≤ 30 := fun y hy => by
    obtain ⟨ss, hs, rfl⟩ := List.mem_map.mp hy
    obtain ⟨g1, g2⟩ := gd ss hs
    have h1 := join_len " " ss
    have h2 := join_le (a := (" " : Str)) (ys := ss) g2 g1 (by decide +kernel)
    omega
  have h3 := join_le (a := (", " : Str)) hj (m := 12) (by rw [List.length_map]; exact l12) (by decide +kernel)
  have h4 := join_len ", " (sss.map (Txt.join " "))
  unfold progT
  omega
theorem rb_kinds {ms : List Str} {rows : List Row} (h : (rows.all fun r => decide (r.1 ∈ kindsL)) = false) : rbOk ms rows = false := by
  rw [List.all_eq_false] at h
  obtain ⟨r, hr, e⟩ := h
  unfold rbOk
  rw [List.all_eq_false]
  refine ⟨r, hr, fun z => e ?_⟩
  rw [Bool.and_eq_true] at z
  exact z.1
theorem rb_row {ms : List Str} {rows : List Row} {r : Row} (hr : r ∈ rows) (h : rowOk ms r = false) : rbOk ms rows = false := by
  unfold rbOk
  rw [List.all_eq_false]
  exact ⟨r, hr, by rw [h, Bool.and_false]; decide⟩
theorem rb_all {ms : List Str} {rows : List Row} (nd : (rows.map (·.1)).Nodup) (h1 : (rows.all fun r => decide (r.1 ∈ kindsL)) = true) (h2 : ∀ k ∈ kindsL.filter fun k => (findR rows k).isSome, ∀ p, findR rows k = some p → rowOk ms (k, p) = true) : rbOk ms rows = true := by
  unfold rbOk
  rw [List.all_eq_true]
  intro r hr
  have hk := List.all_eq_true.mp h1 r hr
  rw [hk, Bool.true_and]
  have f := findR_of nd hr
  exact h2 r.1 (List.mem_filter.mpr ⟨of_decide_eq_true hk, by rw [f]; rfl⟩) r.2 f
def gvR (rows : List Row) : List Str := kindsL.filter fun k => (findR rows k).isSome
def entsG (rows : List Row) (ks : List Str) : List (Key × PyData) := ks.map fun k => (.inr k, prgD ((findR rows k).getD []))
theorem entsG_canon (rows : List Row) : entsG rows (gvR rows) = entsP (canon rows) := by
  unfold entsG gvR entsP canon
  generalize kindsL = ks
  induction ks with
  | nil => rfl
  | cons k r ih =>
    rw [List.filterMap_cons, List.filter_cons]
    cases f : findR rows k with
    | none => simpa using ih
    | some p =>
      rw [if_pos (by rfl), List.map_cons, ih, f]
      rfl
theorem kinds_sq {K : PySem.W.Frag} {A : Addr} (h : datK K 4 (.ref A) = some (strsD kindsL)) (H : Hp) : SqT K H A (kindsL.map V.str) := by
  obtain ⟨v, r, d⟩ := datK_ok 4 h
  obtain rfl := relref r
  obtain ⟨a, e, q⟩ := dp_strsT (d H)
  cases e
  exact q
theorem entsG_ne {rows : List Row} {ks : List Str} (nd : ks.Nodup) {i : Nat} {k : Str} (h : ks[i]? = some k) : ∀ e ∈ entsG rows (ks.take i), e.1 ≠ .inr k := by
  intro e he
  obtain ⟨a, ha, rfl⟩ := List.mem_map.mp he
  intro z
  have z : a = k := by injection z
  subst z
  obtain ⟨j, hj, e⟩ := List.mem_iff_getElem.mp ha
  rw [List.length_take] at hj
  rw [List.getElem_take] at e
  obtain ⟨hi, e2⟩ := List.getElem?_eq_some_iff.mp h
  have := (List.pairwise_iff_getElem.mp nd) j i (by omega) hi (by omega)
  exact this (e.trans e2.symm)
theorem gvR_nd (rows : List Row) : (gvR rows).Nodup := kinds_nd.sublist List.filter_sublist
theorem gvR_len (rows : List Row) : (gvR rows).length ≤ 8 := Nat.le_trans (List.length_filter_le _ _) (by decide)
theorem nl_S : ("\n" : Str) = SX.S [10] := by decide +kernel
theorem cm_S : (", " : Str) = SX.S [44, 32] := by decide +kernel
theorem split_nl (a : List Nat) : Txt.split (SX.S a) "\n" = (TL.spl [10] 0 [] a).map SX.S := by
  rw [nl_S]
  exact SX.split_S (by decide) (by decide)
theorem split_cm (a : List Nat) : Txt.split (SX.S a) ", " = (TL.spl [44, 32] 0 [] a).map SX.S := by
  rw [cm_S]
  exact SX.split_S (by decide) (by decide)
theorem nl_cons (t : Str) : ∃ f r, Txt.split t "\n" = f :: r := by
  have h : (Txt.split t "\n").length ≠ 0 := by
    rw [← SX.S_tl t, split_nl, List.length_map]
    exact fun z => spl_ne 10 _ _ (List.length_eq_zero_iff.mp z)
  cases e : Txt.split t "\n" with
  | nil => rw [e] at h; exact absurd rfl h
  | cons f r => exact ⟨f, r, rfl⟩
theorem line_good {l : Str} (h : tOk l) : goodR (lineP l) := by
  obtain ⟨h1, h2⟩ := part_ok h
  obtain ⟨a1, a2⟩ := split_ok split_cm h2
  refine ⟨h1, ?_, fun ss hs => ?_⟩
  · show ((Txt.split (Txt.partition l ": ").2.2 ", ").map fun s => Txt.split s " ").length ≤ _
    rw [List.length_map]
    omega
  · obtain ⟨s, hs', rfl⟩ := List.mem_map.mp hs
    obtain ⟨b1, b2⟩ := split_ok split_sp (a1 s hs')
    exact ⟨by omega, b1⟩
theorem putR_mem {rows : List Row} {r q : Row} (h : q ∈ putR rows r) : q ∈ rows ∨ q = r ∨ ∃ z ∈ rows, z.1 = r.1 ∧ q = (z.1, r.2) := by
  unfold putR at h
  split at h
  · obtain ⟨z, hz, e⟩ := List.mem_map.mp h
    by_cases c : z.1 = r.1
    · rw [if_pos c] at e
      exact .inr (.inr ⟨z, hz, c, e.symm⟩)
    · rw [if_neg c] at e
      exact .inl (by rw [← e]; exact hz)
  · rcases List.mem_append.mp h with h | h
    · exact .inl h
    · exact .inr (.inl (List.mem_singleton.mp h))
theorem putR_good {rows : List Row} {r : Row} (h : ∀ q ∈ rows, goodR q) (g : goodR r) : ∀ q ∈ putR rows r, goodR q := fun q hq => by
  rcases putR_mem hq with z | rfl | ⟨z, hz, e, rfl⟩
  · exact h q z
  · exact g
  · exact ⟨(h z hz).1, g.2⟩
theorem putR_keys (rows : List Row) (r : Row) : (putR rows r).map (·.1) = if (rows.any fun q => decide (q.1 = r.1)) = true then rows.map (·.1) else rows.map (·.1) ++ [r.1] := by
  unfold putR
  by_cases c : (rows.any fun q => decide (q.1 = r.1)) = true
  · rw [if_pos c, if_pos c, List.map_map]
    refine List.map_congr_left fun q _ => ?_
    show (if q.1 = r.1 then (q.1, r.2) else q).1 = q.1
    split <;> rfl
  · rw [if_neg c, if_neg c, List.map_append]
    rfl
theorem putR_nd {rows : List Row} {r : Row} (h : (rows.map (·.1)).Nodup) : ((putR rows r).map (·.1)).Nodup := by
  rw [putR_keys]
  split
  · exact h
  · rename_i c
    refine List.nodup_append.mpr ⟨h, by simp, fun a ha b hb e => c ?_⟩
    obtain ⟨q, hq, rfl⟩ := List.mem_map.mp ha
    rw [List.mem_singleton] at hb
    exact List.any_eq_true.mpr ⟨q, hq, decide_eq_true (e.trans hb)⟩
theorem putR_len (rows : List Row) (r : Row) : (putR rows r).length ≤ rows.length + 1 := by
  have h := congrArg List.length (putR_keys rows r)
  rw [List.length_map] at h
  rw [h]
  split
  · rw [List.length_map]
    omega
  · rw [List.length_append, List.length_map]
    exact Nat.le_refl _
theorem dictR_snoc (ls : List Str) (l : Str) : dictR (ls ++ [l]) = putR (dictR ls) (lineP l) := by
  unfold dictR
  rw [List.foldl_append]
  rfl
theorem dictR_ok : ∀ n, ∀ ls : List Str, ls.length = n → (∀ l ∈ ls, tOk l) → (∀ r ∈ dictR ls, goodR r) ∧ ((dictR ls).map (·.1)).Nodup ∧ (dictR ls).length ≤ ls.length
  | 0, ls, e, _ => by
    cases List.length_eq_zero_iff.mp e
    exact ⟨fun r hr => (List.not_mem_nil hr).elim, List.nodup_nil, Nat.le_refl _⟩
  | n + 1, ls, e, h => by
    obtain ⟨init, l, rfl⟩ : ∃ init l, ls = init ++ [l] := by
      have hne : ls ≠ [] := fun z => by
        rw [z] at e
        cases e
      exact ⟨ls.dropLast, ls.getLast hne, (List.dropLast_concat_getLast hne).symm⟩
    rw [List.length_append] at e
    obtain ⟨h1, h2, h3⟩ := dictR_ok n init (by simpa using e) fun z hz => h z (List.mem_append_left _ hz)
    rw [dictR_snoc]
    refine ⟨putR_good h1 (line_good (h l (List.mem_append_right _ List.mem_cons_self))), putR_nd h2, ?_⟩
    have := putR_len (dictR init) (lineP l)
    rw [List.length_append]
    simp only [List.length_cons, List.length_nil]
    omega
theorem ents_put {K : PySem.W.Frag} {H : Hp} {kvs : List (Key × V)} {rows : List Row} (en : Ents K H kvs (entsP rows)) {r : Row} {v : V} (dv : Dp K H v (prgD r.2)) (sh : SeqAt.shaped (prgD r.2) = true) : Ents K H (putK kvs (.inr r.1) v) (entsP (putR rows r)) := by
  have same : ∀ {kvs : List (Key × V)} {rows : List Row}, Ents K H kvs (entsP rows) → (kvs.any fun kv => decide (kv.1 = (Sum.inr r.1 : Key))) = rows.any fun q => decide (q.1 = r.1) := by
    intro kvs rows en
    induction rows generalizing kvs with
    | nil => cases en; rfl
    | cons q rest ih =>
      cases en with
      | cons a b c =>
        rw [List.any_cons, List.any_cons, ih c]
        congr 1
        rw [Bool.eq_iff_iff, decide_eq_true_iff, decide_eq_true_iff]
        exact ⟨fun z => by injection z, fun z => by rw [z]⟩
  have step : ∀ {kvs : List (Key × V)} {rows : List Row}, Ents K H kvs (entsP rows) → Ents K H (kvs.map fun kv => if kv.1 = (Sum.inr r.1 : Key) then (kv.1, v) else kv) (entsP (rows.map fun q => if q.1 = r.1 then (q.1, r.2) else q)) := by
    intro kvs rows en
    induction rows generalizing kvs with
    | nil => cases en; exact .nil
    | cons q rest ih =>
      cases en with
      | cons a b c =>
        rename_i w ws
        show Ents K H ((if (Sum.inr q.1 : Key) = .inr r.1 then (Sum.inr q.1, v) else (Sum.inr q.1, w)) :: _) ((.inr (if q.1 = r.1 then (q.1, r.2) else q).1, prgD (if q.1 = r.1 then (q.1, r.2) else q).2) :: _)
        by_cases e : q.1 = r.1
        · rw [if_pos (by rw [e]), if_pos e]
          exact .cons dv sh (ih c)
        · rw [if_neg (fun z => e (by injection z)), if_neg e]
          exact .cons a b (ih c)
  unfold putK putR
  rw [same en]
  by_cases c : (rows.any fun q => decide (q.1 = r.1)) = true
  · rw [if_pos c, if_pos c]
    exact step en
  · rw [if_neg c, if_neg c]
    unfold entsP
    rw [List.map_append]
    exact en.snoc dv sh
def C3 {K : PySem.W.Frag} {mg : Str → Option Value} {w : World} (T : Txt K mg w) : Addr × Addr × Addr := (T.C_NoProgram, T.C_InvalidProgram, T.C_UnknownMode)
/-! ### the head of a protocol's text: pairs that rise by their places -/
section
variable (g : Str → Nat)
def ltG (p q : Pr) : Prop := g p.1 < g q.1 ∨ (g p.1 = g q.1 ∧ g p.2 < g q.2)
theorem ltG_trans {a b c : Pr} (h1 : ltG g a b) (h2 : ltG g b c) : ltG g a c := by
  unfold ltG at *
  omega
theorem ltG_irr {a : Pr} (h : ltG g a a) : False := by
  unfold ltG at h
  omega
theorem rise_ext : ∀ {l1 l2 : List Pr}, l1.Pairwise (ltG g) → l2.Pairwise (ltG g) → (∀ p, p ∈ l1 ↔ p ∈ l2) → l1 = l2
  | [], [], _, _, _ => rfl
  | [], b :: _, _, _, h => absurd ((h b).mpr List.mem_cons_self) List.not_mem_nil
  | a :: _, [], _, _, h => absurd ((h a).mp List.mem_cons_self) List.not_mem_nil
  | a :: l1, b :: l2, h1, h2, h => by
    rw [List.pairwise_cons] at h1 h2
    have e : a = b := by
      rcases List.mem_cons.mp ((h a).mp List.mem_cons_self) with e | z1
      · exact e
      rcases List.mem_cons.mp ((h b).mpr List.mem_cons_self) with e | z2
      · exact e.symm
      exact (ltG_irr g (ltG_trans g (h1.1 b z2) (h2.1 a z1))).elim
    subst e
    rw [rise_ext h1.2 h2.2 fun p => ⟨fun hp => ?_, fun hp => ?_⟩]
    · rcases List.mem_cons.mp ((h p).mp (List.mem_cons_of_mem _ hp)) with rfl | z
      · exact (ltG_irr g (h1.1 _ hp)).elim
      · exact z
    · rcases List.mem_cons.mp ((h p).mpr (List.mem_cons_of_mem _ hp)) with rfl | z
      · exact (ltG_irr g (h2.1 _ hp)).elim
      · exact z
theorem prsOf_cons (f : Str → List Str) (m : Str) (r : List Str) : prsOf f (m :: r) = outP f (m :: r) ++ prsOf f r := by
  unfold prsOf prsA
  rw [List.length_cons, List.range_succ_eq_map, List.map_cons, List.flatten_cons, List.map_map]
  rfl
theorem outP_iff {f : Str → List Str} {m : Str} {r : List Str} {p : Pr} : p ∈ outP f (m :: r) ↔ p.1 = m ∧ p.2 ∈ m :: r ∧ p.2 ∈ f m := by
  constructor
  · intro h
    obtain ⟨m', r', e, e1, e2, e3⟩ := mem_outP h
    injection e with e4 e5
    subst e4 e5
    exact ⟨e1, e2, e3⟩
  · rintro ⟨rfl, h2, h3⟩
    exact List.mem_map.mpr ⟨p.2, List.mem_filter.mpr ⟨h2, decide_eq_true h3⟩, rfl⟩
theorem prsOf_rise (f : Str → List Str) : ∀ {l : List Str}, l.Pairwise (fun a b => g a < g b) → (prsOf f l).Pairwise (ltG g) ∧ ∀ p, p ∈ prsOf f l ↔ p.1 ∈ l ∧ p.2 ∈ l ∧ g p.1 ≤ g p.2 ∧ p.2 ∈ f p.1
  | [], _ => ⟨List.Pairwise.nil, fun p => ⟨fun h => (List.not_mem_nil h).elim, fun h => (List.not_mem_nil h.1).elim⟩⟩
  | m :: r, h => by
    obtain ⟨h1, h2⟩ := List.pairwise_cons.mp h
    obtain ⟨i1, i2⟩ := prsOf_rise f h2
    rw [prsOf_cons]
    refine ⟨List.pairwise_append.mpr ⟨?_, i1, fun p hp q hq => ?_⟩, fun p => ?_⟩
    · show (((m :: r).filter _).map _).Pairwise _
      rw [List.pairwise_map]
      exact (h.sublist List.filter_sublist).imp fun z => .inr ⟨rfl, z⟩
    · have e := (outP_iff.mp hp).1
      have := h1 q.1 ((i2 q).mp hq).1
      exact .inl (by rw [e]; exact this)
    · rw [List.mem_append, outP_iff, i2]
      constructor
      · rintro (⟨rfl, h3, h4⟩ | ⟨h3, h4, h5, h6⟩)
        · refine ⟨List.mem_cons_self, h3, ?_, h4⟩
          rcases List.mem_cons.mp h3 with e | z
          · rw [e]
            exact Nat.le_refl _
          · exact Nat.le_of_lt (h1 _ z)
        · exact ⟨List.mem_cons_of_mem _ h3, List.mem_cons_of_mem _ h4, h5, h6⟩
      · rintro ⟨h3, h4, h5, h6⟩
        rcases List.mem_cons.mp h3 with e | z
        · exact .inl ⟨e, h4, by rw [← e]; exact h6⟩
        · refine .inr ⟨z, ?_, h5, h6⟩
          rcases List.mem_cons.mp h4 with e | z2
          · have := h1 _ z
            rw [e] at h5
            omega
          · exact z2
end
theorem idx_rise {ms : List Str} (nd : ms.Nodup) : ms.Pairwise (fun a b => ms.idxOf a < ms.idxOf b) := by
  rw [List.pairwise_iff_getElem]
  intro i j hi hj hij
  rw [nd.idxOf_getElem, nd.idxOf_getElem]
  exact hij
theorem idx_inj {ms : List Str} {a b : Str} (ha : a ∈ ms) (hb : b ∈ ms) (e : ms.idxOf a = ms.idxOf b) : a = b := by
  have h1 := List.getElem_idxOf (List.idxOf_lt_length_iff.mpr ha)
  have h2 := List.getElem_idxOf (List.idxOf_lt_length_iff.mpr hb)
  rw [← h1, ← h2]
  simp only [e]
def okRise (ms : List Str) (ps : List Pr) : Prop := (∀ p ∈ ps, ms.idxOf p.1 ≤ ms.idxOf p.2) ∧ ps.Pairwise (ltG ms.idxOf)
theorem okRise_iff {ms : List Str} (nd : ms.Nodup) {ps : List Pr} (hp : ∀ p ∈ ps, p.1 ∈ ms ∧ p.2 ∈ ms) : okRise ms ps ↔ prsOf (ag ms ps) ms = ps := by
  obtain ⟨r1, r2⟩ := prsOf_rise ms.idxOf (ag ms ps) (idx_rise nd)
  constructor
  · rintro ⟨h1, h2⟩
    refine rise_ext _ r1 h2 fun p => ?_
    rw [r2]
    constructor
    · rintro ⟨a, b, c, d⟩
      have d := (List.mem_filter.mp d).2
      unfold adj at d
      rcases Bool.or_eq_true_iff.mp d with z | z
      · exact of_decide_eq_true z
      · have z := of_decide_eq_true z
        have z2 := h1 _ z
        have e : p.1 = p.2 := idx_inj a b (Nat.le_antisymm c z2)
        have : p = (p.2, p.1) := Prod.ext e e.symm
        rw [this]
        exact z
    · intro h
      refine ⟨(hp p h).1, (hp p h).2, h1 p h, List.mem_filter.mpr ⟨(hp p h).2, ?_⟩⟩
      unfold adj
      rw [decide_eq_true (show (p.1, p.2) ∈ ps from h), Bool.true_or]
  · intro e
    rw [e] at r1 r2
    exact ⟨fun p h => ((r2 p).mp h).2.2.1, r1⟩
/-! ### the law's reading of the head is the program's -/
theorem join_back (a t : Str) : Txt.join a (Txt.split t a) = t := by
  rw [TL.join_eq]
  exact PySem.StrLaws.join_split t a
theorem app_as (a b c : Str) : a ++ (b ++ c) = a ++ b ++ c := TL.ext_tl (by rw [TL.tl_append, TL.tl_append, TL.tl_append, TL.tl_append, List.append_assoc])
def parseL (t : Str) : Option (List Str × List Pr) := match Txt.split t ": " with
  | [h] => if okMB (Txt.split h " ") = true then some (Txt.split h " ", []) else none
  | [h, b] => if okMB (Txt.split h " ") = true then (prsO (Txt.split h " ") (Txt.split b " ")).map fun ps => (Txt.split h " ", ps) else none
  | _ => none
def lawH (t : Str) : Option (List Str × List Pr) := (parseL t).bind fun r => if prsOf (ag r.1 r.2) r.1 = r.2 then some r else none
theorem lawP_parse (t : Str) : lawP txS t = (parseL t).bind fun r => if txS r.1 r.2 = t then some r else none := by
  unfold lawP parseL
  generalize Txt.split t ": " = L
  match L with
  | [] => rfl
  | [h] =>
    show (if okMB (Txt.split h " ") = true then _ else _) = Option.bind (if okMB (Txt.split h " ") = true then _ else _) _
    by_cases c : okMB (Txt.split h " ") = true
    · rw [if_pos c, if_pos c]
      rfl
    · rw [if_neg c, if_neg c]
      rfl
  | [h, b] =>
    show (if okMB (Txt.split h " ") = true then _ else _) = Option.bind (if okMB (Txt.split h " ") = true then _ else _) _
    by_cases c : okMB (Txt.split h " ") = true
    · rw [if_pos c, if_pos c]
      cases prsO (Txt.split h " ") (Txt.split b " ") <;> rfl
    · rw [if_neg c, if_neg c]
      rfl
  | h :: b :: d :: r => rfl
theorem prO_some {ms : List Str} {w : Str} {p : Pr} (h : prO ms w = some p) : prT p = w ∧ p.1 ∈ ms ∧ p.2 ∈ ms := by
  unfold prO at h
  split at h
  · rename_i a b e
    split at h
    · rename_i m
      cases h
      refine ⟨?_, m⟩
      have := join_back "!" w
      rw [e, join_two] at this
      rw [prT_eq, ← this, app_as]
    · cases h
  · cases h
theorem prsO_some {ms : List Str} : ∀ {ws : List Str} {ps : List Pr}, prsO ms ws = some ps → ps.map prT = ws ∧ ∀ p ∈ ps, p.1 ∈ ms ∧ p.2 ∈ ms
  | [], ps, h => by
    cases h
    exact ⟨rfl, fun p hp => (List.not_mem_nil hp).elim⟩
  | w :: r, ps, h => by
    unfold prsO at h
    cases e : prO ms w with
    | none => rw [e] at h; cases h
    | some p =>
      rw [e] at h
      cases e2 : prsO ms r with
      | none => rw [e2] at h; cases h
      | some qs =>
        rw [e2] at h
        cases h
        obtain ⟨h1, h2⟩ := prsO_some e2
        obtain ⟨h3, h4⟩ := prO_some e
        refine ⟨by rw [List.map_cons, h1, h3], fun q hq => ?_⟩
        rcases List.mem_cons.mp hq with rfl | z
        · exact h4
        · exact h2 q z
theorem split_ne (t : Str) : Txt.split t " " ≠ [] := fun z => by
  have h : (Txt.split t " ").length ≠ 0 := by
    rw [← SX.S_tl t, split_sp, List.length_map]
    exact fun z => spl_ne 32 _ _ (List.length_eq_zero_iff.mp z)
  rw [z] at h
  exact h rfl
theorem parseL_ok {t : Str} {ms : List Str} {ps : List Pr} (h : parseL t = some (ms, ps)) : textM ms ps = t ∧ okMB ms = true ∧ 1 ≤ ms.length ∧ ∀ p ∈ ps, p.1 ∈ ms ∧ p.2 ∈ ms := by
  have pos : ∀ s : Str, 1 ≤ (Txt.split s " ").length := fun s => List.length_pos_iff.mpr (split_ne s)
  have back := join_back ": " t
  unfold parseL at h
  split at h
  · rename_i hd e
    split at h
    · rename_i ok
      cases h
      rw [e, join_one] at back
      exact ⟨by rw [textM_nil, join_back, back], ok, pos _, fun p hp => (List.not_mem_nil hp).elim⟩
    · cases h
  · rename_i hd b e
    split at h
    · rename_i ok
      cases e2 : prsO (Txt.split hd " ") (Txt.split b " ") with
      | none => rw [e2] at h; cases h
      | some qs =>
        rw [e2] at h
        cases h
        obtain ⟨h1, h2⟩ := prsO_some e2
        rw [e, join_two] at back
        have ne : ps ≠ [] := fun z => by
          rw [z] at h1
          exact split_ne b h1.symm
        refine ⟨?_, ok, pos _, h2⟩
        rw [← text_some (pos _) ne, h1, join_back, join_back, back]
    · cases h
  · cases h
theorem okM_nd {ms : List Str} (h : okMB ms = true) : ms.Nodup := by
  unfold okMB at h
  rw [Bool.and_eq_true, Bool.and_eq_true] at h
  exact of_decide_eq_true h.2.1
theorem textM_inj {ms : List Str} (ok : okMB ms = true) (l1 : 1 ≤ ms.length) {a b : List Pr} (ha : ∀ p ∈ a, p.1 ∈ ms ∧ p.2 ∈ ms) (hb : ∀ p ∈ b, p.1 ∈ ms ∧ p.2 ∈ ms) (e : textM ms a = textM ms b) : a = b := by
  have h1 := progP_told (okM_names ok) (okM_nd ok) l1 (okM_len ok) ha
  rw [e, progP_told (okM_names ok) (okM_nd ok) l1 (okM_len ok) hb] at h1
  injection h1 with h1
  injection h1 with _ h1
  exact h1.symm
theorem lawH_is (t : Str) : lawH t = readT t := by
  rw [← law_reads, lawP_parse]
  unfold lawH
  cases e : parseL t with
  | none => rfl
  | some r =>
    obtain ⟨ms, ps⟩ := r
    obtain ⟨h1, h2, h3, h4⟩ := parseL_ok e
    rw [Option.bind_some, Option.bind_some]
    by_cases c : prsOf (ag ms ps) ms = ps
    · rw [if_pos c, if_pos]
      show textM ms (prsOf (ag ms ps) ms) = t
      rw [c, h1]
    · rw [if_neg c, if_neg]
      intro z
      have z : textM ms (prsOf (ag ms ps) ms) = t := z
      exact c (textM_inj h2 h3 (fun p hp => mem_prsOf hp) h4 (by rw [z, h1]))
theorem readT_canon {t : Str} {ms : List Str} {ps : List Pr} (h : readT t = some (ms, ps)) : prsOf (ag ms ps) ms = ps ∧ textM ms ps = t ∧ okMB ms = true ∧ 1 ≤ ms.length := by
  rw [← lawH_is] at h
  unfold lawH at h
  cases e : parseL t with
  | none => rw [e] at h; cases h
  | some r =>
    rw [e, Option.bind_some] at h
    split at h
    · rename_i c
      cases h
      obtain ⟨h1, h2, h3, _⟩ := parseL_ok e
      exact ⟨c, h1, h2, h3⟩
    · cases h
/-! ### the law's reading of a protocol is the program's -/
def lineL (l : Str) : Option Row := match Txt.split l ": " with
  | [k, w] => some (k, (Txt.split w ", ").map fun s => Txt.split s " ")
  | _ => none
def lawRows (ms : List Str) : List Row → List Str → Option (List Row)
  | acc, [] => some acc
  | acc, l :: ls => (lineL l).bind fun r => if r.1 ∈ acc.map (·.1) ∨ r.1 ∉ kindsL ∨ rowOk ms r = false then none else lawRows ms (acc ++ [r]) ls
def lawR (t : Str) : Option (List Str × List Pr × List Row) := match Txt.split t "\n" with
  | [] => none
  | f :: ls => (lawH f).bind fun h => (lawRows h.1 [] ls).bind fun rows => if rows.map (·.1) = gvR rows then some (h.1, h.2, rows) else none
theorem part_two {l k w : Str} (h : Txt.split l ": " = [k, w]) : (Txt.partition l ": ").1 = k ∧ (Txt.partition l ": ").2.2 = w := by
  rw [← SX.S_tl l] at h ⊢
  generalize l.cps.toList = L at h ⊢
  have h0 := split_sep L
  rw [h0, spl_par [58, 32] (by simp)] at h
  cases e : TL.par [58, 32] [] L with
  | none =>
    rw [e] at h
    cases h
  | some q =>
    obtain ⟨a, b⟩ := q
    rw [e] at h
    have h : SX.S a :: (TL.spl [58, 32] 0 [] b).map SX.S = [k, w] := h
    rw [spl_par [58, 32] (by simp)] at h
    rw [sep_S, SX.partition_some (by decide) e]
    cases e2 : TL.par [58, 32] [] b with
    | none =>
      rw [e2] at h
      injection h with h1 h2
      injection h2 with h2 _
      exact ⟨h1, by rw [← h2]; rfl⟩
    | some q =>
      obtain ⟨a2, b2⟩ := q
      rw [e2] at h
      injection h with h1 h2
      have h2 : SX.S a2 :: (TL.spl [58, 32] 0 [] b2).map SX.S = [w] := h2
      injection h2 with _ h3
      have h4 := congrArg List.length h3
      rw [List.length_map, spl_par [58, 32] (by simp)] at h4
      cases e3 : TL.par [58, 32] [] b2 with
      | none => rw [e3] at h4; cases h4
      | some q => rw [e3] at h4; cases h4
theorem lineL_some {l : Str} {r : Row} (h : lineL l = some r) : lineP l = r ∧ lineT r = l := by
  unfold lineL at h
  split at h
  · rename_i k w e
    cases h
    obtain ⟨h1, h2⟩ := part_two e
    refine ⟨by unfold lineP; rw [h1, h2], ?_⟩
    have back := join_back ": " l
    rw [e, join_two] at back
    unfold lineT progT
    rw [List.map_map]
    have ej : ((Txt.split w ", ").map ((Txt.join " ") ∘ fun s => Txt.split s " ")) = Txt.split w ", " := by
      conv => rhs; rw [← List.map_id (Txt.split w ", ")]
      exact List.map_congr_left fun s _ => join_back " " s
    rw [ej, join_back, emp_app, ← back, app_as]
  · cases h
theorem lawRows_some {ms : List Str} : ∀ {ls : List Str} {acc rows : List Row}, lawRows ms acc ls = some rows → (acc.map (·.1)).Nodup →
    ∃ rs, rows = acc ++ rs ∧ ls.map lineP = rs ∧ rs.map lineT = ls ∧ ((acc ++ rs).map (·.1)).Nodup ∧ ∀ r ∈ rs, r.1 ∈ kindsL ∧ rowOk ms r = true
  | [], acc, rows, h, nd => by
    cases h
    exact ⟨[], (List.append_nil _).symm, rfl, rfl, by rw [List.append_nil]; exact nd, fun r hr => (List.not_mem_nil hr).elim⟩
  | l :: ls, acc, rows, h, nd => by
    unfold lawRows at h
    cases e : lineL l with
    | none => rw [e] at h; cases h
    | some r =>
      rw [e, Option.bind_some] at h
      split at h
      · cases h
      · rename_i c
        have c1 : r.1 ∉ acc.map (·.1) := fun z => c (.inl z)
        have c2 : r.1 ∈ kindsL := Classical.byContradiction fun z => c (.inr (.inl z))
        have c3 : rowOk ms r = true := by
          cases z : rowOk ms r with
          | true => rfl
          | false => exact absurd (.inr (.inr z)) c
        have nd2 : ((acc ++ [r]).map (·.1)).Nodup := by
          rw [List.map_append]
          refine List.nodup_append.mpr ⟨nd, by simp, fun a ha b hb z => c1 ?_⟩
          have hb : b = r.1 := by simpa using hb
          rw [← hb, ← z]
          exact ha
        obtain ⟨rs, h1, h2, h3, h4, h5⟩ := lawRows_some h nd2
        obtain ⟨p1, p2⟩ := lineL_some e
        refine ⟨r :: rs, by rw [h1, List.append_assoc]; rfl, by rw [List.map_cons, h2, p1], by rw [List.map_cons, h3, p2], by rw [List.append_assoc] at h4; exact h4, fun q hq => ?_⟩
        rcases List.mem_cons.mp hq with rfl | z
        · exact ⟨c2, c3⟩
        · exact h5 q z
theorem dict_same : ∀ {rs acc : List Row}, ((acc ++ rs).map (·.1)).Nodup → rs.foldl putR acc = acc ++ rs
  | [], acc, _ => (List.append_nil _).symm
  | r :: rs, acc, nd => by
    have e : putR acc r = acc ++ [r] := by
      unfold putR
      rw [if_neg]
      intro z
      obtain ⟨q, hq, e⟩ := List.any_eq_true.mp z
      rw [List.map_append, List.map_cons] at nd
      exact (List.nodup_append.mp nd).2.2 q.1 (List.mem_map.mpr ⟨q, hq, rfl⟩) r.1 List.mem_cons_self (of_decide_eq_true e)
    rw [List.foldl_cons, e, dict_same (by rw [List.append_assoc]; exact nd), List.append_assoc]
    rfl
theorem dictR_map (ls : List Str) : dictR ls = (ls.map lineP).foldl putR [] := by
  unfold dictR
  rw [List.foldl_map]
theorem canon_same {rows : List Row} (nd : (rows.map (·.1)).Nodup) (e : rows.map (·.1) = gvR rows) : canon rows = rows := by
  have h1 : canon rows = (gvR rows).map fun k => (k, (findR rows k).getD []) := by
    unfold canon gvR
    generalize kindsL = ks
    induction ks with
    | nil => rfl
    | cons k r ih =>
      rw [List.filterMap_cons, List.filter_cons]
      cases f : findR rows k with
      | none => simpa using ih
      | some p =>
        rw [if_pos (by rfl), List.map_cons, ← ih, f]
        rfl
  rw [h1, ← e, List.map_map]
  conv => rhs; rw [← List.map_id rows]
  refine List.map_congr_left fun r hr => ?_
  show (r.1, (findR rows r.1).getD []) = r
  rw [findR_of nd hr]
  rfl
theorem lawR_sound {t : Str} {ms : List Str} {ps : List Pr} {rows : List Row} (h : lawR t = some (ms, ps, rows)) : readR t = some (ms, ps, rows) := by
  unfold lawR at h
  split at h
  · cases h
  · rename_i f ls e
    cases e1 : lawH f with
    | none => rw [e1] at h; cases h
    | some q =>
      obtain ⟨ms', ps'⟩ := q
      rw [e1, Option.bind_some] at h
      cases e2 : lawRows ms' [] ls with
      | none => rw [e2] at h; cases h
      | some rs =>
        rw [e2, Option.bind_some] at h
        split at h
        · rename_i ek
          obtain ⟨e3, e4, e5⟩ : ms = ms' ∧ ps = ps' ∧ rows = rs := by
            cases h
            exact ⟨rfl, rfl, rfl⟩
          subst e3 e4 e5
          rw [lawH_is] at e1
          obtain ⟨c1, c2, _⟩ := readT_canon e1
          obtain ⟨rs, h1, h2, h3, h4, h5⟩ := lawRows_some e2 List.nodup_nil
          rw [List.nil_append] at h1 h4
          subst h1
          have ed : dictR ls = rows := by
            rw [dictR_map, h2, dict_same (by rw [List.nil_append]; exact h4), List.nil_append]
          have ok : rbOk ms rows = true := by
            unfold rbOk
            rw [List.all_eq_true]
            intro r hr
            rw [decide_eq_true (h5 r hr).1, (h5 r hr).2]
            rfl
          have ep : progR t = some (ms, ps, rows) := by
            unfold progR
            rw [e]
            show ((readT f).bind fun r => if rbOk r.1 (dictR ls) = true then some (r.1, r.2, canon (dictR ls)) else none) = _
            rw [e1, Option.bind_some, ed, if_pos ok, canon_same h4 ek]
          unfold readR
          rw [ep, Option.bind_some, if_pos]
          show Txt.join "\n" (textM ms (prsOf (ag ms ps) ms) :: rows.map lineT) = t
          rw [c1, c2, h3, ← e, join_back]
        · cases h
/-! ### what is told is read -/
theorem free_of {s : Str} (h : (TL.tl s).all okSign = true) {c : Nat} (hc : okSign c = false) : c ∉ TL.tl s := fun m => by
  have := List.all_eq_true.mp h c m
  rw [hc] at this
  cases this
theorem kind_let : ∀ k ∈ kindsL, (TL.tl k).all okSign = true := by decide +kernel
theorem steps_let (k : Str) : ∀ ss ∈ stepsT k, ∀ s ∈ ss, (TL.tl s).all okSign = true := by
  have h : ∀ p ∈ stepsTb, ∀ ss ∈ p.2, ∀ s ∈ ss, (TL.tl s).all okSign = true := by decide +kernel
  intro ss hs
  unfold stepsT at hs
  cases e : stepsTb.find? fun p => decide (p.1 = k) with
  | none => rw [e] at hs; cases hs
  | some p =>
    rw [e] at hs
    exact h p (List.mem_of_find?_eq_some e) ss hs
theorem locks_let (k : Str) : ∀ b ∈ locksT k, (TL.tl b).all okSign = true := by
  have h : ∀ p ∈ locksTb, ∀ b ∈ p.2, (TL.tl b).all okSign = true := by decide +kernel
  intro b hb
  unfold locksT at hb
  cases e : locksTb.find? fun p => decide (p.1 = k) with
  | none => rw [e] at hb; cases hb
  | some p =>
    rw [e] at hb
    exact h p (List.mem_of_find?_eq_some e) b hb
theorem lock_let : (TL.tl ("lock" : Str)).all okSign = true := by decide +kernel
theorem word_free {k : Str} {ss : List Str} (h : stepS k ss = true) {c : Nat} (hc : okSign c = false) : ∀ s ∈ ss, c ∉ TL.tl s := by
  unfold stepS at h
  split at h
  · rename_i a b d
    rw [Bool.and_eq_true, Bool.and_eq_true] at h
    have e := of_decide_eq_true h.1
    subst e
    intro s hs
    rcases List.mem_cons.mp hs with rfl | hs
    · exact free_of lock_let hc
    rcases List.mem_cons.mp hs with rfl | hs
    · exact free_of (locks_let k _ (of_decide_eq_true h.2.1)) hc
    rcases List.mem_cons.mp hs with rfl | hs
    · exact name_free h.2.2 hc
    · cases hs
  · exact fun s hs => free_of (steps_let k _ (of_decide_eq_true h) s hs) hc
theorem tl_cm : TL.tl (", " : Str) = [44, 32] := by decide +kernel
theorem tl_nl : TL.tl ("\n" : Str) = [10] := by decide +kernel
theorem progT_free {k : Str} {sss : List (List Str)} (h : progS k sss = true) {c : Nat} (hc : okSign c = false) (h1 : c ≠ 32) (h2 : c ≠ 44) : c ∉ TL.tl (progT sss) := by
  refine join_free (by rw [tl_cm]; simp [h1, h2]) fun y hy => ?_
  obtain ⟨ss, hs, rfl⟩ := List.mem_map.mp hy
  exact join_free (by rw [tl_sp]; simp [h1]) (word_free (prog_step h hs) hc)
theorem lineT_join (r : Row) : lineT r = Txt.join ": " [r.1, progT r.2] := by
  unfold lineT
  rw [emp_app, join_two, app_as]
theorem lineL_told {ms : List Str} {r : Row} (hk : r.1 ∈ kindsL) (h : rowOk ms r = true) : lineL (lineT r) = some r := by
  unfold rowOk at h
  rw [Bool.and_eq_true] at h
  have hp := h.1
  have ne : r.2 ≠ [] := fun z => by
    have := (prog_len hp).1
    rw [z] at this
    exact absurd this (by decide)
  have e1 : Txt.split (lineT r) ": " = [r.1, progT r.2] := by
    rw [lineT_join]
    refine TL.split_join tl_sep (by decide +kernel) (by simp) fun q hq => ?_
    rcases List.mem_cons.mp hq with rfl | hq
    · exact free_of (kind_let _ hk) (by decide +kernel)
    · rw [List.mem_singleton] at hq
      subst hq
      exact progT_free hp (by decide +kernel) (by decide) (by decide)
  have e2 : Txt.split (progT r.2) ", " = r.2.map (Txt.join " ") := TL.split_join tl_cm (by decide +kernel) (by simpa using ne) fun q hq => by
    obtain ⟨ss, hs, rfl⟩ := List.mem_map.mp hq
    exact join_free (by rw [tl_sp]; decide) (word_free (prog_step hp hs) (by decide +kernel))
  have e3 : (r.2.map (Txt.join " ")).map (fun s => Txt.split s " ") = r.2 := by
    rw [List.map_map]
    conv => rhs; rw [← List.map_id r.2]
    refine List.map_congr_left fun ss hs => ?_
    show Txt.split (Txt.join " " ss) " " = ss
    exact TL.split_join tl_sp (by decide +kernel) (step_three (prog_step hp hs)).1 (word_free (prog_step hp hs) (by decide +kernel))
  unfold lineL
  rw [e1]
  show some (r.1, (Txt.split (progT r.2) ", ").map fun s => Txt.split s " ") = some r
  rw [e2, e3]
theorem lawRows_told {ms : List Str} : ∀ {rows acc : List Row}, ((acc ++ rows).map (·.1)).Nodup → (∀ r ∈ rows, r.1 ∈ kindsL ∧ rowOk ms r = true) → lawRows ms acc (rows.map lineT) = some (acc ++ rows)
  | [], acc, _, _ => by
    rw [List.append_nil]
    rfl
  | r :: rows, acc, nd, h => by
    obtain ⟨h1, h2⟩ := h r List.mem_cons_self
    rw [List.map_cons]
    unfold lawRows
    rw [lineL_told h1 h2, Option.bind_some, if_neg]
    · rw [lawRows_told (by rw [List.append_assoc]; exact nd) fun q hq => h q (List.mem_cons_of_mem _ hq), List.append_assoc]
      rfl
    · rintro (z | z | z)
      · rw [List.map_append, List.map_cons] at nd
        exact (List.nodup_append.mp nd).2.2 r.1 z r.1 List.mem_cons_self rfl
      · exact z h1
      · rw [h2] at z
        cases z
theorem prT_freeC {ms : List Str} (hn : ∀ s ∈ ms, nameS s = true) {p : Pr} (h : p.1 ∈ ms ∧ p.2 ∈ ms) {c : Nat} (hc : okSign c = false) (h1 : c ≠ 33) : c ∉ TL.tl (prT p) := by
  rw [prT_eq, TL.tl_append, TL.tl_append, tl_bang]
  intro z
  rcases List.mem_append.mp z with z | z
  · rcases List.mem_append.mp z with z | z
    · exact name_free (hn _ h.1) hc z
    · exact h1 (List.mem_singleton.mp z)
  · exact name_free (hn _ h.2) hc z
theorem textM_free {ms : List Str} (hn : ∀ s ∈ ms, nameS s = true) {ps : List Pr} (hp : ∀ p ∈ ps, p.1 ∈ ms ∧ p.2 ∈ ms) : 10 ∉ TL.tl (textM ms ps) := by
  unfold textM
  refine join_free (by rw [tl_sep]; decide) fun y hy => ?_
  obtain ⟨ws, hws, rfl⟩ := List.mem_map.mp hy
  refine join_free (by rw [tl_sp]; decide) fun z hz => ?_
  have hw := (List.mem_filter.mp hws).1
  rcases List.mem_cons.mp hw with rfl | hw
  · exact name_free (hn z hz) (by decide +kernel)
  · rw [List.mem_singleton] at hw
    subst hw
    obtain ⟨p, h, rfl⟩ := List.mem_map.mp hz
    exact prT_freeC hn (hp p h) (by decide +kernel) (by decide)
theorem lawR_told {ms : List Str} {ps : List Pr} {rows : List Row} (ok : okMB ms = true) (l1 : 1 ≤ ms.length) (c : prsOf (ag ms ps) ms = ps) (nd : (rows.map (·.1)).Nodup) (ek : rows.map (·.1) = gvR rows) (h : ∀ r ∈ rows, r.1 ∈ kindsL ∧ rowOk ms r = true) :
    lawR (textR ms ps rows) = some (ms, ps, rows) := by
  have hp : ∀ p ∈ ps, p.1 ∈ ms ∧ p.2 ∈ ms := fun p hp => mem_prsOf (f := ag ms ps) (by rw [c]; exact hp)
  have e1 : Txt.split (textR ms ps rows) "\n" = textM ms ps :: rows.map lineT := TL.split_join tl_nl (by decide +kernel) (by simp) fun q hq => by
    rcases List.mem_cons.mp hq with rfl | hq
    · exact textM_free (okM_names ok) hp
    · obtain ⟨r, hr, rfl⟩ := List.mem_map.mp hq
      obtain ⟨h1, h2⟩ := h r hr
      unfold rowOk at h2
      rw [Bool.and_eq_true] at h2
      rw [lineT_join]
      refine join_free (by rw [tl_sep]; decide) fun y hy => ?_
      rcases List.mem_cons.mp hy with rfl | hy
      · exact free_of (kind_let _ h1) (by decide +kernel)
      · rw [List.mem_singleton] at hy
        subst hy
        exact progT_free h2.1 (by decide +kernel) (by decide) (by decide)
  have e2 := readT_told (okM_names ok) (okM_nd ok) l1 (okM_len ok) ps
  rw [c] at e2
  unfold lawR
  rw [e1]
  show ((lawH (textM ms ps)).bind fun h => (lawRows h.1 [] (rows.map lineT)).bind fun rows => if rows.map (·.1) = gvR rows then some (h.1, h.2, rows) else none) = _
  rw [lawH_is, e2, Option.bind_some, lawRows_told (acc := []) nd h, Option.bind_some, List.nil_append, if_pos ek]
theorem findR_canon (rows : List Row) : ∀ k ∈ kindsL, findR (canon rows) k = findR rows k := by
  intro k hk
  cases f : findR rows k with
  | some p =>
    exact findR_of (canon_nd rows) (r := (k, p)) (List.mem_filterMap.mpr ⟨k, hk, by rw [f]; rfl⟩)
  | none =>
    cases e : findR (canon rows) k with
    | none => rfl
    | some p =>
      have := (canon_mem (findR_mem e)).2
      rw [f] at this
      cases this
theorem gvR_canon (rows : List Row) : (canon rows).map (·.1) = gvR (canon rows) := by
  rw [canon_keys]
  unfold gvR
  exact List.filter_congr fun k hk => by rw [findR_canon rows k hk]
theorem progR_more {t : Str} {ms : List Str} {ps : List Pr} {rows : List Row} (h : progR t = some (ms, ps, rows)) : prsOf (ag ms ps) ms = ps ∧ rows.map (·.1) = gvR rows := by
  unfold progR at h
  split at h
  · cases h
  · rename_i first lines _
    cases e : readT first with
    | none => rw [e] at h; cases h
    | some q =>
      obtain ⟨ms', ps'⟩ := q
      rw [e, Option.bind_some] at h
      split at h
      · cases h
        exact ⟨(readT_canon e).1, gvR_canon _⟩
      · cases h
theorem lawR_is (t : Str) : lawR t = readR t := by
  cases e : readR t with
  | some m =>
    obtain ⟨ms, ps, rows⟩ := m
    unfold readR at e
    cases e2 : progR t with
    | none => rw [e2] at e; cases e
    | some m2 =>
      obtain ⟨ms', ps', rows'⟩ := m2
      rw [e2, Option.bind_some] at e
      split at e
      · rename_i et
        obtain ⟨h1, h2, h3⟩ : ms' = ms ∧ ps' = ps ∧ rows' = rows := by
          cases e
          exact ⟨rfl, rfl, rfl⟩
        subst h1 h2 h3
        obtain ⟨⟨ok, l1⟩, hv, nd⟩ := progR_ok e2
        obtain ⟨c, ek⟩ := progR_more e2
        have et : textR ms' (prsOf (ag ms' ps') ms') rows' = t := et
        rw [c] at et
        rw [← et]
        exact lawR_told ok l1 c nd ek hv
      · cases e
  | none =>
    cases e2 : lawR t with
    | none => rfl
    | some m =>
      obtain ⟨ms, ps, rows⟩ := m
      rw [lawR_sound e2] at e
      cases e
/-! ### a >= b of lists of whole numbers -/
section
open PySem.Spec PySem.Calls PyProof.Rows
variable {X : Cx}
def rGeLI (K : PySem.W.Frag) : R2 := fun x y H Q => ∃ is js : List Int, Dp K H x (.list (is.map .int)) ∧ Dp K H y (.list (js.map .int)) ∧ Q (.bl (!PySem.W.DatumOrd.lt is js)) H
theorem op_geLI (hu : X.A.units + 65 < cLine) : OpR X (compareOp .GtE) (rGeLI X.K) := by
  intro pins s σ H x y v u Q I rx ry h
  obtain ⟨is, js, dx, dy, q⟩ := h
  obtain ⟨as, r1⟩ := Dp.reads I _ x v dx rx
  obtain ⟨bs, r2⟩ := Dp.reads I _ y u dy ry
  refine PySem.W.ge_datum (α := List Int) (x := is) (y := js) ⟨as, r1⟩ ⟨bs, r2⟩ ?_ ⟨.bl _, H, I, rfl, q⟩
  show X.A.units + (0 + 1) < cLine
  omega
end
theorem lt_two (a b c d : Int) : PySem.W.DatumOrd.lt ([a, b] : List Int) [c, d] = decide (a < c ∨ (a = c ∧ b < d)) := by
  show (if a = c then (if b = d then false else decide (b < d)) else decide (a < c)) = _
  by_cases h : a = c
  · rw [if_pos h]
    by_cases h2 : b = d
    · rw [if_pos h2]
      exact (decide_eq_false (by omega)).symm
    · rw [if_neg h2]
      exact decide_eq_decide.mpr (by omega)
  · rw [if_neg h]
    exact decide_eq_decide.mpr (by omega)
/-! ### the law's side: promises -/
def sp_lordered (K : PySem.W.Frag) : Sp := fun vs H Q _ => ∃ (pd : Addr) (kvs : List (Key × V)) (rows : List Row), vs = [.ref pd] ∧ H pd = some (.dK kvs) ∧ Ents K H kvs (entsP rows) ∧ ∀ H' q, Same H H' → H q = none → H' q = some (.lst ((gvR rows).map V.str)) → Q (.ref q) H'
def sp_lplaces (K : PySem.W.Frag) : Sp := fun vs H Q _ => ∃ (m t : Addr) (ms : List Str) (a b : Str), vs = [.ref m, .ref t] ∧ SqL K H m (ms.map V.str) ∧ SqT K H t [.str a, .str b] ∧ a ∈ ms ∧ b ∈ ms ∧ ms.length ≤ 100 ∧
  ∀ H' q, Same H H' → H q = none → H' q = some (.lst [.int (ms.idxOf a : Nat), .int (ms.idxOf b : Nat)]) → Q (.ref q) H'
def sp_ltold24 (K : PySem.W.Frag) (Cst C : Addr) : Sp := fun vs H Q _ => ∃ (v : V) (o : Option PyData), vs = [v] ∧ RV K C H v o ∧
  (∀ t ms ps rows, o = some (.str t) → readR t = some (ms, ps, rows) → ∀ H' q x, Same H H' → H' q = some (.lst [.str "read", .ref x]) → RbAt K Cst C H' x ms (ag ms ps) rows → Q (.ref q) H') ∧
  ((∀ t, o = some (.str t) → readR t = none) → ∀ H' q, Same H H' → H' q = some (.lst [.str "text", v]) → Q (.ref q) H')
def sp_lbent24 : Sp := fun vs H Q _ => ∃ (H0 : Hp) (p : Addr) (n : Nat) (t : Str), vs = [.ref p, .str t] ∧ BoxIn H0 H p n ∧ tOk t ∧ t.length ≤ 90000 ∧ n + 3 < 1000000 ∧
  ∀ (H' : Hp) (u : Str), BoxIn H0 H' p (n + 3) → tOk u → u.length ≤ t.length + 10 → Q (.str u) H'
theorem idx_reads {ms : List Str} {a : Str} (ha : a ∈ ms) : (ms.map V.str)[ms.idxOf a]? = some (.str a) ∧ eqV (.str a) (.str a) = true ∧ ∀ (m : Nat) (z' : V), m < ms.idxOf a → (ms.map V.str)[m]? = some z' → eqV z' (.str a) = false := by
  have hl := List.idxOf_lt_length_iff.mpr ha
  refine ⟨?_, by show (a == a) = true; simp, fun m z' hm hz => ?_⟩
  · rw [List.getElem?_map, List.getElem?_eq_getElem hl, List.getElem_idxOf hl]
    rfl
  · rw [List.getElem?_map] at hz
    obtain ⟨s, hs, rfl⟩ := Option.map_eq_some_iff.mp hz
    obtain ⟨h1, h2⟩ := List.getElem?_eq_some_iff.mp hs
    have := List.not_of_lt_findIdx (p := (· == a)) (xs := ms) (i := m) hm
    rw [h2] at this
    show (s == a) = false
    simpa using this
theorem nl_len : ∀ ps : List (List Nat), ps ≠ [] → (TL.joinL [10] ps).length + 1 = (ps.map List.length).sum + ps.length
  | [], h => absurd rfl h
  | [p], _ => by simp [TL.joinL]
  | p :: q :: r, _ => by
    have ih := nl_len (q :: r) (by simp)
    simp only [TL.joinL, List.map_cons, List.sum_cons, List.length_cons, List.length_append, List.length_nil] at ih ⊢
    omega
theorem join_mem {s : List Nat} {c : Nat} : ∀ {ps : List (List Nat)}, c ∈ TL.joinL s ps → c ∈ s ∨ ∃ p ∈ ps, c ∈ p
  | [], h => (List.not_mem_nil h).elim
  | [p], h => .inr ⟨p, List.mem_cons_self, h⟩
  | p :: q :: r, h => by
    rw [TL.joinL] at h
    rcases List.mem_append.mp h with h | h
    · exact .inr ⟨p, List.mem_cons_self, h⟩
    · rcases List.mem_append.mp h with h | h
      · exact .inl h
      · rcases join_mem h with z | ⟨y, hy, hc⟩
        · exact .inl z
        · exact .inr ⟨y, List.mem_cons_of_mem _ hy, hc⟩
theorem about_ok {t first : Str} {lines : List Str} (ht : tOk t) (ew : Txt.split t "\n" = first :: lines) : tOk (Txt.join "\n" (first :: lines.reverse)) ∧ (Txt.join "\n" (first :: lines.reverse)).length = t.length ∧ ((first :: lines.reverse).map (·.length)).sum + (first :: lines.reverse).length * ("\n" : Str).length ≤ 16777216 := by
  have tlj : ∀ ys : List Str, TL.tl (Txt.join "\n" ys) = TL.joinL [10] (ys.map TL.tl) := fun ys => by rw [TL.join_eq, TL.tl_join, tl_nl]
  have len : ∀ s : Str, s.length = (TL.tl s).length := fun s => by simp [TL.tl, Str.length]
  have pw := (split_ok split_nl ht).1
  rw [ew] at pw
  have back := join_back "\n" t
  rw [ew] at back
  have perm : (first :: lines.reverse).Perm (first :: lines) := (List.reverse_perm lines).cons first
  have l1 := nl_len ((first :: lines.reverse).map TL.tl) (by simp)
  have l2 := nl_len ((first :: lines).map TL.tl) (by simp)
  rw [← tlj, List.length_map] at l1 l2
  rw [back] at l2
  have e1 : (((first :: lines.reverse).map TL.tl).map List.length).sum = (((first :: lines).map TL.tl).map List.length).sum := ((perm.map TL.tl).map List.length).sum_nat
  have e2 := perm.length_eq
  have e3 : (Txt.join "\n" (first :: lines.reverse)).length = t.length := by
    rw [len, len t]
    omega
  have e5 : ((first :: lines.reverse).map (·.length)).sum = (((first :: lines.reverse).map TL.tl).map List.length).sum := by
    rw [List.map_map]
    exact congrArg List.sum (List.map_congr_left fun s _ => len s)
  have e6 : ("\n" : Str).length = 1 := by decide +kernel
  have e7 := ht.1
  refine ⟨⟨by rw [e3]; exact ht.1, ?_⟩, e3, by rw [e5, e6]; rw [← len, e3] at l1; omega⟩
  have sg : ∀ s : Str, tOk s → ∀ c ∈ TL.tl s, c < 0x110000 := fun s hs => by
    rw [← SX.S_tl s] at hs
    exact (tOk_S.mp hs).2
  have all : ∀ c ∈ TL.tl (Txt.join "\n" (first :: lines.reverse)), c < 0x110000 := fun c hc => by
    rw [tlj] at hc
    rcases join_mem hc with z | ⟨y, hy, hz⟩
    · rw [List.mem_singleton.mp z]
      decide
    · obtain ⟨s, hs, rfl⟩ := List.mem_map.mp hy
      exact sg s (pw s (perm.mem_iff.mp hs)) c hz
  have fin : tOk (SX.S (TL.tl (Txt.join "\n" (first :: lines.reverse)))) := tOk_S.mpr ⟨by rw [← len, e3]; exact ht.1, all⟩
  have : SX.S (TL.tl (Txt.join "\n" (first :: lines.reverse))) = Txt.join "\n" (first :: lines.reverse) := SX.S_tl _
  rw [this] at fin
  exact fin.2
def sp_lhead (K : PySem.W.Frag) : Sp := fun vs H Q _ => ∃ t : Str, vs = [.str t] ∧ tOk t ∧ (lawH t = none → ∀ H', Same H H' → Q .non H') ∧
  ∀ ms ps, lawH t = some (ms, ps) → ∀ H' g l1 l2, Same H H' → H' g = some (.lst [.ref l1, .ref l2]) → Model K H' g l1 l2 ms ps → Q (.ref g) H'
theorem lawH_eq {t h : Str} {r : List Str} (eh : Txt.split t ": " = h :: r) : lawH t = if r.length ≤ 1 ∧ okMB (Txt.split h " ") = true then (prsO (Txt.split h " ") (wsR r)).bind fun ps => if prsOf (ag (Txt.split h " ") ps) (Txt.split h " ") = ps then some (Txt.split h " ", ps) else none else none := by
  unfold lawH parseL
  rw [eh]
  by_cases c : okMB (Txt.split h " ") = true
  · match r with
    | [] =>
      show Option.bind (if okMB (Txt.split h " ") = true then _ else _) _ = _
      rw [if_pos c, if_pos ⟨by simp, c⟩]
      rfl
    | [b] =>
      show Option.bind (if okMB (Txt.split h " ") = true then _ else _) _ = _
      rw [if_pos c, if_pos ⟨by simp, c⟩]
      show _ = (prsO (Txt.split h " ") (Txt.split b " ")).bind _
      cases prsO (Txt.split h " ") (Txt.split b " ") <;> rfl
    | b :: d :: e =>
      rw [if_neg fun z => by simp at z]
      rfl
  · rw [if_neg fun z => c z.2]
    match r with
    | [] =>
      show Option.bind (if okMB (Txt.split h " ") = true then _ else _) _ = _
      rw [if_neg c]
      rfl
    | [b] =>
      show Option.bind (if okMB (Txt.split h " ") = true then _ else _) _ = _
      rw [if_neg c]
      rfl
    | b :: d :: e => rfl
theorem head_none {ms ws : List Str} (nd : ms.Nodup) (h : ∀ full, prsO ms ws = some full → ¬ okRise ms full) : ((prsO ms ws).bind fun ps => if prsOf (ag ms ps) ms = ps then some (ms, ps) else none) = none := by
  cases e : prsO ms ws with
  | none => rfl
  | some full =>
    rw [Option.bind_some, if_neg]
    exact fun z => h full e ((okRise_iff nd (prsO_some e).2).mpr z)
theorem rise_snoc {g : Str → Nat} {ps : List Pr} {l n : Pr} (pw : ps.Pairwise (ltG g)) (hl : ps[ps.length - 1]? = some l) (h : ltG g l n) : (ps ++ [n]).Pairwise (ltG g) := by
  refine List.pairwise_append.mpr ⟨pw, List.pairwise_singleton _ _, fun q hq m hm => ?_⟩
  rw [List.mem_singleton] at hm
  subst hm
  obtain ⟨j, hj, e⟩ := List.mem_iff_getElem.mp hq
  obtain ⟨h1, h2⟩ := List.getElem?_eq_some_iff.mp hl
  by_cases c : j = ps.length - 1
  · subst c
    rw [← e, h2]
    exact h
  · have := (List.pairwise_iff_getElem.mp pw) j (ps.length - 1) hj h1 (by omega)
    rw [e, h2] at this
    exact ltG_trans g this h
instance {g : Str → Nat} {p q : Pr} : Decidable (ltG g p q) := by
  unfold ltG
  infer_instance
theorem lt_places (ms : List Str) (p q : Pr) : PySem.W.DatumOrd.lt ([(ms.idxOf p.1 : Nat), (ms.idxOf p.2 : Nat)] : List Int) [(ms.idxOf q.1 : Nat), (ms.idxOf q.2 : Nat)] = decide (ltG ms.idxOf p q) := by
  rw [lt_two]
  refine decide_eq_decide.mpr ?_
  show _ ↔ (ms.idxOf p.1 < ms.idxOf q.1 ∨ (ms.idxOf p.1 = ms.idxOf q.1 ∧ ms.idxOf p.2 < ms.idxOf q.2))
  omega
def M24 (K : PySem.W.Frag) (H : Hp) (g l1 l2 pd : Addr) (ms : List Str) (ps : List Pr) (rows : List Row) : Prop := SqL K H g [.ref l1, .ref l2, .ref pd] ∧ SqL K H l1 (ms.map V.str) ∧ (∃ xs, SqL K H l2 xs ∧ DpAll K H xs (ps.map prD)) ∧ ∃ kvs, H pd = some (.dK kvs) ∧ Ents K H kvs (entsP rows)
def sp_lread24 (K : PySem.W.Frag) : Sp := fun vs H Q _ => ∃ t : Str, vs = [.str t] ∧ tOk t ∧ (lawR t = none → ∀ H', Same H H' → Q .non H') ∧
  ∀ ms ps rows, lawR t = some (ms, ps, rows) → ∀ H' g l1 l2 pd, Same H H' → M24 K H' g l1 l2 pd ms ps rows → Q (.ref g) H'
theorem findR_has (rows : List Row) (k : Str) : (findR rows k).isSome = decide (k ∈ rows.map (·.1)) := by
  rw [Bool.eq_iff_iff, decide_eq_true_iff]
  constructor
  · intro h
    obtain ⟨p, e⟩ := Option.isSome_iff_exists.mp h
    exact List.mem_map.mpr ⟨_, findR_mem e, rfl⟩
  · intro h
    obtain ⟨r, hr, e⟩ := List.mem_map.mp h
    unfold findR
    cases f : rows.find? fun r => decide (r.1 = k) with
    | some q => rfl
    | none => exact absurd (decide_eq_true e) (List.find?_eq_none.mp f r hr)
def badS (ms : List Str) (ss : List Str) : Bool := decide (ss.headD "" = "lock") && !decide (ss.getD 2 "" ∈ ms)
theorem badS_none (ms : List Str) (sss : List (List Str)) : (sss.filter (badS ms)).isEmpty = lockOk ms sss := by
  unfold lockOk
  rw [Bool.eq_iff_iff, List.isEmpty_iff, List.filter_eq_nil_iff, List.all_eq_true]
  have e : ∀ ss, (¬ badS ms ss = true) ↔ (!decide (ss.headD "" = "lock") || decide (ss.getD 2 "" ∈ ms)) = true := fun ss => by
    unfold badS
    cases decide (ss.headD "" = "lock") <;> cases decide (ss.getD 2 "" ∈ ms) <;> simp
  exact ⟨fun h ss hs => (e ss).mp (h ss hs), fun h ss hs => (e ss).mpr (h ss hs)⟩
theorem lawRows_one {ms : List Str} {acc : List Row} {l : Str} {ls : List Str} {r : Row} (e : lineL l = some r) : lawRows ms acc (l :: ls) = if r.1 ∈ acc.map (·.1) ∨ r.1 ∉ kindsL ∨ rowOk ms r = false then none else lawRows ms (acc ++ [r]) ls := by
  conv => lhs; unfold lawRows
  rw [e, Option.bind_some]
theorem lawRows_bad {ms : List Str} {acc : List Row} {l : Str} {ls : List Str} (e : lineL l = none) : lawRows ms acc (l :: ls) = none := by
  conv => lhs; unfold lawRows
  rw [e]
  rfl
theorem lineL_two {l : Str} (h : (Txt.split l ": ").length ≠ 2) : lineL l = none := by
  unfold lineL
  split
  · rename_i k w e
    rw [e] at h
    exact absurd rfl h
  · rfl
theorem entsP_keys {K : PySem.W.Frag} {H : Hp} : ∀ {rows : List Row} {kvs : List (Key × V)}, Ents K H kvs (entsP rows) → kvs.map (fun kv => kV kv.1) = (rows.map (·.1)).map V.str
  | [], _, h => by
    cases h
    rfl
  | r :: rows, _, h => by
    cases h with
    | cons a b c =>
      rw [List.map_cons, List.map_cons, List.map_cons, entsP_keys (rows := rows) c]
      rfl
theorem kindsS_shaped {ss : List Str} (h : ∀ s ∈ ss, s ∈ kindsL) : SeqAt.shaped (strsL ss) = true := shaped_list (n := 0) (by decide) fun d hd => by
  obtain ⟨s, hs, rfl⟩ := List.mem_map.mp hd
  exact ⟨kinds_tok (h s hs), by simp [PyData.depth]⟩
def sp_ltext24 (K : PySem.W.Frag) : Sp := fun vs H Q _ => ∃ (g l1 l2 pd : Addr) (ms : List Str) (ps : List Pr) (rows : List Row), vs = [.ref g] ∧ M24 K H g l1 l2 pd ms ps rows ∧ (∀ s ∈ ms, nameS s = true) ∧ (1 ≤ ms.length ∧ ms.length ≤ 8) ∧ (∀ p ∈ ps, p.1 ∈ ms ∧ p.2 ∈ ms) ∧ ps.length ≤ 40 ∧
  (∀ r ∈ rows, r.1 ∈ kindsL ∧ rowOk ms r = true) ∧ ∀ H', Same H H' → Q (.str (textR ms ps (canon rows))) H'
theorem join_snoc (a : Str) : ∀ (x : Str) (xs : List Str) (y : Str), Txt.join a ((x :: xs) ++ [y]) = (Txt.join a (x :: xs) ++ a) ++ y := by
  intro x xs y
  refine TL.ext_tl ?_
  rw [TL.tl_append, TL.tl_append, TL.join_eq, TL.tl_join, TL.join_eq, TL.tl_join]
  induction xs generalizing x with
  | nil => simp [TL.joinL]
  | cons z r ih =>
    have := ih z
    simp only [List.map_cons, List.map_append, List.cons_append, List.map_nil, TL.joinL] at this ⊢
    rw [this]
    simp
theorem canon_at {rows : List Row} {i : Nat} {k : Str} (h : (gvR rows)[i]? = some k) : ∃ r, (canon rows)[i]? = some r ∧ r.1 = k ∧ findR rows r.1 = some r.2 ∧ r ∈ rows := by
  have e : gvR rows = (canon rows).map (·.1) := (canon_keys rows).symm
  rw [e, List.getElem?_map] at h
  obtain ⟨r, hr, rfl⟩ := Option.map_eq_some_iff.mp h
  have hm := canon_mem (List.mem_of_getElem? hr)
  exact ⟨r, hr, rfl, hm.2, findR_mem hm.2⟩
theorem line_len {r : Row} (sh : shortR r) : (lineT r).length ≤ 600 := by
  obtain ⟨q1, q2, q3⟩ := sh
  have tl := progT_len q2 q3
  have z2 : (": " : Str).length = 2 := by decide +kernel
  unfold lineT
  rw [emp_app, Str.length_append, Str.length_append]
  omega
theorem text_len {x : Str} {rs : List Row} (hx : x.length ≤ 900) (hr : rs.length ≤ 8) (sh : ∀ r ∈ rs, shortR r) : (Txt.join "\n" (x :: rs.map lineT)).length ≤ 9000 := by
  have hj : ∀ y ∈ x :: rs.map lineT, y.length ≤ 900 := fun y hy => by
    rcases List.mem_cons.mp hy with rfl | hy
    · exact hx
    · obtain ⟨r, hr, rfl⟩ := List.mem_map.mp hy
      exact Nat.le_trans (line_len (sh r hr)) (by decide)
  have h3 := join_le (a := ("\n" : Str)) hj (m := 9) (by rw [List.length_cons, List.length_map]; omega) (by decide +kernel)
  have h4 := join_len ("\n" : Str) (x :: rs.map lineT)
  omega
def stdMs : List Str := ["read", "write", "share", "alone"]
def stdPs : List Pr := [("read", "alone"), ("write", "share"), ("write", "alone"), ("share", "alone"), ("alone", "alone")]
def sp_std (K : PySem.W.Frag) (C : Addr) : Sp := fun vs H Q _ => vs = [] ∧ ∀ H' x, Same H H' → StrAt K C H' x stdMs (ag stdMs stdPs) → Q (.ref x) H'
/-! ### protocols drawn -/
def drawR (ms : List Str) (r : Row) : Prop := r.1 ∈ kindsL ∧ progS r.1 r.2 = true ∧ ∀ ss ∈ r.2, drawS ms ss
def sp_lprograms24 (K : PySem.W.Frag) : Sp := fun vs H Q _ => ∃ (H0 : Hp) (p m : Addr) (n : Nat) (ms : List Str), vs = [.ref p, .ref m] ∧ BoxIn H0 H p n ∧ H0 m = some (.lst (ms.map V.str)) ∧ 0 < ms.length ∧ ms.length ≤ 100 ∧ (∀ s ∈ ms, sOk 16 s) ∧ n + 2000 < 1000000 ∧
  ∀ (H1 H' : Hp) (d : Addr) (kvs : List (Key × V)) (rows : List Row), Same H0 H1 → BoxIn H1 H' p (n + 2000) → H1 d = some (.dK kvs) → Ents K H1 kvs (entsP rows) → (rows.map (·.1)).Nodup → (∀ r ∈ rows, drawR ms r) → Q (.ref d) H'
/-- a dict beside what is known becomes known -/
theorem BoxIn.with_ {G H : Hp} {p d : Addr} {n : Nat} {kvs : List (Key × V)} (b : BoxIn G H p n) (hd : H d = some (.dK kvs)) (hg : G d = none) : BoxIn (upd G d (.dK kvs)) H p n ∧ Same G (upd G d (.dK kvs)) ∧ d ≠ p := by
  obtain ⟨x, s', c, h1, h⟩ := b.box
  have np : d ≠ p := fun z => by
    rw [z, h1] at hd
    cases hd
  refine ⟨⟨fun y u e => ?_, by rw [upd_ne np.symm]; exact b.free, b.box⟩, fun y u e => ?_, np⟩
  · by_cases hy : y = d
    · rw [hy, upd_same] at e
      rw [hy, hd]
      exact e
    · rw [upd_ne hy] at e
      exact b.same _ _ e
  · rw [upd_ne (ne_of_none e hg)]
    exact e
theorem nd_less {G : Hp} {d : Addr} {kvs : List (Key × V)} (h : G d = some (.dK kvs)) : ND G (but G d) := fun b o e z => by
  rw [but_ne]
  · exact e
  · rintro rfl
    rw [h] at e
    cases e
    cases z
theorem drawR_row {ms : List Str} {r : Row} (h : drawR ms r) : r.1 ∈ kindsL ∧ rowOk ms r = true := by
  refine ⟨h.1, ?_⟩
  unfold rowOk lockOk
  rw [h.2.1, Bool.true_and, List.all_eq_true]
  intro ss hs
  by_cases e : ss.headD "" = "lock"
  · rw [decide_eq_true ((h.2.2 ss hs).2 e), Bool.or_true]
  · rw [decide_eq_false e]
    rfl
theorem drawR_good {ms : List Str} {r : Row} (h : drawR ms r) : goodR r := by
  refine ⟨⟨?_, ?_⟩, ?_, fun ss hs => ?_⟩
  · exact Nat.le_trans (kinds_len _ h.1) (by decide)
  · have := kinds_tok h.1
    simpa only [PyData.canLay0] using this
  · exact Nat.le_trans (progS_len h.2.1).2 (by decide)
  · obtain ⟨g1, g2⟩ := (h.2.2 ss hs).1
    exact ⟨Nat.le_trans g1 (by decide), fun s hs => ⟨Nat.le_trans (g2 s hs).1 (by decide), (g2 s hs).2⟩⟩
theorem rows_ok {ms : List Str} {rows : List Row} (h : ∀ r ∈ rows, r.1 ∈ kindsL ∧ rowOk ms r = true) : rbOk ms rows = true := by
  unfold rbOk
  refine List.all_eq_true.mpr fun r hr => ?_
  rw [decide_eq_true (h r hr).1, (h r hr).2]
  rfl
theorem findD_hit : ∀ {l : List (Key × PyData)}, (l.map (·.1)).Nodup → ∀ p ∈ l, findD l p.1 = some p.2
  | [], _, p, h => (List.not_mem_nil h).elim
  | x :: l, nd, p, h => by
    have nd' := List.nodup_cons.mp (show (x.1 :: l.map (·.1)).Nodup from nd)
    show (if x.1 = p.1 then some x.2 else findD l p.1) = _
    rcases List.mem_cons.mp h with rfl | hp
    · exact if_pos rfl
    · have ne : ¬ x.1 = p.1 := fun z => nd'.1 (by rw [z]; exact List.mem_map.mpr ⟨p, hp, rfl⟩)
      exact (if_neg ne).trans (findD_hit nd'.2 p hp)
theorem entsP_refl {rows : List Row} (nd : (rows.map (·.1)).Nodup) (gd : ∀ r ∈ rows, goodR r) : entsEq (entsP rows) (entsP rows) = true := by
  unfold entsEq
  refine List.all_eq_true.mpr fun p hp => ?_
  have nd2 : ((entsP rows).map (·.1)).Nodup := by
    unfold entsP
    rw [List.map_map]
    unfold List.Nodup at nd ⊢
    rw [List.pairwise_map] at nd ⊢
    exact nd.imp fun h e => h (Sum.inr.inj e)
  rw [findD_hit nd2 p hp]
  obtain ⟨r, hr, rfl⟩ := List.mem_map.mp hp
  exact SeqAt.eqv_refl _ (shaped_iff.mp (prg_shaped (gd r hr))).1
/-- protocols made where nothing is wrong -/
theorem rmade_ok {K : PySem.W.Frag} {Cst C : Addr} {Cs : Addr × Addr × Addr} {H : Hp} {x dx a pd : Addr} {kvs : List (Key × V)} {rows : List Row} {ms : List Str} {f : Str → List Str} {Q : VK} {E : XK} (hx : H x = none) (hdx : H dx = none) (st : StrAt K Cst H a ms f) (hp : H pd = some (.dK kvs)) (en : Ents K H kvs (entsP rows)) (gd : ∀ r ∈ rows, goodR r) (nd : (rows.map (·.1)).Nodup) (ok : rbOk ms rows = true)
    (k : ∀ H', Same H H' → RbAt K Cst C H' x ms f (canon rows) → Q .non H') : sp_rinit K Cst C Cs [.ref x, .ref a, .ref pd] (upd (upd H dx (.own x)) x (.ins C dx [])) Q E := by
  have sH : Same H (upd (upd H dx (.own x)) x (.ins C dx [])) := fun b u e => by
    rw [upd_ne (ne_of_none e hx), upd_ne (ne_of_none e hdx)]
    exact e
  have sB : Same H (but (upd (upd H dx (.own x)) x (.ins C dx [])) x) := fun b u e => by
    rw [but_ne (ne_of_none e hx)]
    exact sH _ _ e
  exact ⟨x, dx, a, pd, kvs, rows, ms, f, rfl, upd_same, st.mono sB, sH _ _ hp, en.mono sB, gd, nd, (fun z => by rw [ok] at z; cases z), fun _ H' hk rb => k H' (fun b u e => hk b u (sH _ _ e) (ne_of_none e hx)) rb⟩
theorem eqI_rb {K : PySem.W.Frag} {Cst C : Addr} {H : Hp} {x z : Addr} {ms ms2 : List Str} {f f2 : Str → List Str} {rows rows2 : List Row} {Q : VK} {E : XK} (ic : C8.InsC K C) (rx : RbAt K Cst C H x ms f rows) (rz : RbAt K Cst C H z ms2 f2 rows2) (hn : ∀ s ∈ ms, nameS s = true) (hn2 : ∀ s ∈ ms2, nameS s = true) (q : Q (.bl (eqStr ms f ms2 f2 && ((rows.length == rows2.length) && entsEq (entsP rows) (entsP rows2)))) H) : rEqI K C (sp_rbeq K Cst C) E (.ref x) (.ref z) H Q := by
  obtain ⟨dx, a, d, kvs, h1, _⟩ := id rx
  obtain ⟨dz, a2, d2, kvs2, g1, _⟩ := id rz
  exact ⟨x, dx, _, .ref C, rfl, h1, .base (.ins g1 ic.cl ic.ha ic.hn ic.htk ic.hm), by simp [PySem.W.notFirst], x, z, ms, ms2, f, f2, rows, rows2, rfl, rx, rz, hn, hn2, q⟩
theorem rb_same {ms : List Str} {f : Str → List Str} {rows : List Row} (nd : (rows.map (·.1)).Nodup) (gd : ∀ r ∈ rows, goodR r) : (eqStr ms f ms f && ((rows.length == rows.length) && entsEq (entsP rows) (entsP rows))) = true := by
  rw [eqStr_of fun _ _ => rfl, entsP_refl nd gd]
  simp
/-- the pairs that are drawn rise by their places -/
def pairsL (a b c : Str) : List (List Pr) := [[(a, b)], [], [(a, a), (b, c)], [(c, c)]]
theorem pairs_rise {a b c : Str} (nd : [a, b, c].Nodup) : ∀ ps ∈ pairsL a b c, prsOf (ag [a, b, c] ps) [a, b, c] = ps ∧ (∀ p ∈ ps, p.1 ∈ [a, b, c] ∧ p.2 ∈ [a, b, c]) ∧ ps.length ≤ 2 := by
  have n := List.nodup_cons.mp nd
  have n2 := List.nodup_cons.mp n.2
  have ab : ¬ a = b := fun z => n.1 (by rw [z]; simp)
  have ac : ¬ a = c := fun z => n.1 (by rw [z]; simp)
  have bc : ¬ b = c := fun z => n2.1 (by rw [z]; simp)
  have i0 : [a, b, c].idxOf a = 0 := by simp [List.idxOf_cons]
  have i1 : [a, b, c].idxOf b = 1 := by simp [List.idxOf_cons, ab, beq_eq_false_iff_ne.mpr ab]
  have i2 : [a, b, c].idxOf c = 2 := by simp [List.idxOf_cons, beq_eq_false_iff_ne.mpr ac, beq_eq_false_iff_ne.mpr bc]
  have ma : a ∈ [a, b, c] := by simp
  have mb : b ∈ [a, b, c] := by simp
  have mc : c ∈ [a, b, c] := by simp
  intro ps h
  have hp : ∀ p ∈ ps, p.1 ∈ [a, b, c] ∧ p.2 ∈ [a, b, c] := by
    unfold pairsL at h
    simp only [List.mem_cons, List.not_mem_nil, or_false] at h
    intro p hp
    rcases h with rfl | rfl | rfl | rfl <;> simp only [List.mem_cons, List.not_mem_nil, or_false] at hp
    · subst hp; exact ⟨ma, mb⟩
    · rcases hp with rfl | rfl
      · exact ⟨ma, ma⟩
      · exact ⟨mb, mc⟩
    · subst hp; exact ⟨mc, mc⟩
  refine ⟨(okRise_iff nd hp).mp ?_, hp, ?_⟩
  · unfold okRise
    unfold pairsL at h
    simp only [List.mem_cons, List.not_mem_nil, or_false] at h
    rcases h with rfl | rfl | rfl | rfl
    · refine ⟨fun p hp => ?_, List.pairwise_singleton _ _⟩
      rw [List.mem_singleton.mp hp, i0, i1]
      decide
    · exact ⟨fun p hp => (List.not_mem_nil hp).elim, List.Pairwise.nil⟩
    · refine ⟨fun p hp => ?_, List.pairwise_cons.mpr ⟨fun q hq => ?_, List.pairwise_singleton _ _⟩⟩
      · simp only [List.mem_cons, List.not_mem_nil, or_false] at hp
        rcases hp with rfl | rfl
        · exact Nat.le_refl _
        · show [a, b, c].idxOf b ≤ [a, b, c].idxOf c
          rw [i1, i2]
          decide
      · rw [List.mem_singleton.mp hq]
        refine .inl ?_
        show [a, b, c].idxOf a < [a, b, c].idxOf b
        rw [i0, i1]
        decide
    · refine ⟨fun p hp => ?_, List.pairwise_singleton _ _⟩
      rw [List.mem_singleton.mp hp]
      exact Nat.le_refl _
  · unfold pairsL at h
    simp only [List.mem_cons, List.not_mem_nil, or_false] at h
    rcases h with rfl | rfl | rfl | rfl <;> simp
theorem M24.mono {K : PySem.W.Frag} {H H' : Hp} {g l1 l2 pd : Addr} {ms : List Str} {ps : List Pr} {rows : List Row} (s : Same H H') (h : M24 K H g l1 l2 pd ms ps rows) : M24 K H' g l1 l2 pd ms ps rows := by
  obtain ⟨a, b, ⟨xs, c, e⟩, kvs, f, h⟩ := h
  exact ⟨s.seq a, s.seq b, ⟨xs, s.seq c, dpAll_mono s e⟩, kvs, s _ _ f, h.mono s⟩
theorem big_sign {c : Nat} (h : ¬ c < 0x110000) : okSign c = false := by
  unfold okSign
  have : ([122] : List Nat) < [c] := by
    rw [List.cons_lt_cons_iff]
    exact .inl (by omega)
  rw [decide_eq_true this]
  simp
theorem text_tok {ms : List Str} {ps : List Pr} {rows : List Row} (hn : ∀ s ∈ ms, nameS s = true) (m8 : 1 ≤ ms.length ∧ ms.length ≤ 8) (pm : ∀ p ∈ ps, p.1 ∈ ms ∧ p.2 ∈ ms) (pl : ps.length ≤ 40) (hR : ∀ r ∈ rows, r.1 ∈ kindsL ∧ rowOk ms r = true) (l8 : rows.length ≤ 8) : tOk (textR ms ps rows) ∧ (textR ms ps rows).length ≤ 9000 := by
  obtain ⟨tok, t9⟩ := told_len hn m8.2 m8.1 pm pl
  have len := text_len t9 l8 fun r hr => row_short (hR r hr).1 (hR r hr).2
  refine ⟨⟨Nat.le_trans len (by decide), strOk_iff.mpr fun c hc => Classical.byContradiction fun z => ?_⟩, len⟩
  have hs := big_sign z
  refine join_free (c := c) (a := "\n") (by rw [tl_nl]; intro q; rw [List.mem_singleton.mp q] at z; exact z (by decide)) (ys := textM ms ps :: rows.map lineT) (fun y hy => ?_) hc
  rcases List.mem_cons.mp hy with rfl | hy
  · exact fun q => z (strOk_iff.mp tok.2 c q)
  · obtain ⟨r, hr, rfl⟩ := List.mem_map.mp hy
    obtain ⟨h1, h2⟩ := hR r hr
    unfold rowOk at h2
    rw [Bool.and_eq_true] at h2
    rw [lineT_join]
    refine join_free (by rw [tl_sep]; intro q; simp only [List.mem_cons, List.not_mem_nil, or_false] at q; omega) fun y hy => ?_
    rcases List.mem_cons.mp hy with rfl | hy
    · exact free_of (kind_let _ h1) hs
    · rw [List.mem_singleton] at hy
      subst hy
      exact progT_free h2.1 hs (by omega) (by omega)
theorem row_good {ms : List Str} {r : Row} (hk : r.1 ∈ kindsL) (h : rowOk ms r = true) : goodR r := by
  obtain ⟨s1, s2, s3⟩ := row_short hk h
  unfold rowOk at h
  rw [Bool.and_eq_true] at h
  refine ⟨⟨Nat.le_trans s1 (by decide), ?_⟩, Nat.le_trans s2 (by decide), fun ss hs => ⟨Nat.le_trans (s3 ss hs).1 (by decide), fun s hm => ⟨Nat.le_trans ((s3 ss hs).2 s hm) (by decide), strOk_iff.mpr fun c hc => Classical.byContradiction fun z => ?_⟩⟩⟩
  · have := kinds_tok hk
    simpa only [PyData.canLay0] using this
  · exact word_free (prog_step h.1 hs) (big_sign z) s hm hc
theorem readR_facts {t : Str} {ms : List Str} {ps : List Pr} {rows : List Row} (h : readR t = some (ms, ps, rows)) : okMB ms = true ∧ (1 ≤ ms.length ∧ ms.length ≤ 8) ∧ prsOf (ag ms ps) ms = ps ∧ (rows.map (·.1)).Nodup ∧ (∀ r ∈ rows, r.1 ∈ kindsL ∧ rowOk ms r = true) ∧ textR ms ps rows = t ∧ canon rows = rows := by
  unfold readR at h
  cases e2 : progR t with
  | none => rw [e2] at h; cases h
  | some m2 =>
    obtain ⟨ms', ps', rows'⟩ := m2
    rw [e2, Option.bind_some] at h
    split at h
    · rename_i et
      obtain ⟨h1, h2, h3⟩ : ms' = ms ∧ ps' = ps ∧ rows' = rows := by
        cases h
        exact ⟨rfl, rfl, rfl⟩
      subst h1 h2 h3
      obtain ⟨⟨ok, l1⟩, hv, nd⟩ := progR_ok e2
      obtain ⟨c, ek⟩ := progR_more e2
      have et : textR ms' (prsOf (ag ms' ps') ms') rows' = t := et
      rw [c] at et
      exact ⟨ok, ⟨l1, okM_len ok⟩, c, nd, hv, et, canon_same nd ek⟩
    · cases h
theorem BoxIn.withI {G H : Hp} {p d : Addr} {n : Nat} {C dx : Addr} {fs : List (Str × V)} (b : BoxIn G H p n) (hd : H d = some (.ins C dx fs)) (hg : G d = none) : BoxIn (upd G d (.ins C dx fs)) H p n ∧ Same G (upd G d (.ins C dx fs)) := by
  obtain ⟨x, s', c, h1, h⟩ := b.box
  have np : d ≠ p := fun z => by
    rw [z, h1] at hd
    cases hd
  refine ⟨⟨fun y u e => ?_, by rw [upd_ne np.symm]; exact b.free, b.box⟩, fun y u e => ?_⟩
  · by_cases hy : y = d
    · rw [hy, upd_same] at e
      rw [hy, hd]
      exact e
    · rw [upd_ne hy] at e
      exact b.same _ _ e
  · rw [upd_ne (ne_of_none e hg)]
    exact e
theorem odd24 : readR "" = none ∧ readR "put: end" = none ∧ readR "a\n" = none ∧ readR "a\nput: look, put, end\n" = none := by decide +kernel
/-! ### what the end wants of defs -/
theorem funOfD {K : PySem.W.Frag} {x qual : Str} {st : Stmt} {kws : List (Str × V)} {f : Addr} {fd : FuncData} (F : FunD K x qual (defArgs st) (defBody st) (defScope st) [] kws f fd) : Fun K x qual st f fd := by
  obtain ⟨oc, od, dV, kV, doc, pm, an, cdv, ct, osl, h1, h2, h3, h4, _⟩ := F.ex
  rcases h4 with ⟨_, rfl⟩ | ⟨e, _⟩
  · exact ⟨⟨oc, od, kV, doc, pm, an, cdv, ct, osl, h1, h2, h3⟩, F.kp⟩
  · exact absurd rfl e
theorem kwB_of {K : PySem.W.Frag} {x qual : Str} {st : Stmt} {f : Addr} {fd : FuncData} {ps ks : List Str} {n : Nat} {g : {α : Type} → List α → List α → List α} (F : Fun K x qual st f fd)
    (h : ∀ (kV doc pm : Value) (an : Option Addr) (cdv ct : Value) (us ws : List Value), us.length = n → ws.length = ks.length → bindArgs (PySem.W.fnOf x qual (defArgs st) (defBody st) (defScope st) .none kV doc pm an cdv ct) ⟨us, ks.zip ws⟩ = pure (ps.zip (g us ws)))
    (rel : ∀ {vs : List V} {us : List Value} {zs : List V} {ws : List Value}, vs.length = n → zs.length = ks.length → Vals vs us → Vals zs ws → Vals (g vs zs) (g us ws)) : KwB K fd ps n ks g := by
  obtain ⟨oc, od, kV, doc, pm, an, cdv, ct, osl, rfl, lk, hcd⟩ := F.ex
  exact ⟨h kV doc pm an cdv ct, rel⟩
section
variable {P : Program} {w : World} {K : PySem.W.Frag} {mg : Str → Option Value} {base : Heap}
theorem ok_law_cell (T : Txt K mg w) : FnOk P w K mg base CX0 1 T.f_law_cell T.fd_law_cell ["_law_script", "_law_k"] (sp_law_cell K) := by
  refine T.F_law_cell.ok sc_law_cell (fun vs H Q E h => ?_) (fun cdv A outer s H vs Q E hr h => ?_)
  · obtain ⟨a, ns, k, rfl, _⟩ := h
    rfl
  · obtain ⟨a, ns, k, rfl, hS, hk, kq⟩ := h
    refine ⟨_, (pss_cons (ps_if (pt_cmpR op_lt (pv 1) (pe_callB (id := "len") call_len_seq (by rfl) T.z_len (by decide +kernel) (pa_cons (pv 0) pa_nil)) (nomark _)) (pss_one (ps_ret (pe_ix ix_list (pv 0) (pv 1) (fun _ _ => rfl)))) pss_nil)
        (pss_one (ps_ret (pe_op op_add (pe_op op_mul pe_int (pv 1)) pe_int)))), ?_⟩
    refine ⟨_, rfl, _, rfl, a, _, rfl, .inl hS, _, _, rfl, rfl, _, rfl, ?_⟩
    refine ite2 (fun c => ?_) (fun c => ?_)
    · have c' := of_decide_eq_true c
      rw [List.length_map] at c'
      obtain ⟨j, rfl⟩ := Int.eq_ofNat_of_zero_le hk
      have hj : j < ns.length := by omega
      refine ⟨_, rfl, _, rfl, a, _, _, .int ns[j], rfl, rfl, hS, atI_nat (by rw [List.getElem?_map, List.getElem?_eq_getElem hj]; rfl), kq _⟩
    · refine ⟨_, rfl, _, _, rfl, rfl, .inl ⟨by decide, by decide⟩, _, _, rfl, rfl, kq _⟩
theorem ok_law_box (T : Txt K mg w) : FnOk P w K mg base CX0 1 T.f_law_box T.fd_law_box ["_law_cell_here"] sp_law_box := by
  refine T.F_law_box.ok sc_law_box (fun vs H Q E h => ?_) (fun cdv A outer s H vs Q E hr h => ?_)
  · obtain ⟨z, rfl, _⟩ := h
    rfl
  · obtain ⟨z, rfl, k⟩ := h
    refine ⟨_, (pss_one (ps_ret (pe_lst (pa_cons (pe_callB (id := "max") (call_max2 rfl) (by rfl) T.z_max (by decide +kernel) (pa_cons pe_int (pa_cons (pe_op op_sub (pv 0) (pe_op op_pow pe_int pe_int)) pa_nil))) (pa_cons (pe_op op_mod (pv 0) pe_int) (pa_cons pe_int pa_nil)))))), ?_⟩
    refine ⟨_, rfl, _, _, rfl, rfl, ⟨by decide, by decide, by decide⟩, _, _, rfl, rfl, _, _, rfl, ?_⟩
    refine ⟨_, rfl, _, _, rfl, rfl, (by show (0 : Int) < 2147483629; decide), (by show 3 ≤ sizeLine; decide), fun p hp => ?_⟩
    refine k p _ hp ⟨_, _, _, upd_same, ?_, Int.emod_nonneg _ (by decide), Int.emod_lt_of_pos _ (by decide), by decide, by decide⟩
    by_cases c : z - 10 ^ (18 : Int).toNat > 0
    · rw [if_pos c]
      omega
    · rw [if_neg c]
      exact Int.le_refl _
theorem ok_law_take (T : Txt K mg w) : FnOk P w K mg base CX0 1 T.f_law_take T.fd_law_take ["_law_box_here", "_law_many"] sp_law_take := by
  refine T.F_law_take.ok sc_law_take (fun vs H Q E h => ?_) (fun cdv A outer s H vs Q E hr h => ?_)
  · obtain ⟨H0, p, n, m, rfl, _⟩ := h
    rfl
  · obtain ⟨H0, p, n, m, rfl, B, hn, hm, hm2, k⟩ := h
    obtain ⟨d, s, c, hp, hd, hs, hs2, hc, hc2⟩ := B.box
    have hL : SqL K H p [.int d, .int s, .int c] := SqL.of hp
    have nx : ∀ (d' c' : Int), 0 ≤ d' → 0 ≤ c' → c' ≤ c + 1 → BoxIn H0 (upd H p (.lst [.int d', .int s, .int c'])) p (n + 1) := fun d' c' h1 h2 h3 =>
      ⟨fun x u e => by rw [upd_ne (ne_of_none e B.free)]; exact B.same _ _ e, B.free, d', s, c', upd_same, h1, hs, hs2, h2, by omega⟩
    refine ⟨_, (pss_cons (ps_if (pt_cmpR op_gt (pe_ix ix_list (pv 0) pe_int (fun _ _ => rfl)) pe_int (nomark _)) (pss_cons (ps_set (i := 2) sc_law_take.nd rfl (Or.inl rfl) (pe_op op_mod (pe_ix ix_list (pv 0) pe_int (fun _ _ => rfl)) (pv 1)))
        (pss_cons (ps_asg (pe_op op_fdiv (pe_ix ix_list (pv 0) pe_int (fun _ _ => rfl)) (pv 1)) (pg_sub (pv 0) pe_int set_list))
        (pss_one (ps_ret (pv 2))))) pss_nil)
        (pss_cons (ps_asg (pe_op op_add (pe_ix ix_list (pv 0) pe_int (fun _ _ => rfl)) pe_int) (pg_sub (pv 0) pe_int set_list))
        (pss_cons (ps_set (i := 3) sc_law_take.nd rfl (Or.inl rfl) (pe_op op_mod (pe_op op_pow (pe_op op_add (pe_op op_add (pe_ix ix_list (pv 0) pe_int (fun _ _ => rfl)) (pe_op op_mul pe_int (pe_ix ix_list (pv 0) pe_int (fun _ _ => rfl)))) pe_int) pe_int) pe_int))
        (pss_cons (ps_set (i := 3) sc_law_take.nd rfl (Or.inl rfl) (pe_op op_mod (pe_op op_pow (pe_op op_add (pv 3) (pe_op op_mul pe_int (pe_ix ix_list (pv 0) pe_int (fun _ _ => rfl)))) pe_int) pe_int))
        (pss_one (ps_ret (pe_op op_mod (pe_op op_fdiv (pv 3) pe_int) (pv 1)))))))), ?_⟩
    refine ⟨_, rfl, p, _, _, _, rfl, rfl, hL, atI_nat (j := 0) rfl, _, _, rfl, rfl, _, rfl, ?_⟩
    refine ite2 (fun c0 => ?_) (fun c0 => ?_)
    · have c0' := of_decide_eq_true c0
      refine ⟨_, rfl, p, _, _, _, rfl, rfl, hL, atI_nat (j := 0) rfl, _, rfl, _, _, rfl, rfl, hm, ?_⟩
      refine ⟨_, rfl, p, _, _, _, rfl, rfl, hL, atI_nat (j := 0) rfl, _, rfl, _, _, rfl, rfl, ⟨hm, by omega⟩, ?_⟩
      refine ⟨_, rfl, p, _, _, 0, rfl, rfl, hp, rfl, ?_⟩
      refine ⟨_, rfl, k _ _ (Int.emod_nonneg _ (by omega)) (Int.emod_lt_of_pos _ hm) (nx _ _ (Int.ediv_nonneg hd (by omega)) hc (by omega))⟩
    · refine ⟨_, rfl, p, _, _, _, rfl, rfl, hL, atI_nat (j := 2) rfl, _, _, rfl, rfl, ?_⟩
      refine ⟨_, rfl, p, _, _, 2, rfl, rfl, hp, rfl, ?_⟩
      have hL' : SqL K (upd H p (.lst [.int d, .int s, .int (c + 1)])) p [.int d, .int s, .int (c + 1)] := SqL.of upd_same
      refine ⟨_, rfl, p, _, _, _, rfl, rfl, hL', atI_nat (j := 1) rfl, _, rfl, p, _, _, _, rfl, rfl, hL', atI_nat (j := 2) rfl, _, _, rfl, rfl, .inl ⟨by decide, by decide⟩, _, _, rfl, rfl, _, _, rfl, rfl, _, _, rfl, rfl, ⟨by decide, by decide, by omega⟩, _, _, rfl, rfl, (by show (0 : Int) < 2147483647; decide), ?_⟩
      have h1 := Int.emod_nonneg ((s + 7919 * (c + 1) + 43) ^ (5 : Int).toNat) (show (2147483647 : Int) ≠ 0 by decide)
      have h2 := Int.emod_lt_of_pos ((s + 7919 * (c + 1) + 43) ^ (5 : Int).toNat) (show (0 : Int) < 2147483647 by decide)
      refine ⟨_, rfl, _, rfl, p, _, _, _, rfl, rfl, hL', atI_nat (j := 2) rfl, _, _, rfl, rfl, .inl ⟨by decide, by decide⟩, _, _, rfl, rfl, _, _, rfl, rfl, ⟨by decide, by decide, by omega⟩, _, _, rfl, rfl, (by show (0 : Int) < 2147483587; decide), ?_⟩
      refine ⟨_, rfl, _, _, rfl, rfl, ⟨by decide, by decide⟩, _, rfl, _, _, rfl, rfl, hm, ?_⟩
      exact k _ _ (Int.emod_nonneg _ (by omega)) (Int.emod_lt_of_pos _ hm) (nx _ _ hd (by omega) (by omega))
theorem ok_law_mixed (T : Txt K mg w) : FnOk P w K mg base CX0 2 T.f_law_mixed T.fd_law_mixed ["_law_box_here", "_law_some"] sp_mixed := by
  refine T.F_law_mixed.ok sc_law_mixed (fun vs H Q E h => ?_) (fun cdv A outer s H vs Q E hr h => ?_)
  · obtain ⟨H0, p, l, n, xs, rfl, _⟩ := h
    rfl
  · obtain ⟨H0, p, l, n, xs, rfl, B, hl, hz, hn, k⟩ := h
    refine ⟨_, (pss_cons (ps_set (i := 2) sc_law_mixed.nd rfl (Or.inr rfl) (pe_callTy (T := "list") call_list_of (by rfl) T.z_list (by decide +kernel) (pa_cons (pv 1) pa_nil)))
        (pss_one (ps_ret (pe_lc (own := [("_law_k", 3)]) (g := gName 3) (tt := tYes) rfl sc_law_mixed.nd (pi_range1 rfl T.z_range (pa_cons (pe_callB (id := "len") call_len_seq (by rfl) T.z_len (by decide +kernel) (pa_cons (pv 1) pa_nil)) pa_nil)) (blkOk_by (own := [("_law_k", 3)]) (N := ["_law_box_here", "_law_some", "_law_left", "_law_k"]) (sc := defScope s_law_mixed) (by decide +kernel)) (fun _ _ _ _ _ => (pg_name (i := 3) sc_law_mixed.nd rfl (Or.inl rfl))) (fun _ _ _ _ _ => pts_nil) (fun _ _ _ _ _ => (show PE _ _ (tBM K "list" rPopAt _ _) from (pe_bm PySem.F.plainAttrs_list PySem.F.slot_list_pop PySem.F.type_list_pop (r := rPopAt) mt_popAt (pv 2) (pa_cons (pe_call (ok_law_take T) hr rfl T.m_law_take T.F_law_take.kp T.b_law_take .nil pass0 (pa_cons (pv 0) (pa_cons (pe_callB (id := "len") (r := fun xs H Q => ∃ p ys, xs = [.ref p] ∧ (SqL K H p ys ∨ SqT K H p ys) ∧ Q (.int ys.length) H) call_len_seq (by rfl) T.z_len (by decide +kernel) (pa_cons (pv 2) pa_nil)) pa_nil))) pa_nil)))))))), ?_⟩
    have hS : SqL K H l xs := SqL.of hl
    have pn : ∀ {H' : Hp} {m : Nat}, BoxIn H0 H' p m → ∀ {t : Addr}, H' t = none → t ≠ p := fun {H' m} b {t} h => by
      obtain ⟨_, _, _, hp, _⟩ := b.box
      exact (ne_of_none hp h).symm
    refine ⟨_, rfl, l, xs, rfl, .inl hS, fun t ht => ?_⟩
    have htp := pn B ht
    have nlt : l ≠ t := ne_of_none hl ht
    have B1 : BoxIn H0 (upd H t (.lst xs)) p n := B.keep (same_new ht)
    refine ⟨_, rfl, l, xs, rfl, .inl (SqL.of (by rw [upd_ne nlt]; exact hl)), xs.length, rfl, by omega, by omega, fun D hD => ?_⟩
    have hDp := pn B1 hD
    have hDt : D ≠ t := fun e => by
      rw [e, upd_same] at hD
      cases hD
    have hD0 : H0 D = none := B1.same.free hD
    have ht0 : H0 t = none := B.same.free ht
    refine lc_range (fun i H2 => ∃ acc left : List V, H2 D = some (.lst acc) ∧ acc.length = i ∧ H2 t = some (.lst left) ∧ (acc ++ left).Perm xs ∧ BoxIn H0 H2 p (n + i)) ⟨[], xs, upd_same, rfl, by rw [upd_ne hDt.symm, upd_same], List.Perm.refl _, B1.mut hDp hD0⟩ ?_ ?_
    · rintro i H2 hi ⟨acc, left, hl2, hy, ht2, hpm, B2⟩
      have hll : left.length = xs.length - i := by
        have := hpm.length_eq
        rw [List.length_append] at this
        omega
      have B2' := B2.all
      refine ⟨rfl, tyes ⟨_, rfl, .inl ⟨rfl, _, .inl (.inl ht2)⟩, _, rfl, _, rfl, t, left, rfl, .inl (SqL.of ht2), but H2 p, p, _, _, rfl, B2'.1, by omega, by omega, by omega, fun z H3 z0 z1 B3 => ?_⟩⟩
      obtain ⟨j, rfl⟩ := Int.eq_ofNat_of_zero_le z0
      have hj : j < left.length := by omega
      have ht3 : H3 t = some (.lst left) := B3.same _ _ (by rw [but_ne htp]; exact ht2)
      have hl3 : H3 D = some (.lst acc) := B3.same _ _ (by rw [but_ne hDp]; exact hl2)
      have hsi : seqIndex? (j : Int) left.length = some j := by
        unfold seqIndex?
        have e1 : ¬ ((j : Int) < 0) := by omega
        simp only [e1, if_false]
        rw [if_pos (by simp; omega)]
        simp
      refine ⟨t, left, (j : Int), j, left[j], rfl, rfl, ht3, by omega, by omega, hsi, List.getElem?_eq_getElem hj, acc, by rw [upd_ne hDt]; exact hl3, Nat.lt_of_lt_of_le (show acc.length < 200 by omega) (by decide), acc ++ [left[j]], left.eraseIdx j, upd_same, by simp [hy], by rw [upd_ne hDt.symm, upd_same], ?_, ?_⟩
      · refine List.Perm.trans ?_ hpm
        rw [List.append_assoc]
        refine List.Perm.append_left _ ?_
        rw [List.eraseIdx_eq_take_drop_succ]
        have e : left = left.take j ++ left[j] :: left.drop (j + 1) := by
          rw [List.getElem_cons_drop, List.take_append_drop]
        have q : (left.take j ++ left[j] :: left.drop (j + 1)).Perm (left[j] :: (left.take j ++ left.drop (j + 1))) := List.perm_middle
        exact q.symm.trans (List.Perm.of_eq e.symm)
      · exact ((B3.low B2'.2).mut htp ht0).mut hDp hD0
    · rintro H2 ⟨acc, left, hl2, hy, ht2, hpm, B2⟩
      have e : left = [] := by
        have := hpm.length_eq
        rw [List.length_append] at this
        exact List.length_eq_zero_iff.mp (by omega)
      rw [e, List.append_nil] at hpm
      exact k D H2 acc B2.same hD0 hDp hl2 hpm B2
theorem ok_law_names (T : Txt K mg w) : FnOk P w K mg base CX0 3 T.f_law_names T.fd_law_names ["_law_box_here", "_law_many"] sp_names := by
  refine T.F_law_names.ok sc_law_names (fun vs H Q E h => ?_) (fun cdv A outer s H vs Q E hr h => ?_)
  · obtain ⟨H0, p, n, m, rfl, _⟩ := h
    rfl
  · obtain ⟨H0, p, n, m, rfl, B, hm, hn, k⟩ := h
    refine ⟨_, (pss_cons (ps_set (i := 2) sc_law_names.nd rfl (Or.inl rfl) pe_str)
        (pss_cons (ps_if (pt_cmpR op_eq (pe_call (ok_law_take T) (hr.mono (by decide)) rfl T.m_law_take T.F_law_take.kp T.b_law_take .nil pass0 (pa_cons (pv 0) (pa_cons pe_int pa_nil))) pe_int (nomark _)) (pss_cons (ps_set (i := 3) sc_law_names.nd rfl (Or.inl rfl) (pe_lst (pa_cons pe_str (pa_cons pe_str (pa_cons pe_str (pa_cons pe_str (pa_cons pe_str (pa_cons pe_str (pa_cons pe_str (pa_cons pe_str (pa_cons pe_str (pa_cons pe_str (pa_cons pe_str (pa_cons pe_str (pa_cons pe_str pa_nil)))))))))))))))
        (pss_one (ps_ret (pe_slice sl_list (pe_call (ok_law_mixed T) hr rfl T.m_law_mixed T.F_law_mixed.kp T.b_law_mixed .nil pass0 (pa_cons (pv 0) (pa_cons (pv 3) pa_nil))) po_none (po_some (pv 1)))))) pss_nil)
        (pss_cons (ps_set (i := 4) sc_law_names.nd rfl (Or.inl rfl) (pe_ix ix_list (pe_lst (pa_cons pe_str (pa_cons pe_str (pa_cons pe_str (pa_cons pe_str (pa_cons pe_str (pa_cons pe_str pa_nil))))))) (pe_call (ok_law_take T) (hr.mono (by decide)) rfl T.m_law_take T.F_law_take.kp T.b_law_take .nil pass0 (pa_cons (pv 0) (pa_cons pe_int pa_nil))) (fun _ _ => rfl)))
        (pss_cons (ps_par3 (i := 5) (j := 6) (l := 7) (by rfl) sc_law_names.nd rfl rfl rfl (by decide) (by decide) (by decide) rfl rfl rfl (pa_cons (pe_call (ok_law_take T) (hr.mono (by decide)) rfl T.m_law_take T.F_law_take.kp T.b_law_take .nil pass0 (pa_cons (pv 0) (pa_cons pe_int pa_nil))) (pa_cons (pe_ix ix_list (pe_lst (pa_cons pe_int (pa_cons pe_int (pa_cons pe_int (pa_cons pe_int (pa_cons pe_int (pa_cons pe_int pa_nil))))))) (pe_call (ok_law_take T) (hr.mono (by decide)) rfl T.m_law_take T.F_law_take.kp T.b_law_take .nil pass0 (pa_cons (pv 0) (pa_cons pe_int pa_nil))) (fun _ _ => rfl)) (pa_cons (pe_call (ok_law_take T) (hr.mono (by decide)) rfl T.m_law_take T.F_law_take.kp T.b_law_take .nil pass0 (pa_cons (pv 0) (pa_cons pe_int pa_nil))) pa_nil))) (by rfl))
        (pss_cons (ps_set (i := 8) sc_law_names.nd rfl (Or.inl rfl) (pe_lst pa_nil))
        (pss_cons (ps_for PassesOwn.never rfl (pi_range1 rfl T.z_range (pa_cons (pv 1) pa_nil)) (pg_name (i := 9) sc_law_names.nd rfl (Or.inl rfl))
          (pss_cons (ps_set (i := 10) sc_law_names.nd rfl (Or.inl rfl) (pe_ix ix_str (pv 2) (pe_op op_mod (pe_op op_add (pv 5) (pe_op op_mul (pv 6) (pv 9))) pe_int) (fun _ _ => rfl)))
        (pss_cons (ps_set (i := 11) sc_law_names.nd rfl (Or.inl rfl) (pe_ix ix_list (pe_lst (pa_cons (pe_op op_add_str (pv 4) (pv 10)) (pa_cons (pe_op op_add_str (pv 10) (pv 4)) (pa_cons (pv 10) pa_nil)))) (pe_ifExp (pt_cmpR op_gt (pv 9) pe_int (nomark _)) (pv 7) pe_int) (fun _ _ => rfl)))
        (pss_one (ps_expr (pe_bm PySem.F.plainAttrs_list PySem.F.slot_list_append PySem.F.type_list_append mt_append (pv 8) (pa_cons (pe_ifExp (pt_cmpR op_eq (pv 11) pe_str (nomark _)) pe_str (pv 11)) pa_nil)))))))
        (pss_one (ps_ret (pv 8))))))))), ?_⟩
    have pn : ∀ {H0 H' : Hp} {m : Nat}, BoxIn H0 H' p m → ∀ {t : Addr}, H' t = none → t ≠ p := fun {H0 H' m} b {t} h => by
      obtain ⟨_, _, _, hp, _⟩ := b.box
      exact (ne_of_none hp h).symm
    refine ⟨_, rfl, H0, p, n, 7, rfl, B, by omega, by decide, by decide, fun z1 H1 z10 z11 B1 => ⟨rfl, _, rfl, ?_⟩⟩
    refine ite2 (fun c => ?_) (fun c => ?_)
    · refine ⟨(by show 13 ≤ sizeLine; decide), fun l hl => ?_⟩
      have B2 := B1.keep (same_new (o := .lst ((["begin", "empty", "rest", "step", "end", "look", "old", "new", "put", "part", "move", "split", "lock"] : List Str).map V.str)) hl)
      have hlp := pn B1 hl
      refine ⟨_, rfl, _, rfl, H0, p, l, _, (["begin", "empty", "rest", "step", "end", "look", "old", "new", "put", "part", "move", "split", "lock"] : List Str).map V.str, rfl, B2, upd_same, by decide, by show n + 1 + 13 < 1000000; omega, fun q H3 ys s3 hq0 hqp hq3 hpm B3 => ?_⟩
      obtain ⟨ss, rfl, hss⟩ := strs_of (xs := ys) (W := ["begin", "empty", "rest", "step", "end", "look", "old", "new", "put", "part", "move", "split", "lock"]) fun y hy => by
        obtain ⟨s, hs, e⟩ := List.mem_map.mp (hpm.mem_iff.mp hy)
        exact ⟨s, hs, e.symm⟩
      have hlen : ss.length = 13 := by
        have := hpm.length_eq
        rw [List.length_map, List.length_map] at this
        exact this
      refine ⟨_, rfl, m, rfl, q, _, rfl, SqL.of hq3, fun r hr => ?_⟩
      have e : cutV (ss.map V.str) none (some (m : Int)) = (ss.take m).map V.str := by
        unfold cutV
        rw [HT.sIx_none, HT.sIx_nat, List.length_map, hlen, List.drop_zero, Nat.sub_zero, List.map_take, Nat.min_eq_left hm]
      rw [e]
      have all : ∀ s ∈ (["begin", "empty", "rest", "step", "end", "look", "old", "new", "put", "part", "move", "split", "lock"] : List Str), sOk 16 s := by
        unfold sOk
        decide +kernel
      have nd : ss.Nodup := nodup_of_map (hpm.nodup_iff.mpr (nodup_map wordsL_ok.2))
      refine k r _ (ss.take m) (s3.trans (same_new hr)) (s3.free hr) (pn B3 hr) upd_same ?_ (fun s hs => all s (hss s (List.mem_of_mem_take hs))) (fun s hs => wordsL_ok.1 s (hss s (List.mem_of_mem_take hs))) (List.Pairwise.sublist (List.take_sublist _ _) nd) ((B3.keep (same_new hr)).mono (by show n + 1 + 13 ≤ n + 40; omega))
      rw [List.length_take, hlen]
      omega
    · refine ⟨(by show 6 ≤ sizeLine; decide), fun l hl => ?_⟩
      have B2 := B1.new (o := .lst ((["", "a", "tabl", "rest", "part", "zzzzzzz"] : List Str).map V.str)) hl
      refine ⟨_, rfl, _, p, _, 6, rfl, B2.1, by omega, by decide, by decide, fun z2 H2 z20 z21 B3 => ?_⟩
      obtain ⟨v, hv, hm1⟩ := atI_in (xs := (["", "a", "tabl", "rest", "part", "zzzzzzz"] : List Str).map V.str) z20 z21
      refine ⟨l, _, z2, v, rfl, rfl, SqL.of (B3.same _ _ upd_same), hv, ?_⟩
      obtain ⟨stem, hst, rfl⟩ := List.mem_map.mp hm1
      have hstem : sOk 7 stem := by
        have all : ∀ s ∈ (["", "a", "tabl", "rest", "part", "zzzzzzz"] : List Str), sOk 7 s := by
          unfold sOk
          decide +kernel
        exact all _ hst
      have B4 := B3.low B2.2
      refine ⟨_, rfl, H0, p, _, 26, rfl, B4, by omega, by decide, by decide, fun zf H3 zf0 zf1 B5 => ?_⟩
      refine ⟨(by show 6 ≤ sizeLine; decide), fun l2 hl2 => ?_⟩
      have B6 := B5.new (o := .lst ([1, 3, 5, 7, 9, 11].map V.int)) hl2
      refine ⟨_, rfl, _, p, _, 6, rfl, B6.1, by omega, by decide, by decide, fun z3 H4 z30 z31 B7 => ?_⟩
      obtain ⟨v3, hv3, hm3⟩ := atI_in (xs := ([1, 3, 5, 7, 9, 11] : List Int).map V.int) z30 z31
      refine ⟨l2, _, z3, v3, rfl, rfl, SqL.of (B7.same _ _ upd_same), hv3, ?_⟩
      obtain ⟨stp, hstp, rfl⟩ := List.mem_map.mp hm3
      have B8 := B7.low B6.2
      refine ⟨_, rfl, H0, p, _, 3, rfl, B8, by omega, by decide, by decide, fun zw H5 zw0 zw1 B9 => ⟨_, _, _, rfl, ?_⟩⟩
      refine ⟨(by show 0 ≤ sizeLine; decide), fun f hf => ?_⟩
      have hfp := pn B9 hf
      have hf0 : H0 f = none := B9.same.free hf
      refine ⟨_, rfl, m, rfl, ?_, ?_, for_range (fun i σ H' => ∃ (v3 v9 v10 v11 : Option V) (ss : List Str), σ = [some (.ref p), some (.int m), some (.str "abcdefghijklmnopqrstuvwxyz"), v3, some (.str stem), some (.int zf), some (.int stp), some (.int zw), some (.ref f), v9, v10, v11] ∧ H' f = some (.lst (ss.map V.str)) ∧ ss.length = i ∧ (∀ s ∈ ss, sOk 16 s) ∧ ss = (List.range i).map (nmS stem zf stp zw) ∧ BoxIn H0 H' p (n + 5)) ⟨_, none, none, none, [], rfl, upd_same, rfl, (fun s h => by cases h), rfl, B9.mut hfp hf0⟩ ?_ ?_⟩
      · omega
      · omega
      · rintro i σ H6 hi ⟨v3, v9, v10, v11, ss, rfl, hff, hlen, hok, hss, C⟩
        have hstp2 : 0 ≤ stp ∧ stp ≤ 11 := by
          have all : ∀ i ∈ ([1, 3, 5, 7, 9, 11] : List Int), 0 ≤ i ∧ i ≤ 11 := by decide
          exact all _ hstp
        refine ⟨_, rfl, _, rfl, _, rfl, _, rfl, _, _, rfl, rfl, .inl ⟨by omega, by omega⟩, _, _, rfl, rfl, _, _, rfl, rfl, (by show (0 : Int) < 26; decide), ?_⟩
        have e26 : ("abcdefghijklmnopqrstuvwxyz" : Str).cps.toList.length = 26 := by decide +kernel
        obtain ⟨ch, hch, hmc⟩ := atI_in (xs := ("abcdefghijklmnopqrstuvwxyz" : Str).cps.toList) (z := (zf + stp * (0 + (i : Int))) % 26) (Int.emod_nonneg _ (by decide)) (by rw [e26]; exact Int.emod_lt_of_pos _ (by decide))
        have hch2 := letter_at (Int.emod_nonneg _ (by decide)) (Int.emod_lt_of_pos _ (by decide)) hch
        rw [Int.zero_add] at hch2
        have hsg : sOk 1 (⟨#[ch]⟩ : Str) := by
          refine ⟨Nat.le_refl _, strOk_sign ?_⟩
          have all : ∀ c ∈ ("abcdefghijklmnopqrstuvwxyz" : Str).cps.toList, c < 0x110000 := by decide +kernel
          exact all _ hmc
        refine ⟨_, _, ch, rfl, rfl, by decide +kernel, hch, ?_⟩
        have l1 : stem.length + (⟨#[ch]⟩ : Str).length ≤ sizeLine := Nat.le_trans (Nat.add_le_add hstem.1 hsg.1) (by decide)
        have l2' : (⟨#[ch]⟩ : Str).length + stem.length ≤ sizeLine := Nat.le_trans (Nat.add_le_add hsg.1 hstem.1) (by decide)
        refine ⟨_, rfl, _, rfl, _, _, rfl, rfl, l1, _, rfl, _, rfl, _, _, rfl, rfl, l2', _, rfl, (by show 3 ≤ sizeLine; decide), fun l3 hl3 => ?_⟩
        have hfl3 : f ≠ l3 := ne_of_none hff hl3
        have C2 := C.keep (same_new (o := .lst [V.str (stem ++ ⟨#[ch]⟩), .str ((⟨#[ch]⟩ : Str) ++ stem), .str ⟨#[ch]⟩]) hl3)
        have pick : ∀ z : Int, 0 ≤ z → z < 3 → ∃ s : Str, atI [V.str (stem ++ ⟨#[ch]⟩), .str ((⟨#[ch]⟩ : Str) ++ stem), .str ⟨#[ch]⟩] z = some (.str s) ∧ sOk 16 s ∧ nmC stem z.toNat (97 + ((zf + stp * (i : Int)) % 26).toNat) = (if s = ("table" : Str) then ("tables" : Str) else s) := fun z z0 z3 => by
          obtain ⟨v, hv, hm⟩ := atI_in (xs := [V.str (stem ++ ⟨#[ch]⟩), .str ((⟨#[ch]⟩ : Str) ++ stem), .str ⟨#[ch]⟩]) z0 z3
          simp only [List.mem_cons, List.not_mem_nil, or_false] at hm
          rcases hm with rfl | rfl | rfl
          · exact ⟨_, hv, (hstem.app hsg).mono (by decide), by rw [form_at z0 z3 hv, ← hch2]; rfl⟩
          · exact ⟨_, hv, (hsg.app hstem).mono (by decide), by rw [form_at z0 z3 hv, ← hch2]; rfl⟩
          · exact ⟨_, hv, hsg.mono (by decide), by rw [form_at z0 z3 hv, ← hch2]; rfl⟩
        have hff2 : upd H6 l3 (.lst [V.str (stem ++ ⟨#[ch]⟩), .str ((⟨#[ch]⟩ : Str) ++ stem), .str ⟨#[ch]⟩]) f = some (.lst (ss.map V.str)) := by rw [upd_ne hfl3]; exact hff
        have hsz : (ss.map V.str).length < sizeLine := by
          rw [List.length_map, hlen]
          exact Nat.lt_of_lt_of_le (show i < 100 by omega) (by decide)
        have nx : ∀ s : Str, sOk 16 s → s = nmS stem zf stp zw i → upd (upd H6 l3 (.lst [V.str (stem ++ ⟨#[ch]⟩), .str ((⟨#[ch]⟩ : Str) ++ stem), .str ⟨#[ch]⟩])) f (.lst (ss.map V.str ++ [V.str s])) f = some (.lst ((ss ++ [s]).map V.str)) ∧ (ss ++ [s]).length = i + 1 ∧ (∀ x ∈ ss ++ [s], sOk 16 x) ∧ ss ++ [s] = (List.range (i + 1)).map (nmS stem zf stp zw) ∧
            BoxIn H0 (upd (upd H6 l3 (.lst [V.str (stem ++ ⟨#[ch]⟩), .str ((⟨#[ch]⟩ : Str) ++ stem), .str ⟨#[ch]⟩])) f (.lst (ss.map V.str ++ [V.str s]))) p (n + 5) := fun s hs he => by
          refine ⟨by rw [upd_same, List.map_append]; rfl, by simp [hlen], fun x hx => ?_, by rw [List.range_succ, List.map_append, ← hss, he]; rfl, C2.mut hfp hf0⟩
          rcases List.mem_append.mp hx with q | q
          · exact hok x q
          · rw [List.mem_singleton.mp q]
            exact hs
        refine ⟨_, rfl, _, _, rfl, rfl, _, rfl, ?_⟩
        refine ite2 (fun c => ?_) (fun c => ?_)
        · have i0 : i ≠ 0 := by
            have := of_decide_eq_true c
            omega
          obtain ⟨nm, hnm, hok2, hf2⟩ := pick zw zw0 zw1
          have hnn : nmS stem zf stp zw i = if nm = ("table" : Str) then ("tables" : Str) else nm := by
            unfold nmS
            rw [if_neg i0]
            exact hf2
          refine ⟨_, rfl, l3, _, zw, _, rfl, rfl, SqL.of upd_same, hnm, ?_⟩
          refine ⟨_, rfl, .inl ⟨rfl, _, .inl (.inl hff2)⟩, _, rfl, rfl, _, rfl, ?_⟩
          refine ite2 (fun c => ?_) (fun c => ?_)
          · have ct : nm = ("table" : Str) := by
              have := of_decide_eq_true c
              injection this
            obtain ⟨n1, n2, n3, n4, n5⟩ := nx "tables" (by unfold sOk; decide +kernel) (by rw [hnn, if_pos ct])
            exact ⟨f, _, _, rfl, rfl, hff2, hsz, _, _, _, _, _, rfl, n1, n2, n3, n4, n5⟩
          · have ct : nm ≠ ("table" : Str) := fun e => c (by rw [e]; exact decide_eq_true rfl)
            obtain ⟨n1, n2, n3, n4, n5⟩ := nx nm hok2 (by rw [hnn, if_neg ct])
            exact ⟨_, rfl, f, _, _, rfl, rfl, hff2, hsz, _, _, _, _, _, rfl, n1, n2, n3, n4, n5⟩
        · have i0 : i = 0 := by
            by_cases h : i = 0
            · exact h
            · exact absurd (decide_eq_true (by omega)) c
          obtain ⟨nm, hnm, hok2, hf2⟩ := pick 0 (by decide) (by decide)
          have hnn : nmS stem zf stp zw i = if nm = ("table" : Str) then ("tables" : Str) else nm := by
            unfold nmS
            rw [if_pos i0]
            exact hf2
          refine ⟨l3, _, 0, _, rfl, rfl, SqL.of upd_same, hnm, ?_⟩
          refine ⟨_, rfl, .inl ⟨rfl, _, .inl (.inl hff2)⟩, _, rfl, rfl, _, rfl, ?_⟩
          refine ite2 (fun c => ?_) (fun c => ?_)
          · have ct : nm = ("table" : Str) := by
              have := of_decide_eq_true c
              injection this
            obtain ⟨n1, n2, n3, n4, n5⟩ := nx "tables" (by unfold sOk; decide +kernel) (by rw [hnn, if_pos ct])
            exact ⟨f, _, _, rfl, rfl, hff2, hsz, _, _, _, _, _, rfl, n1, n2, n3, n4, n5⟩
          · have ct : nm ≠ ("table" : Str) := fun e => c (by rw [e]; exact decide_eq_true rfl)
            obtain ⟨n1, n2, n3, n4, n5⟩ := nx nm hok2 (by rw [hnn, if_neg ct])
            exact ⟨_, rfl, f, _, _, rfl, rfl, hff2, hsz, _, _, _, _, _, rfl, n1, n2, n3, n4, n5⟩
      · rintro σ H6 ⟨v3, v9, v10, v11, ss, rfl, hff, hlen, hok, hss, C⟩
        refine ⟨_, rfl, ?_⟩
        have fin : ss = (List.range m).map (nmS stem zf stp zw) := by
          rw [hss]
          congr 2
        exact k f H6 ss C.same hf0 hfp hff (by rw [hlen]; simp) hok (fun s hs => by
          rw [fin] at hs
          obtain ⟨j, _, rfl⟩ := List.mem_map.mp hs
          exact nmS_ok hst zw0 zw1 j) (by rw [fin]; exact nmS_nodup hst hstp zw0 zw1 hm) (C.mono (by omega))
theorem ok_is_name (T : Txt K mg w) : FnOk P w K mg base CX0 1 T.f_is_name T.fd_is_name ["value"] (sp_v1 K nameO) := by
  refine T.F_is_name.ok sc_is_name (fun vs H Q E h => ?_) (fun cdv A outer s H vs Q E hr h => ?_)
  · obtain ⟨v, o, rfl, _⟩ := h
    rfl
  · obtain ⟨v, o, rfl, hv, k⟩ := h
    have ty := hv.ty
    refine ⟨_, (pss_cons (ps_if (PW.pt (pw_or (pt_not (pt_val (pe_callB (id := "isinstance") call_isi (by rfl) T.z_isinstance (by decide +kernel) (pa_cons (pv 0) (pa_cons (pe_bltn (v := .ty "str") (u := .type "str") (by rfl) T.z_str (by decide +kernel) rfl) pa_nil))))) (pw_or1 (pt_cmpR op_eq (pv 0) pe_str (nomark _))))) (pss_one (ps_ret pe_bl)) pss_nil)
        (pss_one (ps_ret (pe_and (pe_chain op_le op_le pe_int (pe_callB (id := "len") call_len_str (by rfl) T.z_len (by decide +kernel) (pa_cons (pv 0) pa_nil)) (pe_glob (v := .int 8) rfl T.c_LONGEST_NAME ⟨_, rfl⟩)) (pe_one (pe_callB (id := "all") (cr_all rfl) (by rfl) T.z_all (by decide +kernel) (pa_cons (pe_lc (own := [("sign", 1)]) (g := gName 1) (tt := tYes) rfl sc_is_name.nd (pi_str (pv 0)) (blkOk_by (own := [("sign", 1)]) (N := ["value", "sign"]) (sc := defScope s_is_name) (by decide +kernel)) (fun _ _ _ _ _ => (pg_name (i := 1) sc_is_name.nd rfl (Or.inl rfl))) (fun _ _ _ _ _ => pts_nil) (fun _ _ _ _ _ => (pe_chain op_le_str op_le_str pe_str (pv 1) pe_str))) pa_nil))))))), ?_⟩
    refine ⟨_, rfl, _, _, _, _, _, rfl, .ty _, ty, kit_o o (.inr (.inr (.inl rfl))), _, rfl, ?_⟩
    cases e : isT "str" o with
    | false =>
      have e2 : nameO o = false := by
        rcases o with _ | d
        · rfl
        · cases d with
          | str s => cases e
          | _ => rfl
      rw [e2] at k
      exact iteT (iteT (k H (Same.refl H)))
    | true =>
      obtain ⟨s, rfl, rfl, hs⟩ : ∃ s, v = .str s ∧ o = some (.str s) ∧ s.length ≤ 100000 := by
        cases hv with
        | dat a _ c =>
          cases a with
          | str s => exact ⟨s, rfl, rfl, c s rfl⟩
          | _ => cases e
        | dic a => cases e
      have hz : s.length ≤ sizeLine := Nat.le_trans hs (by decide)
      refine iteF ⟨_, rfl, rfl, _, rfl, ?_⟩
      have k : ∀ H', Same H H' → Q (.bl (nameS s)) H' := k
      unfold nameS at k
      rw [dec_str]
      cases e1 : s == ("table" : Str) with
      | true =>
        rw [e1] at k
        exact iteT (k H (Same.refl H))
      | false =>
        rw [e1] at k
        refine iteF ?_
        have k : ∀ H', Same H H' → Q (.bl (decide ((1 : Int) ≤ s.length) && (decide ((s.length : Int) ≤ 8) && s.cps.toList.all okSign))) H' := k
        refine ⟨_, rfl, _, rfl, hz, _, _, rfl, rfl, _, rfl, ?_⟩
        cases e2 : decide ((1 : Int) ≤ s.length) with
        | false =>
          rw [e2] at k
          exact iteF ⟨_, rfl, iteF (k H (Same.refl H))⟩
        | true =>
          rw [e2] at k
          refine iteT ⟨_, _, rfl, rfl, _, rfl, ?_⟩
          cases e3 : decide ((s.length : Int) ≤ 8) with
          | false =>
            rw [e3] at k
            exact iteF (k H (Same.refl H))
          | true =>
            rw [e3] at k
            refine iteT ⟨_, rfl, _, rfl, ?_⟩
            intro D hD
            refine lc_acc walk_str hD (fun _ _ => trivial) (fun i => (s.cps.toList.take i).map fun c => V.bl (okSign c)) rfl (fun i hi => ?_) ?_ ?_
            · rw [List.length_map, List.length_take]
              have : s.cps.size ≤ 100000 := hs
              exact Nat.lt_of_le_of_lt (Nat.min_le_left _ _) (Nat.lt_of_lt_of_le hi (Nat.le_trans this (by decide)))
            · rintro i x H2 hi ⟨c, hc, rfl⟩ s1 R S r1 r2
              have ea : ((s.cps.toList.take (i + 1)).map fun c => V.bl (okSign c)) = ((s.cps.toList.take i).map fun c => V.bl (okSign c)) ++ [V.bl (okSign c)] := by
                have hc' : s.cps.toList[i]? = some c := by rw [Array.getElem?_toList]; exact hc
                rw [List.take_add_one, hc']
                simp
              refine ⟨rfl, tyes ⟨_, rfl, _, _, rfl, rfl, _, rfl, ?_⟩⟩
              have ec : okSign c = (!decide (([c] : List Nat) < [97]) && !decide (([122] : List Nat) < [c])) := rfl
              have ea1 : ("a" : Str).cps.toList = [97] := by decide +kernel
              have ez1 : ("z" : Str).cps.toList = [122] := by decide +kernel
              rw [ea1]
              cases e4 : (!decide (([c] : List Nat) < [97])) with
              | false =>
                rw [e4] at ec
                refine iteF (r1 _ _ ?_ (Same.refl _))
                rw [ea, ec]
                rfl
              | true =>
                rw [e4] at ec
                refine iteT ⟨_, _, rfl, rfl, r1 _ _ ?_ (Same.refl _)⟩
                rw [ea, ec, ez1]
                rfl
            · intro H2 s1 hl
              refine ⟨D, s.cps.toList.map okSign, rfl, SqL.of ?_, ?_⟩
              · rw [hl, List.map_map]
                have : s.cps.toList.take s.cps.size = s.cps.toList := by rw [← Array.length_toList, List.take_length]
                rw [this]
                rfl
              · have := k H2 s1
                rw [List.all_map]
                exact this
theorem ok_InvalidModes_init (T : Txt K mg w) : FnOk P w K mg base CX0 1 T.f_InvalidModes_init T.fd_InvalidModes_init ["self", "value"] (sp_xinit K T.C_InvalidModes "value") := by
  refine T.F_InvalidModes_init.ok sc_InvalidModes_init (fun vs H Q E h => ?_) (fun cdv A outer s H vs Q E hr h => ?_)
  · obtain ⟨a, v, rfl, _⟩ := h
    rfl
  · obtain ⟨a, v, rfl, x, n, ha, k⟩ := h
    refine ⟨_, (pss_one (ps_ost (pv 0) (pv 1))), ?_⟩
    exact ⟨_, rfl, _, rfl, a, T.C_InvalidModes, rfl, x, n, .inl ⟨ha, k⟩⟩
theorem ok_InvalidName_init (T : Txt K mg w) : FnOk P w K mg base CX0 1 T.f_InvalidName_init T.fd_InvalidName_init ["self", "value"] (sp_xinit K T.C_InvalidName "value") := by
  refine T.F_InvalidName_init.ok sc_InvalidName_init (fun vs H Q E h => ?_) (fun cdv A outer s H vs Q E hr h => ?_)
  · obtain ⟨a, v, rfl, _⟩ := h
    rfl
  · obtain ⟨a, v, rfl, x, n, ha, k⟩ := h
    refine ⟨_, (pss_one (ps_ost (pv 0) (pv 1))), ?_⟩
    exact ⟨_, rfl, _, rfl, a, T.C_InvalidName, rfl, x, n, .inl ⟨ha, k⟩⟩
theorem ok_Duplicate_init (T : Txt K mg w) : FnOk P w K mg base CX0 1 T.f_Duplicate_init T.fd_Duplicate_init ["self", "name"] (sp_xinit K T.C_Duplicate "name") := by
  refine T.F_Duplicate_init.ok sc_Duplicate_init (fun vs H Q E h => ?_) (fun cdv A outer s H vs Q E hr h => ?_)
  · obtain ⟨a, v, rfl, _⟩ := h
    rfl
  · obtain ⟨a, v, rfl, x, n, ha, k⟩ := h
    refine ⟨_, (pss_one (ps_ost (pv 0) (pv 1))), ?_⟩
    exact ⟨_, rfl, _, rfl, a, T.C_Duplicate, rfl, x, n, .inl ⟨ha, k⟩⟩
theorem ok_InvalidStrengths_init (T : Txt K mg w) : FnOk P w K mg base CX0 1 T.f_InvalidStrengths_init T.fd_InvalidStrengths_init ["self", "value"] (sp_xinit K T.C_InvalidStrengths "value") := by
  refine T.F_InvalidStrengths_init.ok sc_InvalidStrengths_init (fun vs H Q E h => ?_) (fun cdv A outer s H vs Q E hr h => ?_)
  · obtain ⟨a, v, rfl, _⟩ := h
    rfl
  · obtain ⟨a, v, rfl, x, n, ha, k⟩ := h
    refine ⟨_, (pss_one (ps_ost (pv 0) (pv 1))), ?_⟩
    exact ⟨_, rfl, _, rfl, a, T.C_InvalidStrengths, rfl, x, n, .inl ⟨ha, k⟩⟩
theorem ok_InvalidClash_init (T : Txt K mg w) : FnOk P w K mg base CX0 1 T.f_InvalidClash_init T.fd_InvalidClash_init ["self", "value"] (sp_xinit K T.C_InvalidClash "value") := by
  refine T.F_InvalidClash_init.ok sc_InvalidClash_init (fun vs H Q E h => ?_) (fun cdv A outer s H vs Q E hr h => ?_)
  · obtain ⟨a, v, rfl, _⟩ := h
    rfl
  · obtain ⟨a, v, rfl, x, n, ha, k⟩ := h
    refine ⟨_, (pss_one (ps_ost (pv 0) (pv 1))), ?_⟩
    exact ⟨_, rfl, _, rfl, a, T.C_InvalidClash, rfl, x, n, .inl ⟨ha, k⟩⟩
theorem ok_UnknownMode_init (T : Txt K mg w) : FnOk P w K mg base CX0 1 T.f_UnknownMode_init T.fd_UnknownMode_init ["self", "name"] (sp_xinit K T.C_UnknownMode "name") := by
  refine T.F_UnknownMode_init.ok sc_UnknownMode_init (fun vs H Q E h => ?_) (fun cdv A outer s H vs Q E hr h => ?_)
  · obtain ⟨a, v, rfl, _⟩ := h
    rfl
  · obtain ⟨a, v, rfl, x, n, ha, k⟩ := h
    refine ⟨_, (pss_one (ps_ost (pv 0) (pv 1))), ?_⟩
    exact ⟨_, rfl, _, rfl, a, T.C_UnknownMode, rfl, x, n, .inl ⟨ha, k⟩⟩
theorem ok_require_name (T : Txt K mg w) : FnOk P w K mg base (CXK P w) 3 T.f_require_name T.fd_require_name ["value"] (sp_req K nameO T.C_InvalidName "value") := by
  refine okXK T.F_require_name sc_require_name (fun vs H Q E h => ?_) (fun cdv A outer s H vs Q E hr h => ?_)
  · obtain ⟨v, o, rfl, _⟩ := h
    rfl
  · obtain ⟨v, o, rfl, hv, k1, k2⟩ := h
    refine ⟨_, (pss_one (ps_if (pt_not (pt_val (pe_call (ok_is_name T) (hr.mono (by decide)) rfl T.m_is_name T.F_is_name.kp T.b_is_name .nil pass0 (pa_cons (pv 0) pa_nil)))) (pss_one (L2N.ps_raise rfl (TakesK.toN (takesK_of rfl rfl rfl rfl)) (pmkN_oex T.x_InvalidName T.i_InvalidName T.t_InvalidName (ok_InvalidName_init T) hr T.b_InvalidName_init pass0 rfl T.g_InvalidName (pa_cons (pv 0) pa_nil)))) pss_nil)), ?_⟩
    refine ⟨_, rfl, v, o, rfl, hv, fun H1 s1 => ⟨_, rfl, ?_⟩⟩
    cases e : nameO o with
    | true => exact iteF (k1 e H1 s1)
    | false => exact iteT ⟨_, rfl, raise_x T.x_InvalidName T.n_InvalidName ((k2 e).back s1)⟩
theorem ok_require_modes (T : Txt K mg w) : FnOk P w K mg base (CXK P w) 4 T.f_require_modes T.fd_require_modes ["modes"] (sp_rmodes K (C6 T)) := by
  refine okXK T.F_require_modes sc_require_modes (fun vs H Q E h => ?_) (fun cdv A outer s H vs Q E hr h => ?_)
  · obtain ⟨v, r, ms, rfl, _⟩ := h
    rfl
  · obtain ⟨v, r, ms, rfl, hm, k1, k2⟩ := h
    refine ⟨_, (pss_cons (ps_if (pt_not (pt_val (pe_callB (id := "isinstance") call_isi (by rfl) T.z_isinstance (by decide +kernel) (pa_cons (pv 0) (pa_cons (pe_bltn (v := .ty "list") (u := .type "list") (by rfl) T.z_list (by decide +kernel) rfl) pa_nil))))) (pss_one (L2N.ps_raise rfl (TakesK.toN (takesK_of rfl rfl rfl rfl)) (pmkN_oex T.x_InvalidModes T.i_InvalidModes T.t_InvalidModes (ok_InvalidModes_init T) (hr.mono (by decide)) T.b_InvalidModes_init pass0 rfl T.g_InvalidModes (pa_cons (pv 0) pa_nil)))) pss_nil)
        (pss_cons (ps_for (passes_of rfl) rfl (pi_enum rfl T.z_enumerate (pa_cons (pv 0) pa_nil)) (pg_tup rfl (pgs_cons (pg_name (i := 1) sc_require_modes.nd rfl (Or.inl rfl)) (pgs_cons (pg_name (i := 2) sc_require_modes.nd rfl (Or.inl rfl)) pgs_nil)))
          (pss_cons (ps_expr (pe_call (ok_require_name T) hr rfl T.m_require_name T.F_require_name.kp T.b_require_name .nil (passK (takesK_of rfl rfl rfl rfl)) (pa_cons (pv 2) pa_nil)))
        (pss_one (ps_if (pt_cmpR op_in_seq (pv 2) (pe_slice sl_list (pv 0) po_none (po_some (pv 1))) (by rfl)) (pss_one (L2N.ps_raise rfl (TakesK.toN (takesK_of rfl rfl rfl rfl)) (pmkN_oex T.x_Duplicate T.i_Duplicate T.t_Duplicate (ok_Duplicate_init T) (hr.mono (by decide)) T.b_Duplicate_init pass0 rfl T.g_Duplicate (pa_cons (pv 2) pa_nil)))) pss_nil))))
        (pss_one (ps_if (pt_not (pt_chain op_le op_le pe_int (pe_callB (id := "len") call_len_seq (by rfl) T.z_len (by decide +kernel) (pa_cons (pv 0) pa_nil)) (pe_glob (v := .int 8) rfl T.c_MOST_MODES ⟨_, rfl⟩))) (pss_one (L2N.ps_raise rfl (TakesK.toN (takesK_of rfl rfl rfl rfl)) (pmkN_oex T.x_InvalidModes T.i_InvalidModes T.t_InvalidModes (ok_InvalidModes_init T) (hr.mono (by decide)) T.b_InvalidModes_init pass0 rfl T.g_InvalidModes (pa_cons (pv 0) pa_nil)))) pss_nil)))), ?_⟩
    rcases hm.ways with ⟨o, hv, e, rfl⟩ | ⟨l, xs, ds, rfl, sq, it, hr2⟩
    · refine ⟨_, rfl, _, _, _, _, _, rfl, .ty _, hv.ty, kit_l _, _, rfl, ?_⟩
      rw [e]
      exact iteT ⟨_, rfl, raise_x T.x_InvalidModes T.n_InvalidModes (k2 _ rfl)⟩
    have hlen := dpAll_len it.1
    refine ⟨_, rfl, _, _, _, _, _, rfl, .ty _, dp_ty (.lst sq it.1), kit_l (some (.list ds)), _, rfl, iteF ?_⟩
    refine ⟨_, rfl, l, xs, rfl, sq, for_it walk_enum (fun i σ H' => ∃ v1 v2 : Option V, σ = [some (.ref l), v1, v2] ∧ Same H H' ∧ ∀ j, j < i → ∀ d, ds[j]? = some d → nameO (some d) = true ∧ strOf d ∉ (ds.take j).map strOf) ⟨none, none, rfl, Same.refl _, fun j hj => absurd hj (Nat.not_lt_zero _)⟩ (fun i σ H' _ ⟨_, _, _, s, _⟩ => s.seq sq) ?_ ?_⟩
    · rintro i x σ H1 H2 hi ⟨v1, v2, rfl, s1, hp⟩ ⟨t, y1, y2, rfl, ht, rfl, hy1, hy2⟩
      injection hy1 with hy1
      subst hy1
      obtain ⟨d, hd, hdm, vd, dpd⟩ := it.vd hy2
      have s2 := s1.trans (same_new (o := .tup [.int (i : Nat), y2]) ht)
      have sh := scan_here hlen hy2 hd hp
      refine ⟨t, _, rfl, SqT.of upd_same, rfl, _, _, rfl, _, _, rfl, rfl, ?_⟩
      refine ⟨_, rfl, y2, some d, rfl, vd.mono s2, fun e H3 s3 => ?_, fun e => ?_⟩
      · rw [if_pos e] at sh
        have s4 := s2.trans s3
        refine ⟨_, rfl, _, rfl, _, rfl, _, rfl, l, xs, rfl, s4.seq sq, fun q hq => ?_⟩
        rw [cut_takeV xs (Nat.le_of_lt hi), its_take it.1 i fun j hj d hd => (hp j hj d hd).1]
        obtain ⟨s', rfl⟩ := nameO_str e
        cases dpd
        have s5 := same_new (o := .lst (((ds.take i).map strOf).map V.str)) hq
        refine ⟨q, _, rfl, .inl (SqL.of upd_same), rfl, flat_strs _, _, rfl, ?_⟩
        show (if (inV (.str s') (((ds.take i).map strOf).map V.str)) = true then _ else _)
        rw [in_strs]
        by_cases c : s' ∈ (ds.take i).map strOf
        · rw [if_pos (show strOf (.str s') ∈ _ from c)] at sh
          refine iteTe (decide_eq_true c) ⟨_, rfl, raise_x T.x_Duplicate T.n_Duplicate ?_⟩
          rcases hr2 with ⟨q', e1, e2⟩ | ⟨e1, _⟩
          · rw [sh] at e2
            injection e2 with e2
            subst e2
            exact (k2 _ e1).back (s4.trans s5)
          · rw [sh] at e1
            cases e1
        · refine iteFe (decide_eq_false c) ⟨_, _, rfl, s4.trans s5, fun j hj d' hd' => ?_⟩
          rcases Nat.lt_succ_iff_lt_or_eq.mp hj with h | rfl
          · exact hp j h d' hd'
          · rw [hd] at hd'
            cases hd'
            exact ⟨e, c⟩
      · rw [if_neg (by rw [e]; decide)] at sh
        refine (show Rz H E _ _ _ from ?_).back s2
        rcases hr2 with ⟨q', e1, e2⟩ | ⟨e1, _⟩
        · rw [sh] at e2
          injection e2 with e2
          subst e2
          exact k2 _ e1
        · rw [sh] at e1
          cases e1
    · rintro σ H1 ⟨v1, v2, rfl, s1, hp⟩
      have se := scan_end hlen (fun j hj => hp j (by rw [hlen]; exact hj))
      have s1q := s1.seq sq
      refine ⟨_, rfl, l, xs, rfl, .inl s1q, _, _, rfl, rfl, _, rfl, ?_⟩
      rcases hr2 with ⟨q', _, e2⟩ | ⟨_, ⟨h1, h8, e2⟩ | ⟨h1, e2⟩⟩
      · rw [se] at e2
        cases e2
      · exact iteTe (decide_eq_true (by omega)) ⟨_, _, rfl, rfl, _, rfl, iteFe (by rw [decide_eq_true (show ((xs.length : Nat) : Int) ≤ 8 by omega)]; rfl) (k1 e2 _ s1)⟩
      · by_cases h : 1 ≤ xs.length
        · exact iteTe (decide_eq_true (by omega)) ⟨_, _, rfl, rfl, _, rfl, iteTe (by rw [decide_eq_false (show ¬ ((xs.length : Nat) : Int) ≤ 8 by omega)]; rfl) ⟨_, rfl, raise_x T.x_InvalidModes T.n_InvalidModes ((k2 _ e2).back s1)⟩⟩
        · exact iteFe (decide_eq_false (by omega)) ⟨_, rfl, iteT ⟨_, rfl, raise_x T.x_InvalidModes T.n_InvalidModes ((k2 _ e2).back s1)⟩⟩
theorem ok_require_clashes (T : Txt K mg w) : FnOk P w K mg base (CXK P w) 3 T.f_require_clashes T.fd_require_clashes ["clashes", "modes"] (sp_rclash K (C6 T)) := by
  refine okXK T.F_require_clashes sc_require_clashes (fun vs H Q E h => ?_) (fun cdv A outer s H vs Q E hr h => ?_)
  · obtain ⟨v, l, r, ms, ps, rfl, _⟩ := h
    rfl
  · obtain ⟨v, l, r, ms, ps, rfl, sm, hms, hm8, hc, k1, k2⟩ := h
    refine ⟨_, (pss_cons (ps_if (pt_not (pt_val (pe_callB (id := "isinstance") call_isi (by rfl) T.z_isinstance (by decide +kernel) (pa_cons (pv 0) (pa_cons (pe_bltn (v := .ty "list") (u := .type "list") (by rfl) T.z_list (by decide +kernel) rfl) pa_nil))))) (pss_one (L2N.ps_raise rfl (TakesK.toN (takesK_of rfl rfl rfl rfl)) (pmkN_oex T.x_InvalidStrengths T.i_InvalidStrengths T.t_InvalidStrengths (ok_InvalidStrengths_init T) hr T.b_InvalidStrengths_init pass0 rfl T.g_InvalidStrengths (pa_cons (pv 0) pa_nil)))) pss_nil)
        (pss_one (ps_for (passes_of rfl) rfl (pi_list (pv 0)) (pg_name (i := 2) sc_require_clashes.nd rfl (Or.inl rfl))
          (pss_cons (ps_if (PW.pt (pw_or (pt_not (pt_val (pe_callB (id := "isinstance") call_isi (by rfl) T.z_isinstance (by decide +kernel) (pa_cons (pv 2) (pa_cons (pe_bltn (v := .ty "tuple") (u := .type "tuple") (by rfl) T.z_tuple (by decide +kernel) rfl) pa_nil))))) (pw_or1 (pt_cmpR op_ne (pe_callB (id := "len") call_len_seq (by rfl) T.z_len (by decide +kernel) (pa_cons (pv 2) pa_nil)) pe_int (nomark _))))) (pss_one (L2N.ps_raise rfl (TakesK.toN (takesK_of rfl rfl rfl rfl)) (pmkN_oex T.x_InvalidClash T.i_InvalidClash T.t_InvalidClash (ok_InvalidClash_init T) hr T.b_InvalidClash_init pass0 rfl T.g_InvalidClash (pa_cons (pv 2) pa_nil)))) pss_nil)
        (pss_one (ps_for (passes_of rfl) rfl (pi_tup (pv 2)) (pg_name (i := 3) sc_require_clashes.nd rfl (Or.inl rfl))
          (pss_one (ps_if (pt_cmpR (op_notInD (u65 hr)) (pv 3) (pv 1) (by rfl)) (pss_one (L2N.ps_raise rfl (TakesK.toN (takesK_of rfl rfl rfl rfl)) (pmkN_oex T.x_UnknownMode T.i_UnknownMode T.t_UnknownMode (ok_UnknownMode_init T) hr T.b_UnknownMode_init pass0 rfl T.g_UnknownMode (pa_cons (pv 3) pa_nil)))) pss_nil)))))))), ?_⟩
    cases hc with
    | nol hv e =>
      refine ⟨_, rfl, _, _, _, _, _, rfl, .ty _, hv.ty, kit_l _, _, rfl, ?_⟩
      rw [e]
      exact iteT ⟨_, rfl, raise_x T.x_InvalidStrengths T.n_InvalidStrengths (k2 _ rfl)⟩
    | @lst lc xs ds _ _ sq it hcl =>
      refine ⟨_, rfl, _, _, _, _, _, rfl, .ty _, dp_ty (.lst sq it.1), kit_l (some (.list ds)), _, rfl, iteF ?_⟩
      refine ⟨_, rfl, lc, rfl, ⟨_, sq⟩, for_list (K := K) (a := lc) (xs := xs) (fun i σ H' => ∃ v1 v2 : Option V, σ = [some (.ref lc), some (.ref l), v1, v2] ∧ Same H H' ∧ ∃ ps', ClS K H ms (xs.drop i) (ds.drop i) r ps') ⟨none, none, rfl, Same.refl _, _, hcl⟩ (fun i σ H' _ ⟨_, _, _, s, _⟩ => s.seq sq) ?_ ?_⟩
      · rintro i x σ H1 hx ⟨v1, v2, rfl, s1, ps', hc⟩
        obtain ⟨d, hd, hdm, vd, dpd⟩ := it.vd hx
        rw [drop_cons hx, drop_cons hd] at hc
        have back : ∀ q, r = some q → Ex6 H1 E (C6 T) q := fun q e => (k2 q e).back s1
        rcases hc.ways with ⟨_, ho, er⟩ | ⟨t, y1, y2, e1, e2, rfl, rfl, st, p1, p2, r1, r2, r3⟩
        · refine ⟨_, rfl, _, _, _, _, _, rfl, .ty _, dp_ty (dp_mono s1 dpd), kit_o (some d) (.inr (.inr (.inr rfl))), _, rfl, ?_⟩
          rcases ho with e | ⟨es, rfl, l2⟩
          · rw [e]
            exact iteT (iteT ⟨_, rfl, raise_x T.x_InvalidClash T.n_InvalidClash (back _ er)⟩)
          · cases dpd with
            | tup st sd =>
              refine iteF ⟨_, rfl, _, _, rfl, .inr (same_t s1 st), rfl, _, rfl, iteTe ?_ ⟨_, rfl, raise_x T.x_InvalidClash T.n_InvalidClash (back _ er)⟩⟩
              rw [decide_eq_false (fun z => by injection z with z; exact l2 (by rw [← dpAll_len sd]; omega))]
              rfl
        · have st1 := same_t s1 st
          have hsh := it.sh hdm
          have sh1 := shaped_of_tuple hsh (d := e1) (by simp)
          have sh2 := shaped_of_tuple hsh (d := e2) (by simp)
          refine ⟨_, rfl, _, _, _, _, _, rfl, .ty _, dp_ty (dp_mono s1 dpd), kit_o (some (.tuple [e1, e2])) (.inr (.inr (.inr rfl))), _, rfl, iteF ?_⟩
          refine ⟨_, rfl, _, _, rfl, .inr st1, rfl, _, rfl, iteFe rfl ?_⟩
          refine ⟨_, rfl, t, rfl, ⟨_, st1⟩, for_it (walk_tup (xs := [y1, y2])) (fun j σ H' => ∃ v2 : Option V, σ = [some (.ref lc), some (.ref l), some (.ref t), v2] ∧ Same H1 H' ∧ (1 ≤ j → modeB ms e1 = true) ∧ (2 ≤ j → modeB ms e2 = true)) ⟨v2, rfl, Same.refl _, (fun z => absurd z (by decide)), fun z => absurd z (by decide)⟩ (fun j σ H' _ ⟨_, _, s, _⟩ => same_t s st1) ?_ ?_⟩
          · rintro j y σ H2 H3 hj ⟨v2, rfl, s2, m1, m2⟩ ⟨rfl, hy⟩
            have s12 := s1.trans s2
            have hj : j < 2 := hj
            obtain ⟨e, pe, she, er, en⟩ : ∃ e : PyData, Dp K H y e ∧ (e.canLay0 = true ∧ e.depth ≤ 63) ∧ (modeB ms e = false → r = some (5, y)) ∧ (modeB ms e = true → ((1 ≤ j + 1 → modeB ms e1 = true) ∧ (2 ≤ j + 1 → modeB ms e2 = true))) := by
              have : j = 0 ∨ j = 1 := by omega
              rcases this with rfl | rfl
              · cases hy
                exact ⟨e1, p1, sh1, r1, fun c => ⟨fun _ => c, fun z => absurd z (by decide)⟩⟩
              · cases hy
                exact ⟨e2, p2, sh2, r2 (m1 (by decide)), fun c => ⟨fun _ => m1 (by decide), fun _ => c⟩⟩
            refine ⟨_, rfl, _, rfl, e, ms.map PyData.str, dp_mono s12 pe, .lst (s12.seq sm) (dpAll_strs ms), shaped_iff.mpr ⟨she.1, by have := she.2; omega⟩, sh_names hms, _, rfl, ?_⟩
            show (if (!modeB ms e) = true then _ else _)
            cases c : modeB ms e with
            | false => exact iteT ⟨_, rfl, raise_x T.x_UnknownMode T.n_UnknownMode ((k2 _ (er c)).back s12)⟩
            | true => exact iteF ⟨_, rfl, s2, en c⟩
          · rintro σ H2 ⟨v2, rfl, s2, m1, m2⟩
            obtain ⟨ps2, h2⟩ := r3 (m1 (by simp)) (m2 (by simp))
            exact ⟨_, _, rfl, s1.trans s2, ps2, h2⟩
      · rintro σ H1 ⟨v1, v2, rfl, s1, ps', hc⟩
        rw [List.drop_length, List.drop_of_length_le (by rw [dpAll_len it.1]; exact Nat.le_refl _)] at hc
        cases hc
        exact k1 rfl _ s1
theorem ok_clashing_modes (T : Txt K mg w) : FnOk P w K mg base CX0 1 T.f_clashing_modes T.fd_clashing_modes ["mode", "modes", "clashes"] (sp_cmodes K) := by
  refine T.F_clashing_modes.ok sc_clashing_modes (fun vs H Q E h => ?_) (fun cdv A outer s H vs Q E hr h => ?_)
  · obtain ⟨m, l, lc, ms, ps, xs, rfl, _⟩ := h
    rfl
  · obtain ⟨m, l, lc, ms, ps, xs, rfl, sm, hms, hm8, hm, sc, dp, hps, k⟩ := h
    refine ⟨_, (pss_one (ps_ret (pe_lc (own := [("other", 3)]) (g := gName 3) rfl sc_clashing_modes.nd (pi_list (pv 1)) (blkOk_by (own := [("other", 3)]) (N := ["mode", "modes", "clashes", "other"]) (sc := defScope s_clashing_modes) (by decide +kernel)) (fun _ _ _ _ _ => (pg_name (i := 3) sc_clashing_modes.nd rfl (Or.inl rfl))) (fun _ _ _ _ _ => (pts_one (PW.pt (pw_or (pt_cmpR (r := rInD K) (op_inD (u65 hr)) (pe_tup (pa_cons (pv 0) (pa_cons (pv 3) pa_nil))) (pv 2) (by rfl)) (pw_or1 (pt_cmpR (r := rInD K) (op_inD (u65 hr)) (pe_tup (pa_cons (pv 3) (pa_cons (pv 0) pa_nil))) (pv 2) (by rfl))))))) (fun _ _ _ _ _ => (pv 3))))), ?_⟩
    refine ⟨_, rfl, l, rfl, ⟨_, sm⟩, fun D hD => ?_⟩
    refine lc_acc walk_list hD (fun H' s' => s'.seq sm) (fun i => ((ms.take i).filter (adj ps m)).map V.str) rfl (fun i hi => ?_) ?_ ?_
    · rw [List.length_map]
      have := List.length_filter_le (adj ps m) (ms.take i)
      rw [List.length_take] at this
      exact Nat.lt_of_le_of_lt (Nat.le_trans this (Nat.le_trans (Nat.min_le_right _ _) hm8)) (by decide)
    · rintro i x H2 hi hx s1 R S r1 r2
      rw [List.getElem?_map] at hx
      obtain ⟨o, ho, rfl⟩ := Option.map_eq_some_iff.mp hx
      have om : o ∈ ms := List.mem_of_getElem? ho
      have step : ((ms.take (i + 1)).filter (adj ps m)).map V.str = if adj ps m o = true then ((ms.take i).filter (adj ps m)).map V.str ++ [V.str o] else ((ms.take i).filter (adj ps m)).map V.str := by
        rw [List.take_add_one, ho]
        cases h : adj ps m o <;> simp [h]
      have c1 := prD_can hms (p := (m, o)) ⟨hm, om⟩
      have c2 := prD_can hms (p := (o, m)) ⟨om, hm⟩
      have psh := prs_sh hms hps.2
      refine ⟨rfl, _, rfl, _, rfl, (by show 2 ≤ sizeLine; decide), fun t ht => ?_⟩
      have s2 := same_new (o := .tup [.str m, .str o]) ht
      refine ⟨_, rfl, prD (m, o), ps.map prD, .tup (SqT.of upd_same) (.cons (.str _) (.cons (.str _) .nil)), .lst ((s1.trans s2).seq sc) (dpAll_mono (s1.trans s2) dp), shaped_iff.mpr ⟨c1.1, by have := c1.2; omega⟩, psh, _, rfl, ?_⟩
      rw [any_prD]
      by_cases h1 : (m, o) ∈ ps
      · have ha : adj ps m o = true := by
          unfold adj
          rw [decide_eq_true h1]
          rfl
        rw [if_pos ha] at step
        exact iteTe (decide_eq_true h1) (iteT ⟨_, rfl, r1 _ _ step s2⟩)
      · refine iteFe (decide_eq_false h1) ⟨_, rfl, _, rfl, (by show 2 ≤ sizeLine; decide), fun t2 ht2 => ?_⟩
        have s3 := s2.trans (same_new (o := .tup [.str o, .str m]) ht2)
        refine ⟨_, rfl, prD (o, m), ps.map prD, .tup (SqT.of upd_same) (.cons (.str _) (.cons (.str _) .nil)), .lst ((s1.trans s3).seq sc) (dpAll_mono (s1.trans s3) dp), shaped_iff.mpr ⟨c2.1, by have := c2.2; omega⟩, psh, _, rfl, ?_⟩
        rw [any_prD]
        by_cases h2 : (o, m) ∈ ps
        · have ha : adj ps m o = true := by
            unfold adj
            rw [decide_eq_true h2, Bool.or_true]
          rw [if_pos ha] at step
          exact iteTe (decide_eq_true h2) ⟨_, rfl, r1 _ _ step s3⟩
        · have ha : adj ps m o = false := by
            unfold adj
            rw [decide_eq_false h1, decide_eq_false h2]
            rfl
          rw [if_neg (by rw [ha]; decide)] at step
          exact iteFe (decide_eq_false h2) (r2 _ step s3)
    · intro H2 s1 hl
      have hl : H2 D = some (.lst (((ms.take (ms.map V.str).length).filter (adj ps m)).map V.str)) := hl
      rw [List.length_map, List.take_length] at hl
      exact k H2 D s1 hD hl
theorem ok_Strengths_init (T : Txt K mg w) : FnOk P w K mg base (CXK P w) 5 T.f_Strengths_init T.fd_Strengths_init ["self", "modes", "clashes"] (sp_sinit K T.C_Strengths (C6 T)) := by
  refine okXK T.F_Strengths_init sc_Strengths_init (fun vs H Q E h => ?_) (fun cdv A outer s H vs Q E hr h => ?_)
  · obtain ⟨x, dx, v1, v2, r1, ms, rfl, _⟩ := h
    rfl
  · obtain ⟨x, dx, v1, v2, r1, ms, rfl, hx, hm, k1, k2⟩ := h
    refine ⟨_, (pss_cons (ps_expr (pe_call (ok_require_modes T) hr rfl T.m_require_modes T.F_require_modes.kp T.b_require_modes .nil (passK (takesK_of rfl rfl rfl rfl)) (pa_cons (pv 1) pa_nil)))
        (pss_cons (ps_expr (pe_call (ok_require_clashes T) (hr.mono (by decide)) rfl T.m_require_clashes T.F_require_clashes.kp T.b_require_clashes .nil (passK (takesK_of rfl rfl rfl rfl)) (pa_cons (pv 2) (pa_cons (pv 1) pa_nil))))
        (pss_cons (ps_fld (pv 0) (pe_callTy (T := "list") call_list_of (by rfl) T.z_list (by decide +kernel) (pa_cons (pv 1) pa_nil)) rfl)
        (pss_one (ps_fld (pv 0) (pe_dc (own := [("mode", 3)]) (g := gName 3) (tt := tYes) rfl sc_Strengths_init.nd (pi_list (pv 1)) (blkOk_by (own := [("mode", 3)]) (N := ["self", "modes", "clashes", "mode"]) (sc := defScope s_Strengths_init) (by decide +kernel)) (fun _ _ _ _ _ => (pg_name (i := 3) sc_Strengths_init.nd rfl (Or.inl rfl))) (fun _ _ _ _ _ => pts_nil) (fun _ _ _ _ _ => (pv 3)) (fun _ _ _ _ _ => (pe_call (ok_clashing_modes T) (hr.mono (by decide)) rfl T.m_clashing_modes T.F_clashing_modes.kp T.b_clashing_modes .nil pass0 (pa_cons (pv 3) (pa_cons (pv 1) (pa_cons (pv 2) pa_nil)))))) rfl))))), ?_⟩
    have sB := but_le H x
    refine ⟨_, rfl, v1, r1, ms, rfl, hm.mono sB, fun e1 H1 s1 => ?_, fun q e => k1 q e⟩
    obtain ⟨r2, ps, hc, k3, k4⟩ := k2 e1
    subst e1
    cases hm with
    | @ok l _ sq hn nd l8 =>
    refine ⟨_, rfl, _, rfl, v2, l, r2, ms, ps, rfl, (sB.trans s1).seq sq, hn, l8.2, hc.mono (sB.trans s1), fun e2 H2 s2 => ?_, fun q e => (k3 q e).back s1⟩
    have s12 := s1.trans s2
    have k5 := k4 e2
    clear k4
    subst e2
    cases hc with
    | @lst lc xs ds _ _ sc it hcl =>
    obtain ⟨rfl, hps⟩ := hcl.fine
    have ok : okPs ms ps := ⟨by have := it.2.1; rw [List.length_map] at this; exact this, hps⟩
    have dp := it.1
    refine ⟨_, rfl, l, _, rfl, .inl ((sB.trans s12).seq sq), fun l1 h1 => ?_⟩
    have s3 := s12.trans (same_new (o := .lst (ms.map V.str)) h1)
    have nx : x ≠ l1 := ne_of_none (s12 _ _ hx) h1
    refine ⟨_, rfl, x, T.C_Strengths, dx, [], rfl, s3 _ _ hx, T.cl_Strengths, T.no_Strengths_modes, (by show 0 < 1000; decide), ?_⟩
    have sm : Same (but H x) (upd (upd H2 l1 (.lst (ms.map V.str))) x (.ins T.C_Strengths dx (putF "_modes" (.ref l1) []))) := but_mut (sB.trans s3)
    have hx3 : (upd (upd H2 l1 (.lst (ms.map V.str))) x (.ins T.C_Strengths dx (putF "_modes" (.ref l1) []))) x = some (.ins T.C_Strengths dx (putF "_modes" (.ref l1) [])) := upd_same
    have hl3 : (upd (upd H2 l1 (.lst (ms.map V.str))) x (.ins T.C_Strengths dx (putF "_modes" (.ref l1) []))) l1 = some (.lst (ms.map V.str)) := by rw [upd_ne nx.symm, upd_same]
    have fr3 : ∀ b, (upd (upd H2 l1 (.lst (ms.map V.str))) x (.ins T.C_Strengths dx (putF "_modes" (.ref l1) []))) b = none → H b = none := fun b e => by
      cases hb : H b with
      | none => rfl
      | some u =>
        by_cases h : b = x
        · rw [h, upd_same] at e
          cases e
        · rw [upd_ne h, s3 _ _ hb] at e
          cases e
    have hl0 : H l1 = none := by
      cases hb : H l1 with
      | none => rfl
      | some u =>
        rw [s12 _ _ hb] at h1
        cases h1
    have st3 : ∀ b o, H b = some o → b ≠ x → (upd (upd H2 l1 (.lst (ms.map V.str))) x (.ins T.C_Strengths dx (putF "_modes" (.ref l1) []))) b = some o := fun b o e hb => by
      rw [upd_ne hb]
      exact s3 _ _ e
    clear s1 s2 s12 s3 h1 k1 k2 k3 sB
    generalize upd (upd H2 l1 (.lst (ms.map V.str))) x (.ins T.C_Strengths dx (putF "_modes" (.ref l1) [])) = H3 at sm hx3 hl3 st3 fr3
    refine ⟨_, rfl, l, rfl, ⟨_, sm.seq sq⟩, fun D hD => ?_⟩
    have nDx : x ≠ D := ne_of_none hx3 hD
    refine dc_it walk_list (fun i H' => Same H3 H' ∧ ∃ kvs, H' D = some (.dK kvs) ∧ Ents K (but (offH H H') D) kvs ((ms.take i).map fun m => (.inr m, strsL (ag ms ps m)))) ⟨same_new hD, [], upd_same, .nil⟩ (fun i H' _ ⟨s, _⟩ => s.seq (sm.seq sq)) ?_ ?_
    · rintro i y H4 H5 hi ⟨s4, kvs, hk, en⟩ ⟨rfl, hy⟩
      rw [List.getElem?_map] at hy
      obtain ⟨m, hm, rfl⟩ := Option.map_eq_some_iff.mp hy
      have sm4 := sm.trans s4
      refine ⟨rfl, tyes ⟨_, rfl, _, rfl, _, rfl, _, rfl, m, l, lc, ms, ps, xs, rfl, sm4.seq sq, hn, l8.2, List.mem_of_getElem? hm, sm4.seq sc, dpAll_mono sm4 dp, ok, fun H6 q s6 nq hq => ⟨kvs, .inr m, rfl, s6 _ _ hk, ?_, ?_⟩⟩⟩
      · have := en.len
        rw [List.length_map, List.length_take] at this
        rw [this]
        exact Nat.lt_of_le_of_lt (Nat.le_trans (Nat.min_le_right _ _) l8.2) (by decide)
      · have hD6 := s6 _ _ hk
        have hx6 := s6 _ _ (s4 _ _ hx3)
        have nqD : q ≠ D := fun e => by
          rw [e, hD6] at hq
          cases hq
        have nqx : q ≠ x := fun e => by
          rw [e, hx6] at hq
          cases hq
        have kn := en.keys (keys_ne nd hm)
        rw [putK_new _ kn]
        refine ⟨fun b o e => ?_, _, upd_same, ?_⟩
        · rw [upd_ne (ne_of_none e hD)]
          exact s6 _ _ (s4 _ _ e)
        · have e1 : (ms.take (i + 1)).map (fun m => ((.inr m : Key), strsL (ag ms ps m))) = (ms.take i).map (fun m => ((.inr m : Key), strsL (ag ms ps m))) ++ [(.inr m, strsL (ag ms ps m))] := by
            rw [List.take_add_one, hm, List.map_append]
            rfl
          rw [e1]
          have sb : Same (but (offH H H6) D) (but (offH H (upd H6 D (.dK (kvs ++ [(.inr m, .ref q)])))) D) := offH_upd
          have hq0 : H q = none := fr3 q (s4.free nq)
          refine ((en.mono (but_of (offH_mono s6))).mono sb).snoc (dp_mono sb (.lst (SqL.of (by rw [but_ne nqD, offH_of hq0]; exact hq)) (dpAll_strs _))) (strsL_sh fun s hs => hn s (List.mem_filter.mp hs).1)
    · rintro H4 ⟨s4, kvs, hk, en⟩
      have el : (ms.take (ms.map V.str).length) = ms := by rw [List.length_map, List.take_length]
      rw [el] at en
      refine ⟨_, rfl, x, T.C_Strengths, dx, _, rfl, s4 _ _ hx3, T.cl_Strengths, T.no_Strengths_against, (by show 1 < 1000; decide), ?_⟩
      rw [fsS_eq]
      refine k5 _ (fun b o e hb => by rw [upd_ne hb]; exact s4 _ _ (st3 b o e hb)) fun G hG => ⟨dx, l1, D, kvs, hG x _ (.inr rfl) upd_same, hG l1 _ (.inl hl0) (by rw [upd_ne nx.symm]; exact s4 _ _ hl3), hG D _ (.inl (fr3 D hD)) (by rw [upd_ne nDx.symm]; exact hk), ?_⟩
      exact en.mono fun b u e => by
        obtain ⟨h1, h2⟩ := offH_some (but_le _ _ _ _ e)
        have hb : b ≠ x := (ne_of_none hx h1).symm
        exact hG b u (.inl h1) (by rw [upd_ne hb]; exact h2)
theorem ok_Strengths_modes (T : Txt K mg w) : FnOk P w K mg base CX0 1 T.f_Strengths_modes T.fd_Strengths_modes ["self"] (sp_smodes K T.C_Strengths) := by
  refine T.F_Strengths_modes.ok sc_Strengths_modes (fun vs H Q E h => ?_) (fun cdv A outer s H vs Q E hr h => ?_)
  · obtain ⟨x, ms, f, rfl, _⟩ := h
    rfl
  · obtain ⟨x, ms, f, rfl, ⟨dx, l, d, kvs, hx, hl, hd, en⟩, k⟩ := h
    refine ⟨_, (pss_one (ps_ret (pe_callTy (T := "list") call_list_of (by rfl) T.z_list (by decide +kernel) (pa_cons (pe_fld (pv 0) rfl) pa_nil)))), ?_⟩
    exact ⟨_, rfl, x, _, dx, _, _, rfl, hx, T.cl_Strengths, T.no_Strengths_modes, fsS_modes l d, l, _, rfl, .inl (SqL.of hl), fun q hq => k _ q (same_new hq) hq upd_same⟩
theorem ok_Strengths_clashes (T : Txt K mg w) : FnOk P w K mg base CX0 1 T.f_Strengths_clashes T.fd_Strengths_clashes ["self"] (sp_sclash K T.C_Strengths) := by
  refine T.F_Strengths_clashes.ok sc_Strengths_clashes (fun vs H Q E h => ?_) (fun cdv A outer s H vs Q E hr h => ?_)
  · obtain ⟨x, ms, f, rfl, _⟩ := h
    rfl
  · obtain ⟨x, ms, f, rfl, ⟨dx, l, d, kvs, hx, hl, hd, en⟩, h9, k⟩ := h
    refine ⟨_, (pss_cons (ps_set (i := 1) sc_Strengths_clashes.nd rfl (Or.inl rfl) (pe_lst pa_nil))
        (pss_cons (ps_for PassesOwn.never rfl (pi_enum rfl T.z_enumerate (pa_cons (pe_fld (pv 0) rfl) pa_nil)) (pg_tup rfl (pgs_cons (pg_name (i := 2) sc_Strengths_clashes.nd rfl (Or.inl rfl)) (pgs_cons (pg_name (i := 3) sc_Strengths_clashes.nd rfl (Or.inl rfl)) pgs_nil)))
          (pss_one (ps_for PassesOwn.never rfl (pi_list (pe_slice sl_list (pe_fld (pv 0) rfl) (po_some (pv 2)) po_none)) (pg_name (i := 4) sc_Strengths_clashes.nd rfl (Or.inl rfl))
          (pss_one (ps_if (pt_cmpR op_in_seq (pv 4) (pe_dget (hu_of hr) (pe_fld (pv 0) rfl) (pv 3) (fun _ _ => rfl)) (by rfl)) (pss_one (ps_expr (pe_bm PySem.F.plainAttrs_list PySem.F.slot_list_append PySem.F.type_list_append mt_append (pv 1) (pa_cons (pe_tup (pa_cons (pv 3) (pa_cons (pv 4) pa_nil))) pa_nil)))) pss_nil)))))
        (pss_one (ps_ret (pv 1))))), ?_⟩
    refine ⟨(by show 0 ≤ sizeLine; decide), fun D hD => ?_⟩
    have s0 := same_new (o := .lst []) hD
    refine ⟨_, rfl, x, _, dx, _, _, rfl, s0 _ _ hx, T.cl_Strengths, T.no_Strengths_modes, fsS_modes l d, l, _, rfl, SqL.of (s0 _ _ hl), for_it walk_enum (fun i σ H' => ∃ (v2 v3 v4 : Option V) (xs : List V), σ = [some (.ref x), some (.ref D), v2, v3, v4] ∧ Same H H' ∧ H' D = some (.lst xs) ∧ DpAll K (but H' D) xs ((prsA f ms i).map prD)) ⟨none, none, none, [], rfl, s0, upd_same, .nil⟩ (fun i σ H' _ ⟨_, _, _, _, _, s, _⟩ => SqL.of (s _ _ hl)) ?_ ?_⟩
    · rintro i y σ H1 H2 hi ⟨v2, v3, v4, xs, rfl, s1, hD1, hxs⟩ ⟨t, y1, y2, rfl, ht, rfl, hy1, hy2⟩
      injection hy1 with hy1
      subst hy1
      have hy2 : (ms.map V.str)[i]? = some y2 := hy2
      rw [List.getElem?_map] at hy2
      obtain ⟨m, hm, rfl⟩ := Option.map_eq_some_iff.mp hy2
      have mm : m ∈ ms := List.mem_of_getElem? hm
      have hi2 : i ≤ ms.length := Nat.le_of_lt ((List.getElem?_eq_some_iff.mp hm).1)
      have s2 := same_new (o := .tup [.int (i : Nat), .str m]) ht
      have s12 := s1.trans s2
      refine ⟨t, _, rfl, SqT.of upd_same, rfl, _, _, rfl, _, _, rfl, rfl, ?_⟩
      refine ⟨_, rfl, x, _, dx, _, _, rfl, s12 _ _ hx, T.cl_Strengths, T.no_Strengths_modes, fsS_modes l d, _, rfl, _, rfl, l, _, rfl, SqL.of (s12 _ _ hl), fun q hq => ?_⟩
      rw [cut_dropV (ms.map V.str) (by rw [List.length_map]; exact hi2), ← List.map_drop]
      have s3 := s2.trans (same_new (o := .lst ((ms.drop i).map V.str)) hq)
      have s13 := s1.trans s3
      have hDq : q ≠ D := (ne_of_none (s2 _ _ hD1) hq).symm
      have hD3 : (upd (upd H1 t (.tup [.int (i : Nat), .str m])) q (.lst ((ms.drop i).map V.str))) D = some (.lst xs) := s3 _ _ hD1
      have hq3 : (upd (upd H1 t (.tup [.int (i : Nat), .str m])) q (.lst ((ms.drop i).map V.str))) q = some (.lst ((ms.drop i).map V.str)) := upd_same
      have hxs3 := dpAll_mono (but_of (x := D) s3) hxs
      clear s2 s12 ht hq s1 hD1 hxs s3
      generalize upd (upd H1 t (.tup [.int (i : Nat), .str m])) q (.lst ((ms.drop i).map V.str)) = H3 at s13 hD3 hq3 hxs3
      have sH : Same H (but H3 D) := fun b u e => by
        rw [but_ne (ne_of_none e hD)]
        exact s13 _ _ e
      have hqb : but H3 D q = some (.lst ((ms.drop i).map V.str)) := by rw [but_ne hDq]; exact hq3
      obtain ⟨ag, hv, hag⟩ := StrAt.look en mm
      refine ⟨q, rfl, ⟨_, SqL.of hq3⟩, for_list (K := K) (a := q) (xs := (ms.drop i).map V.str) (fun j σ H' => ∃ (v4 : Option V) (zs : List V), σ = [some (.ref x), some (.ref D), some (.int (i : Nat)), some (.str m), v4] ∧ Same (but H3 D) H' ∧ H' D = some (.lst zs) ∧ DpAll K (but H' D) zs ((prsA f ms i ++ (((ms.drop i).take j).filter fun o => decide (o ∈ f m)).map fun o => (m, o)).map prD)) ⟨v4, xs, rfl, but_le _ _, hD3, by simpa using hxs3⟩ (fun j σ H' _ ⟨_, _, _, s, _⟩ => SqL.of (s _ _ hqb)) ?_ ?_⟩
      · rintro j y σ H4 hy ⟨v4, zs, rfl, s4, hD4, hzs⟩
        rw [List.getElem?_map] at hy
        obtain ⟨o, ho, rfl⟩ := Option.map_eq_some_iff.mp hy
        have s5 := sH.trans s4
        have step := filt_take (f := fun o => decide (o ∈ f m)) ho
        refine ⟨_, rfl, _, rfl, x, _, dx, _, _, rfl, s5 _ _ hx, T.cl_Strengths, T.no_Strengths_against, fsS_against l d, _, rfl, d, .ref ag, rfl, .inl ⟨kvs, .inr m, .inl (s5 _ _ hd), rfl, hv.symm⟩, ag, _, rfl, .inl (s5.seq hag), rfl, flat_strs _, _, rfl, ?_⟩
        show (if (inV (.str o) ((f m).map V.str)) = true then _ else _)
        rw [in_strs]
        cases c : decide (o ∈ f m) with
        | false =>
          rw [if_neg (by rw [c]; decide), List.append_nil] at step
          exact iteF ⟨_, zs, rfl, s4, hD4, by rw [step]; exact hzs⟩
        | true =>
          rw [if_pos (by rw [c])] at step
          refine iteT ⟨_, rfl, .inl ⟨rfl, _, .inl (.inl hD4)⟩, _, rfl, _, rfl, (by show 2 ≤ sizeLine; decide), fun t2 ht2 => ?_⟩
          have nt : t2 ≠ D := (ne_of_none hD4 ht2).symm
          have s6 := same_new (o := .tup [.str m, .str o]) ht2
          refine ⟨D, zs, .ref t2, rfl, rfl, s6 _ _ hD4, ?_, ?_⟩
          · rw [dpAll_len hzs, List.length_map, List.length_append, List.length_map]
            have a1 := prsA_len f ms i
            have a2 : (((ms.drop i).take j).filter fun o => decide (o ∈ f m)).length ≤ ms.length := Nat.le_trans (List.length_filter_le _ _) (by rw [List.length_take, List.length_drop]; omega)
            have a3 : i * ms.length ≤ 9 * 9 := Nat.mul_le_mul (Nat.le_trans hi2 h9) h9
            exact Nat.lt_of_lt_of_le (show _ < 100 by omega) (by decide)
          · have sb : Same (but H4 D) (but (upd (upd H4 t2 (.tup [.str m, .str o])) D (.lst (zs ++ [.ref t2]))) D) := (but_of s6).trans (but_upd _ _ _)
            refine ⟨_, _, rfl, but_mut (fun b u e => s6 _ _ (s4 _ _ e)), upd_same, ?_⟩
            have e : (prsA f ms i ++ (((ms.drop i).take (j + 1)).filter fun o => decide (o ∈ f m)).map fun o => (m, o)).map prD = (prsA f ms i ++ (((ms.drop i).take j).filter fun o => decide (o ∈ f m)).map fun o => (m, o)).map prD ++ [prD (m, o)] := by
              rw [step]
              simp
            rw [e]
            refine dpAll_snoc (dpAll_mono sb hzs) (.tup (SqT.of (by rw [but_ne nt, upd_ne nt]; exact upd_same)) (.cons (.str _) (.cons (.str _) .nil)))
      · rintro σ H4 ⟨v4, zs, rfl, s4, hD4, hzs⟩
        rw [List.length_map, List.take_length, ← outP_at hm, ← prsA_succ] at hzs
        exact ⟨_, _, _, zs, rfl, sH.trans s4, hD4, hzs⟩
    · rintro σ H1 ⟨v2, v3, v4, xs, rfl, s1, hD1, hxs⟩
      rw [List.length_map] at hxs
      exact ⟨_, rfl, k H1 D xs s1 hD hD1 hxs⟩
theorem ok_Strengths_eq (T : Txt K mg w) : FnOk P w K mg base CX0 1 T.f_Strengths_eq T.fd_Strengths_eq ["self", "other"] (sp_seq K T.C_Strengths) := by
  refine T.F_Strengths_eq.ok sc_Strengths_eq (fun vs H Q E h => ?_) (fun cdv A outer s H vs Q E hr h => ?_)
  · obtain ⟨x, y, ms, f, rfl, _⟩ := h
    rfl
  · obtain ⟨x, y, ms, f, rfl, ⟨dx, l, d, kvs, hx, hl, hd, en⟩, hn, k⟩ := h
    refine ⟨_, (pss_one (ps_ret (pe_and (pe_callB (id := "isinstance") call_isi (by rfl) T.z_isinstance (by decide +kernel) (pa_cons (pv 1) (pa_cons (pe_glob (v := .ref T.C_Strengths) rfl T.g_Strengths rfl) pa_nil))) (pe_and (pe_cmpR (op_eqD hr.units) (pe_fld (pv 0) rfl) (pe_fld (pv 1) rfl) (nomark _)) (pe_one (pe_cmpR (op_eqDD (u65 hr)) (pe_fld (pv 0) rfl) (pe_fld (pv 1) rfl) (nomark _))))))), ?_⟩
    have ic := T.ic_Strengths
    rcases k with ⟨t, ty, kt, k⟩ | ⟨z, ms2, f2, rfl, ⟨dz, l2, d2, kvs2, hz, hl2, hd2, en2⟩, hn2, k⟩
    · exact ⟨_, rfl, _, _, _, _, _, rfl, .own _, ty, kt, _, rfl, iteF k⟩
    · refine ⟨_, rfl, _, _, _, _, _, rfl, .own _, .base (.ins hz ic.cl ic.ha ic.hn ic.htk ic.hm), ic.me, _, rfl, iteT ?_⟩
      refine ⟨_, rfl, x, _, dx, _, _, rfl, hx, T.cl_Strengths, T.no_Strengths_modes, fsS_modes l d, _, rfl, z, _, dz, _, _, rfl, hz, T.cl_Strengths, T.no_Strengths_modes, fsS_modes l2 d2, strsL ms, strsL ms2, .lst (SqL.of hl) (dpAll_strs _), .lst (SqL.of hl2) (dpAll_strs _), strsL_sh hn, strsL_sh hn2, _, rfl, ?_⟩
      rw [eqv_strsL]
      unfold eqStr at k
      by_cases c : ms = ms2
      · subst c
        rw [decide_eq_true (rfl : ms = ms), Bool.true_and] at k
        refine iteTe (decide_eq_true rfl) ⟨_, rfl, x, _, dx, _, _, rfl, hx, T.cl_Strengths, T.no_Strengths_against, fsS_against l d, _, rfl, z, _, dz, _, _, rfl, hz, T.cl_Strengths, T.no_Strengths_against, fsS_against l2 d2, d, d2, kvs, kvs2, _, _, rfl, rfl, hd, hd2, en, en2, ?_⟩
        rw [ents_eq, List.length_map, List.length_map, beq_self_eq_true, Bool.true_and]
        exact k
      · rw [decide_eq_false c, Bool.false_and] at k
        exact iteFe (decide_eq_false c) k
theorem ok_Strengths_str (T : Txt K mg w) : FnOk P w K mg base CX0 2 T.f_Strengths_str T.fd_Strengths_str ["self"] (sp_sstr K T.C_Strengths) := by
  refine T.F_Strengths_str.ok sc_Strengths_str (fun vs H Q E h => ?_) (fun cdv A outer s H vs Q E hr h => ?_)
  · obtain ⟨x, ms, f, rfl, _⟩ := h
    rfl
  · obtain ⟨x, ms, f, rfl, st, hn, h9, k⟩ := h
    refine ⟨_, (pss_cons (ps_setLc (i := 1) (own := [("one", 2), ("other", 3)]) (g := gTup K 2 (gCons (gName 2) (gCons (gName 3) gNil))) (tt := tYes) rfl sc_Strengths_str.nd rfl rfl (sw_true rfl rfl rfl (by decide +kernel)) (pi_list (pe_meth0 (pv 0) T.cl_Strengths T.me_Strengths_clashes (ok_Strengths_clashes T) hr T.b_Strengths_clashes .nil pass0)) (blkOk_by (own := [("one", 2), ("other", 3)]) (N := ["self", "pairs", "one", "other", "words"]) (sc := defScope s_Strengths_str) (by decide +kernel)) (fun _ _ _ _ _ => (pg_tup rfl (pgs_cons (pg_name (i := 2) sc_Strengths_str.nd rfl (Or.inl rfl)) (pgs_cons (pg_name (i := 3) sc_Strengths_str.nd rfl (Or.inl rfl)) pgs_nil)))) (fun _ _ _ _ _ => pts_nil) (fun _ _ _ _ _ => (pe_joinedN (.cons (pe_fmt (pv 2)) (.cons pe_str (.cons (pe_fmt (pv 3)) .nil))))))
        (pss_one (ps_ret (pe_join pe_str (pe_lc (own := [("words", 4)]) (g := gName 4) rfl sc_Strengths_str.nd (pi_tup (pe_tup (pa_cons (pe_fld (pv 0) rfl) (pa_cons (pv 1) pa_nil)))) (blkOk_by (own := [("words", 4)]) (N := ["self", "pairs", "one", "other", "words"]) (sc := defScope s_Strengths_str) (by decide +kernel)) (fun _ _ _ _ _ => (pg_name (i := 4) sc_Strengths_str.nd rfl (Or.inl rfl))) (fun _ _ _ _ _ => (pts_one (pt_cmpR op_gt (pe_callB (id := "len") (r := fun xs H Q => ∃ p ys, xs = [.ref p] ∧ (SqL K H p ys ∨ SqT K H p ys) ∧ Q (.int ys.length) H) call_len_seq (by rfl) T.z_len (by decide +kernel) (pa_cons (pv 4) pa_nil)) pe_int (nomark _)))) (fun _ _ _ _ _ => (show PE _ _ (tM1 (rJoinK K) _ _) from (pe_join pe_str (pv 4))))))))), ?_⟩
    obtain ⟨dx, l, d, kvs, hx, hl, hd, en⟩ := id st
    have z4 : 100 ≤ sizeLine := by decide
    have z3 : ("!" : Str).length = 1 := by decide +kernel
    refine ⟨_, rfl, x, dx, fsS l d, rfl, hx, fsS_no (by decide +kernel) (by decide +kernel), x, ms, f, rfl, st, h9, fun H1 q xs s1 hq hq1 hxs => ?_⟩
    have hps := fun p hp => mem_prsOf (f := f) (ms := ms) (p := p) hp
    have len81 : (prsOf f ms).length ≤ 81 := Nat.le_trans (prsA_len f ms ms.length) (Nat.mul_le_mul h9 h9)
    have hxs := dpAll_mono (but_le _ _) hxs
    have xl := dpAll_len hxs
    rw [List.length_map] at xl
    generalize hP : prsOf f ms = ps at hps len81 hxs xl
    have tl : ∀ p ∈ ps, (prT p).length ≤ 17 := fun p hp => by
      have h1 := nameS_len (hn _ (hps p hp).1)
      have h2 := nameS_len (hn _ (hps p hp).2)
      unfold prT
      rw [emp_app, Str.length_append, Str.length_append]
      omega
    refine ⟨q, rfl, ⟨_, SqL.of hq1⟩, fun D hD => ?_⟩
    refine lc_acc walk_list hD (fun H' s' => SqL.of (s' _ _ hq1)) (fun i => ((ps.take i).map prT).map V.str) rfl (fun i hi => ?_) ?_ ?_
    · rw [List.length_map, List.length_map, List.length_take]
      exact Nat.lt_of_le_of_lt (Nat.le_trans (Nat.min_le_right _ _) len81) (by decide)
    · rintro i y H2 hi hy s2 R S r1 r2
      obtain ⟨t, p, rfl, hp, ht⟩ := prs_at hxs hy
      have hpm := List.mem_of_getElem? hp
      have h1 := nameS_len (hn _ (hps p hpm).1)
      have h2 := nameS_len (hn _ (hps p hpm).2)
      refine ⟨t, _, rfl, same_t s2 ht, rfl, _, _, rfl, _, _, rfl, rfl, rfl, tyes ⟨_, rfl, .inl ⟨_, rfl, by omega, _, rfl, ?_, _, rfl, ?_, _, rfl, .inl ⟨_, rfl, by omega, _, rfl, ?_, ?_⟩⟩⟩⟩
      · rw [emp_app]
        omega
      · rw [emp_app, Str.length_append]
        omega
      · rw [emp_app, Str.length_append, Str.length_append]
        omega
      · refine r1 _ _ ?_ (Same.refl _)
        rw [List.take_add_one, hp, List.map_append, List.map_append]
        rfl
    · intro H2 s2 hD2
      have hD2 : H2 D = some (.lst (((ps.take xs.length).map prT).map V.str)) := hD2
      rw [xl, List.take_length] at hD2
      have s12 := s1.trans s2
      refine ⟨⟨_, rfl⟩, _, rfl, x, _, dx, _, _, rfl, s12 _ _ hx, T.cl_Strengths, T.no_Strengths_modes, fsS_modes l d, _, rfl, (by show 2 ≤ sizeLine; decide), fun t ht => ⟨t, rfl, ⟨_, SqT.of upd_same⟩, fun D2 hD3 => ?_⟩⟩
      have s3 := same_new (o := .tup [.ref l, .ref D]) ht
      have zs : (" " : Str).length = 1 := by decide +kernel
      have zc : (": " : Str).length = 2 := by decide +kernel
      have p1 : ∀ y ∈ ms, y.length ≤ 17 := fun y hy => Nat.le_trans (nameS_len (hn y hy)) (by decide)
      have p2 : ∀ y ∈ ps.map prT, y.length ≤ 17 := fun y hy => by
        obtain ⟨p, hp, rfl⟩ := List.mem_map.mp hy
        exact tl p hp
      have b1 := join_le (a := " ") (m := 81) p1 (by omega) (by omega)
      have b2 := join_le (a := " ") (m := 81) p2 (by rw [List.length_map]; exact len81) (by omega)
      refine lc_acc walk_tup hD3 (fun H' s' => SqT.of (s' _ _ upd_same)) (fun i => ((([ms, ps.map prT] : List (List Str)).take i).filter fun ws => decide (0 < ws.length)).map fun ws => V.str (Txt.join " " ws)) rfl (fun i hi => ?_) ?_ ?_
      · rw [List.length_map]
        refine Nat.lt_of_le_of_lt (List.length_filter_le _ _) ?_
        rw [List.length_take]
        exact Nat.lt_of_le_of_lt (Nat.min_le_right _ _) (by show 2 < sizeLine; decide)
      · rintro i y H3 hi hy s4 R S r1 r2
        obtain ⟨w, ws, rfl, hw, hws, hb⟩ : ∃ w ws, y = .ref w ∧ H3 w = some (.lst (ws.map V.str)) ∧ ([ms, ps.map prT] : List (List Str))[i]? = some ws ∧ (ws.map (·.length)).sum + ws.length * (" " : Str).length ≤ 81 * 17 + 81 * 2 := by
          have hi : i < 2 := hi
          have : i = 0 ∨ i = 1 := by omega
          rcases this with rfl | rfl
          · cases hy
            exact ⟨l, ms, rfl, s4 _ _ (s3 _ _ (s12 _ _ hl)), rfl, b1⟩
          · cases hy
            exact ⟨D, ps.map prT, rfl, s4 _ _ (s3 _ _ hD2), rfl, b2⟩
        refine ⟨rfl, _, rfl, w, _, rfl, .inl (SqL.of hw), _, _, rfl, rfl, _, rfl, ?_⟩
        have e0 : decide ((0 : Int) < ((ws.map V.str).length : Nat)) = decide (0 < ws.length) := by
          rw [List.length_map]
          exact decide_eq_decide.mpr (by omega)
        rw [e0]
        cases c : decide (0 < ws.length) with
        | false =>
          refine iteF (r2 _ ?_ (Same.refl _))
          rw [List.take_add_one, hws, List.filter_append]
          simp [c]
        | true =>
          refine iteT ⟨⟨_, rfl⟩, _, rfl, " ", w, ws, rfl, rfl, .inl (SqL.of hw), Nat.le_trans hb (by decide), r1 _ _ ?_ (Same.refl _)⟩
          rw [List.take_add_one, hws, List.filter_append]
          simp [c]
      · intro H3 s4 hl3
        have hl3 : H3 D2 = some (.lst (((([ms, ps.map prT] : List (List Str)).take 2).filter fun ws => decide (0 < ws.length)).map fun ws => V.str (Txt.join " " ws))) := hl3
        have e3 : ((([ms, ps.map prT] : List (List Str)).take 2).filter fun ws => decide (0 < ws.length)).map (fun ws => V.str (Txt.join " " ws)) = (((([ms, ps.map prT] : List (List Str)).take 2).filter fun ws => decide (0 < ws.length)).map (fun ws => Txt.join " " ws)).map V.str := by
          rw [List.map_map]
          rfl
        rw [e3] at hl3
        refine ⟨": ", D2, _, rfl, rfl, .inl (SqL.of hl3), ?_, by rw [hP] at k; exact k _ (s12.trans (s3.trans s4))⟩
        refine Nat.le_trans (join_le (n := 81 * 17 + 81 * 2) (m := 2) (fun y hy => ?_) ?_ (by omega)) (by decide)
        · obtain ⟨ws, hws, rfl⟩ := List.mem_map.mp hy
          have := (List.mem_filter.mp hws).1
          simp only [List.take, List.mem_cons, List.not_mem_nil, or_false] at this
          rcases this with rfl | rfl
          · exact Nat.le_trans (join_len _ _) b1
          · exact Nat.le_trans (join_len _ _) b2
        · rw [List.length_map]
          exact Nat.le_trans (List.length_filter_le _ _) (by simp)
theorem ok_NoProgram_init (T : Txt K mg w) : FnOk P w K mg base CX0 1 T.f_NoProgram_init T.fd_NoProgram_init ["self", "kind"] (sp_xinit K T.C_NoProgram "kind") := by
  refine T.F_NoProgram_init.ok sc_NoProgram_init (fun vs H Q E h => ?_) (fun cdv A outer s H vs Q E hr h => ?_)
  · obtain ⟨a, v, rfl, _⟩ := h
    rfl
  · obtain ⟨a, v, rfl, x, n, ha, k⟩ := h
    refine ⟨_, (pss_one (ps_ost (pv 0) (pv 1))), ?_⟩
    exact ⟨_, rfl, _, rfl, a, T.C_NoProgram, rfl, x, n, .inl ⟨ha, k⟩⟩
theorem ok_is_kind (T : Txt K mg w) : FnOk P w K mg base CX0 1 T.f_is_kind T.fd_is_kind ["value"] (sp_kind K) := by
  refine T.F_is_kind.ok sc_is_kind (fun vs H Q E h => ?_) (fun cdv A outer s H vs Q E hr h => ?_)
  · obtain ⟨v, d, rfl, _⟩ := h
    rfl
  · obtain ⟨v, d, rfl, hd, sd, k⟩ := h
    refine ⟨_, (pss_one (ps_ret (pe_cmpR (op_inT (u65 hr)) (pv 0) (pe_glob (v := .ref T.A_KINDS) rfl T.c_KINDS rfl) (by rfl)))), ?_⟩
    obtain ⟨u, ru, du⟩ := datK_ok 4 T.d_KINDS
    obtain rfl : u = .ref T.A_KINDS := relref ru
    exact ⟨_, rfl, d, _, hd, du H, sd, kinds_shaped, k⟩
theorem ok_require_kind (T : Txt K mg w) : FnOk P w K mg base (CXK P w) 3 T.f_require_kind T.fd_require_kind ["value"] (sp_rkind K T.C_NoProgram) := by
  refine okXK T.F_require_kind sc_require_kind (fun vs H Q E h => ?_) (fun cdv A outer s H vs Q E hr h => ?_)
  · obtain ⟨v, d, rfl, _⟩ := h
    rfl
  · obtain ⟨v, d, rfl, hd, sd, k1, k2⟩ := h
    refine ⟨_, (pss_one (ps_if (pt_not (pt_val (pe_call (ok_is_kind T) (hr.mono (by decide)) rfl T.m_is_kind T.F_is_kind.kp T.b_is_kind .nil pass0 (pa_cons (pv 0) pa_nil)))) (pss_one (L2N.ps_raise rfl (TakesK.toN (takesK_of rfl rfl rfl rfl)) (pmkN_oex T.x_NoProgram T.i_NoProgram T.t_NoProgram (ok_NoProgram_init T) hr T.b_NoProgram_init pass0 rfl T.g_NoProgram (pa_cons (pv 0) pa_nil)))) pss_nil)), ?_⟩
    refine ⟨_, rfl, v, d, rfl, hd, sd, _, rfl, ?_⟩
    cases e : kindD d with
    | true => exact iteF (k1 e)
    | false => exact iteT ⟨_, rfl, raise_x T.x_NoProgram T.n_NoProgram (k2 e)⟩
theorem ok_is_step (T : Txt K mg w) : FnOk P w K mg base (CXK P w) 4 T.f_is_step T.fd_is_step ["value", "kind"] (sp_is_step K T.C_NoProgram) := by
  refine okXK T.F_is_step sc_is_step (fun vs H Q E h => ?_) (fun cdv A outer s H vs Q E hr h => ?_)
  · obtain ⟨x, y, o, d, rfl, _⟩ := h
    rfl
  · obtain ⟨x, y, o, d, rfl, hv, hsho, hd, sd, k1, k2⟩ := h
    refine ⟨_, (pss_cons (ps_expr (pe_call (ok_require_kind T) hr rfl T.m_require_kind T.F_require_kind.kp T.b_require_kind .nil (passK (takesK_of rfl rfl rfl rfl)) (pa_cons (pv 1) pa_nil)))
        (pss_cons (ps_if (pt_not (pt_val (pe_callB (id := "isinstance") call_isi (by rfl) T.z_isinstance (by decide +kernel) (pa_cons (pv 0) (pa_cons (pe_bltn (v := .ty "tuple") (u := .type "tuple") (by rfl) T.z_tuple (by decide +kernel) rfl) pa_nil))))) (pss_one (ps_ret pe_bl)) pss_nil)
        (pss_cons (ps_if (pt_cmpR op_eq (pe_callB (id := "len") call_len_seq (by rfl) T.z_len (by decide +kernel) (pa_cons (pv 0) pa_nil)) pe_int (nomark _)) (pss_cons (ps_asg (pv 0) (pg_tup rfl (pgs_cons (pg_name (i := 2) sc_is_step.nd rfl (Or.inl rfl)) (pgs_cons (pg_name (i := 3) sc_is_step.nd rfl (Or.inl rfl)) (pgs_cons (pg_name (i := 4) sc_is_step.nd rfl (Or.inl rfl)) pgs_nil)))))
        (pss_one (ps_ret (pe_and (pe_cmpR (op_eqD hr.units) (pv 2) pe_str (nomark _)) (pe_and (pe_cmpR (op_inT (u65 hr)) (pv 3) (pe_ix ix_kdict (pe_glob (v := .ref T.A_LOCKS) rfl T.c_LOCKS rfl) (pv 1) (fun _ _ => rfl)) (by rfl)) (pe_one (pe_call (ok_is_name T) (hr.mono (by decide)) rfl T.m_is_name T.F_is_name.kp T.b_is_name .nil pass0 (pa_cons (pv 4) pa_nil)))))))) pss_nil)
        (pss_one (ps_ret (pe_cmpR (op_inT (u65 hr)) (pv 0) (pe_ix ix_kdict (pe_glob (v := .ref T.A_STEPS) rfl T.c_STEPS rfl) (pv 1) (fun _ _ => rfl)) (by rfl))))))), ?_⟩
    refine ⟨_, rfl, y, d, rfl, hd, sd, fun e1 => ?_, fun e => k1 e⟩
    obtain ⟨kd, hk, rfl⟩ := kindD_of e1
    have k := k2 kd rfl hk
    obtain rfl : y = .str kd := by cases hd; rfl
    have ty := hv.ty
    refine ⟨_, rfl, _, _, _, _, _, rfl, .ty _, ty, kit_o o (.inr (.inr (.inr rfl))), _, rfl, ?_⟩
    cases e : isT "tuple" o with
    | false =>
      rw [stepO_ty e] at k
      exact iteT (k H (Same.refl H))
    | true =>
      obtain ⟨a, xs, ds, rfl, rfl, hT, hD, hsh⟩ := hv.tup_of e
      have hst := (hsho _ rfl).2
      refine iteF ⟨_, rfl, _, _, rfl, .inr hT, rfl, _, rfl, ?_⟩
      rw [dec_int]
      by_cases e2 : xs.length = 3
      · have e3 : (((xs.length : Nat) : Int) == 3) = true := by rw [e2]; rfl
        rw [e3]
        obtain ⟨x, y, z, d1, d2, d3, rfl, rfl, h1, h2, h3⟩ := dp_three hD e2
        have s1 := shaped_item (shaped_of_tuple hsh (d := d1) (by simp))
        have s2 := shaped_item (shaped_of_tuple hsh (d := d2) (by simp))
        have s3 := shaped_item (shaped_of_tuple hsh (d := d3) (by simp))
        refine iteT ⟨_, rfl, a, _, rfl, hT, rfl, _, _, rfl, _, _, rfl, _, _, rfl, rfl, ?_⟩
        have k : ∀ H', Same H H' → Q (.bl (PyData.eqv d1 (.str "lock") && ((((locksT kd).map PyData.str).any fun z => PyData.eqv z d2) && nameO (some d3)))) H' := k
        refine ⟨_, rfl, d1, .str "lock", h1, .str _, s1, by decide +kernel, _, rfl, ?_⟩
        cases q1 : PyData.eqv d1 (.str "lock") with
        | false =>
          rw [q1] at k
          exact iteF (k H (Same.refl H))
        | true =>
          rw [q1] at k
          obtain ⟨u, ku, du⟩ := nsD_ok T.l_LOCKS T.d_LOCKS (locks_in hk)
          refine iteT ⟨_, rfl, _, rfl, _, _, u, rfl, rfl, ku, d2, _, h2, du H, s2, locks_shaped hk, _, rfl, ?_⟩
          cases q2 : (((locksT kd).map PyData.str).any fun z => PyData.eqv z d2) with
          | false =>
            rw [q2] at k
            exact iteF (k H (Same.refl H))
          | true =>
            rw [q2] at k
            exact iteT ⟨_, rfl, z, some d3, rfl, .dat h3 s3 (fun s e => hst s (by rw [e]; simp)), k⟩
      · have e3 : (((xs.length : Nat) : Int) == 3) = false := by
          rw [beq_eq_false_iff_ne]
          omega
        rw [e3]
        have hlen := dpAll_len hD
        have k : ∀ H', Same H H' → Q (.bl (stepD kd ds)) H' := k
        rw [stepD_else (by omega)] at k
        obtain ⟨u, ku, du⟩ := nsD_ok T.l_STEPS T.d_STEPS (steps_in hk)
        exact iteF ⟨_, rfl, _, rfl, _, _, u, rfl, rfl, ku, .tuple ds, _, .tup hT hD, du H, hsh, steps_shaped hk, k H (Same.refl H)⟩
theorem ok_step_text (T : Txt K mg w) : FnOk P w K mg base CX0 1 T.f_step_text T.fd_step_text ["step"] (sp_step_text K) := by
  refine T.F_step_text.ok sc_step_text (fun vs H Q E h => ?_) (fun cdv A outer s H vs Q E hr h => ?_)
  · obtain ⟨a, t, rfl, _⟩ := h
    rfl
  · obtain ⟨a, t, rfl, ha, hl, hz, k⟩ := h
    refine ⟨_, (pss_one (ps_ret (pe_join pe_str (pv 0)))), ?_⟩
    refine ⟨⟨_, rfl⟩, _, rfl, " ", a, t, rfl, rfl, .inr ha, ?_, k⟩
    have h1 := sum_le t 100000 hz
    have h2 : (" " : Str).length = 1 := by decide +kernel
    rw [h2]
    omega
theorem ok_ends_well (T : Txt K mg w) : FnOk P w K mg base CX0 1 T.f_ends_well T.fd_ends_well ["words"] (sp_ws K endsB) := by
  refine T.F_ends_well.ok sc_ends_well (fun vs H Q E h => ?_) (fun cdv A outer s H vs Q E hr h => ?_)
  · obtain ⟨l, ws, rfl, _⟩ := h
    rfl
  · obtain ⟨l, ws, rfl, hl, h1, h12, k⟩ := h
    refine ⟨_, (pss_one (ps_ret (pe_cmpR (op_eqD hr.units) (pe_lc (own := [("at", 1), ("word", 2)]) (g := gTup K 2 (gCons (gName 1) (gCons (gName 2) gNil))) rfl sc_ends_well.nd (pi_enum rfl T.z_enumerate (pa_cons (pv 0) pa_nil)) (blkOk_by (own := [("at", 1), ("word", 2)]) (N := ["words", "at", "word"]) (sc := defScope s_ends_well) (by decide +kernel)) (fun _ _ _ _ _ => (pg_tup rfl (pgs_cons (pg_name (i := 1) sc_ends_well.nd rfl (Or.inl rfl)) (pgs_cons (pg_name (i := 2) sc_ends_well.nd rfl (Or.inl rfl)) pgs_nil)))) (fun _ _ _ _ _ => (pts_one (pt_cmpR (r := rIn K false) op_in_seq (pv 2) (pe_tup (pa_cons pe_str (pa_cons pe_str pa_nil))) (by rfl)))) (fun _ _ _ _ _ => (pv 1))) (pe_lst (pa_cons (pe_op op_sub (pe_callB (id := "len") call_len (by rfl) T.z_len (by decide +kernel) (pa_cons (pv 0) pa_nil)) pe_int) pa_nil)) (nomark _)))), ?_⟩
    refine ⟨_, rfl, l, _, rfl, hl, fun D hD => ?_⟩
    refine lc_accE walk_enum hD (fun H' s' => s'.seq hl) (fun i => ((poss (fun w => decide (w ∈ (["end", "close"] : List Str))) ws i).map Int.ofNat).map V.int) rfl (fun i hi => ?_) ?_ ?_
    · rw [List.length_map, List.length_map]
      have := poss_len (fun w => decide (w ∈ (["end", "close"] : List Str))) ws i
      rw [List.length_map] at hi
      exact Nat.lt_of_le_of_lt this (Nat.lt_of_lt_of_le (show i < 100 by omega) (by decide))
    · rintro i T' x y H2 hi ex ey s1 hT R S r1 r2
      cases ex
      rw [List.getElem?_map] at ey
      obtain ⟨w0, hw0, rfl⟩ := Option.map_eq_some_iff.mp ey
      have hp : pAt (fun w => decide (w ∈ (["end", "close"] : List Str))) ws i = decide (w0 ∈ (["end", "close"] : List Str)) := by
        unfold pAt
        rw [hw0]
      have step := poss_step (fun w => decide (w ∈ (["end", "close"] : List Str))) ws i
      rw [hp] at step
      refine ⟨T', _, rfl, SqT.of hT, rfl, _, _, rfl, _, _, rfl, rfl, ?_⟩
      refine ⟨rfl, _, rfl, (by show 2 ≤ sizeLine; decide), fun t ht => ?_⟩
      have s2 := same_new (o := .tup [.str "end", .str "close"]) ht
      refine ⟨t, (["end", "close"] : List Str).map V.str, rfl, .inr (SqT.of upd_same), rfl, flat_strs _, _, rfl, ?_⟩
      rw [in_strs]
      cases eq : decide (w0 ∈ (["end", "close"] : List Str)) with
      | false =>
        rw [eq, if_neg (by decide)] at step
        exact iteFe rfl (r2 _ (by rw [step]) s2)
      | true =>
        rw [eq, if_pos rfl] at step
        exact iteTe rfl ⟨_, rfl, r1 _ _ (by rw [step, List.map_append, List.map_append]; rfl) s2⟩
    · intro H2 s1 hl2
      have hl2 : H2 D = some (.lst (((poss (fun w => decide (w ∈ (["end", "close"] : List Str))) ws (ws.map V.str).length).map Int.ofNat).map V.int)) := hl2
      rw [List.length_map] at hl2
      refine ⟨_, rfl, .ref l, _, rfl, .inl ⟨_, s1.seq hl, rfl⟩, _, _, rfl, rfl, (by show 1 ≤ sizeLine; decide), fun q hq => ?_⟩
      have s2 := same_new (o := .lst [.int (((ws.map V.str).length : Int) - 1)]) hq
      refine ⟨_, _, .lst (SqL.of (s2 _ _ hl2)) (dpAll_ints _), .lst (SqL.of upd_same) (dpAll_ints [((ws.map V.str).length : Int) - 1]), ints_shaped _, ints_shaped [_], ?_⟩
      have k := k _ (s1.trans s2)
      have e : PyData.eqv (.list (((poss (fun w => decide (w ∈ (["end", "close"] : List Str))) ws ws.length).map Int.ofNat).map .int)) (.list (([((ws.map V.str).length : Int) - 1]).map .int)) = endsB ws := by
        rw [eqv_ints, List.length_map]
        unfold endsB
        rw [Bool.eq_iff_iff, decide_eq_true_iff, decide_eq_true_iff]
        constructor
        · intro h
          have h2 : (poss (fun w => decide (w ∈ (["end", "close"] : List Str))) ws ws.length).map Int.ofNat = ([ws.length - 1]).map Int.ofNat := by
            rw [h]
            simp
            omega
          exact List.map_inj_right (fun a b q => Int.ofNat.inj q) |>.mp h2
        · intro h
          rw [h]
          simp
          omega
      rw [e]
      exact k
theorem ok_has_needed (T : Txt K mg w) : FnOk P w K mg base CX0 1 T.f_has_needed T.fd_has_needed ["words", "kind"] (sp_has K) := by
  refine T.F_has_needed.ok sc_has_needed (fun vs H Q E h => ?_) (fun cdv A outer s H vs Q E hr h => ?_)
  · obtain ⟨l, ws, kd, rfl, _⟩ := h
    rfl
  · obtain ⟨l, ws, kd, rfl, hk, hl, h1, h12, k⟩ := h
    refine ⟨_, (pss_cons (ps_if (pt_not (pt_val (pe_callB (id := "all") (cr_all rfl) (by rfl) T.z_all (by decide +kernel) (pa_cons (pe_lc (own := [("group", 3)]) (g := gName 3) (tt := tYes) rfl sc_has_needed.nd (pi_tup (pe_ix ix_kdict (pe_glob (v := .ref T.A_NEEDED) rfl T.c_NEEDED rfl) (pv 1) (fun _ _ => rfl))) (blkOk_by (own := [("group", 3)]) (N := ["words", "kind", "word", "group"]) (sc := defScope s_has_needed) (by decide +kernel)) (fun _ _ _ _ _ => (pg_name (i := 3) sc_has_needed.nd rfl (Or.inr rfl))) (fun _ _ _ _ _ => pts_nil) (fun _ _ _ _ _ => (pe_cmpR op_eq (pe_callB (id := "len") (r := fun xs H Q => ∃ p ys, xs = [.ref p] ∧ (SqL K H p ys ∨ SqT K H p ys) ∧ Q (.int ys.length) H) call_len_seq (by rfl) T.z_len (by decide +kernel) (pa_cons (pe_lc (own := [("word", 2)]) (g := gName 2) rfl sc_has_needed.nd (show PI _ _ _ (iList K _) from (pi_list (pv 0))) (blkOk_by (own := [("word", 2)]) (N := ["words", "kind", "word", "group"]) (by kernel_rfl)) (fun _ _ _ _ _ => (pg_name (i := 2) sc_has_needed.nd rfl (Or.inl rfl))) (fun _ _ _ _ _ => (pts_one (pt_cmpR (r := rIn K false) op_in_seq (pv 2) (pv 3) (by rfl)))) (fun _ _ _ _ _ => (pv 2))) pa_nil)) pe_int (nomark _)))) pa_nil)))) (pss_one (ps_ret pe_bl)) pss_nil)
        (pss_cons (ps_if (PW.pt (pw_and (pt_cmpR op_in_seq pe_str (pv 0) (by rfl)) (pw_and1 (pt_cmpR op_notIn_seq pe_str (pv 0) (by rfl))))) (pss_one (ps_ret pe_bl)) pss_nil)
        (pss_one (ps_ret (pe_callB (id := "all") (cr_all rfl) (by rfl) T.z_all (by decide +kernel) (pa_cons (pe_lc (own := [("word", 2)]) (g := gName 2) (tt := tYes) rfl sc_has_needed.nd (pi_tup (pe_glob (v := .ref T.A_AT_MOST_ONCE) rfl T.c_AT_MOST_ONCE rfl)) (blkOk_by (own := [("word", 2)]) (N := ["words", "kind", "word", "group"]) (sc := defScope s_has_needed) (by decide +kernel)) (fun _ _ _ _ _ => (pg_name (i := 2) sc_has_needed.nd rfl (Or.inl rfl))) (fun _ _ _ _ _ => pts_nil) (fun _ _ _ _ _ => (pe_cmpR op_le (show PE _ _ (tBM K "list" (rCntS K) _ _) from (pe_bm PySem.F.plainAttrs_list PySem.F.slot_list_count PySem.F.type_list_count mt_countS (pv 0) (pa_cons (pv 2) pa_nil))) pe_int (nomark _)))) pa_nil)))))), ?_⟩
    obtain ⟨u, ku, du⟩ := nsD_ok T.l_NEEDED T.d_NEEDED (needed_in hk)
    obtain ⟨a, xs, rfl, hT, hD⟩ := dp_tupT (du H)
    have hlen := dpAll_len hD
    rw [List.length_map] at hlen
    have n3 : (neededT kd).length ≤ 3 := by
      have all : ∀ k ∈ kindsL, (neededT k).length ≤ 3 := by decide +kernel
      exact all kd hk
    refine ⟨_, rfl, _, _, .ref a, rfl, rfl, ku, a, rfl, ⟨_, hT⟩, fun D hD1 => ?_⟩
    refine lc_acc walk_tup hD1 (fun H' s' => same_t s' hT) (fun i => ((neededT kd).take i).map fun g => V.bl (decide (cntG g ws = 1))) rfl (fun i hi => ?_) ?_ ?_
    · rw [List.length_map, List.length_take]
      exact Nat.lt_of_le_of_lt (Nat.le_trans (Nat.min_le_right _ _) n3) (by decide)
    · rintro i x H2 hi hx s1 R S r1 r2
      obtain ⟨d, hd, vx⟩ := dpAll_get hD hx
      rw [List.getElem?_map] at hd
      obtain ⟨g, hg, rfl⟩ := Option.map_eq_some_iff.mp hd
      obtain ⟨b, rfl, hb⟩ := dp_strsT (dp_mono s1 vx)
      refine ⟨rfl, tyes ⟨_, rfl, l, rfl, ⟨_, s1.seq hl⟩, fun D2 hD2 => ?_⟩⟩
      refine lc_acc walk_list hD2 (fun H' s' => (s1.trans s').seq hl) (fun j => ((ws.take j).filter fun w => decide (w ∈ g)).map V.str) rfl (fun j hj => ?_) ?_ ?_
      · rw [List.length_map]
        refine Nat.lt_of_le_of_lt (List.length_filter_le _ _) ?_
        rw [List.length_take]
        exact Nat.lt_of_le_of_lt (Nat.le_trans (Nat.min_le_right _ _) h12) (by decide)
      · rintro j y H3 hj hy s2 R2 S2 q1 q2
        rw [List.getElem?_map] at hy
        obtain ⟨w0, hw0, rfl⟩ := Option.map_eq_some_iff.mp hy
        refine ⟨rfl, _, rfl, _, rfl, b, _, rfl, .inr (same_t s2 hb), rfl, flat_strs g, _, rfl, ?_⟩
        rw [in_strs]
        cases eq : decide (w0 ∈ g) with
        | false => exact iteFe rfl (q2 _ (by rw [List.take_add_one, hw0]; simp [eq]) (Same.refl _))
        | true => exact iteTe rfl ⟨_, rfl, q1 _ _ (by rw [List.take_add_one, hw0]; simp [eq]) (Same.refl _)⟩
      · intro H3 s2 hl3
        have hl3 : H3 D2 = some (.lst (((ws.take (ws.map V.str).length).filter fun w => decide (w ∈ g)).map V.str)) := hl3
        rw [List.length_map, List.take_length] at hl3
        refine ⟨D2, _, rfl, .inl (SqL.of hl3), rfl, r1 _ _ ?_ s2⟩
        rw [List.take_add_one, hg, List.length_map]
        show List.map _ (_ ++ [g]) = _
        rw [List.map_append]
        congr 1
        show [V.bl (decide (cntG g ws = 1))] = [V.bl (decide (V.int ((List.filter (fun w => decide (w ∈ g)) ws).length : Nat) = V.int 1))]
        rw [dec_int]
        congr 2
        show decide (cntG g ws = 1) = (((cntG g ws : Nat) : Int) == 1)
        rw [Bool.eq_iff_iff, decide_eq_true_iff, beq_iff_eq]
        omega
    · intro H2 s1 hl2
      have hl2 : H2 D = some (.lst (((neededT kd).take xs.length).map fun g => V.bl (decide (cntG g ws = 1)))) := hl2
      rw [hlen, List.take_length] at hl2
      refine ⟨D, (neededT kd).map fun g => decide (cntG g ws = 1), rfl, SqL.of (by rw [hl2, List.map_map]; rfl), _, rfl, ?_⟩
      have k : ∀ H', Same H2 H' → Q (.bl (hasB kd ws)) H' := fun H' s' => k H' (s1.trans s')
      have hl := s1.seq hl
      have eA : (((neededT kd).map fun g => decide (cntG g ws = 1)).all fun b => b) = (neededT kd).all fun g => decide (cntG g ws = 1) := by rw [List.all_map]; rfl
      show if (!(((neededT kd).map fun g => decide (cntG g ws = 1)).all fun b => b)) = true then _ else _
      rw [eA]
      unfold hasB at k
      cases e1 : (neededT kd).all fun g => decide (cntG g ws = 1) with
      | false =>
        rw [e1] at k
        exact iteT (k _ (Same.refl _))
      | true =>
        rw [e1] at k
        refine iteF ⟨_, rfl, l, _, rfl, .inl hl, rfl, flat_strs ws, _, rfl, ?_⟩
        rw [in_strs]
        have hTo : SqT K H2 T.A_AT_MOST_ONCE (onceT.map V.str) := by
          obtain ⟨uo, ro, qo⟩ := datK_ok 4 T.d_AT_MOST_ONCE
          obtain rfl := relref ro
          have q := qo H2
          rw [once_is] at q
          obtain ⟨b, e, hb⟩ := dp_strsT q
          cases e
          exact hb
        cases e2 : decide (("wait" : Str) ∈ ws) with
        | false =>
          rw [e2] at k
          refine iteFe rfl (iteF ?_)
          refine ⟨T.A_AT_MOST_ONCE, rfl, ⟨_, hTo⟩, fun D3 hD3 => ?_⟩
          refine lc_acc walk_tup hD3 (fun H' s' => same_t s' hTo) (fun i => (onceT.take i).map fun w => V.bl (decide ((ws.filter fun x => decide (x = w)).length ≤ 1))) rfl (fun i hi => ?_) ?_ ?_
          · rw [List.length_map, List.length_take]
            exact Nat.lt_of_le_of_lt (Nat.min_le_right _ _) (by decide)
          · rintro i x H3 hi hx s2 R S r1 r2
            rw [List.getElem?_map] at hx
            obtain ⟨w0, hw0, rfl⟩ := Option.map_eq_some_iff.mp hx
            refine ⟨rfl, tyes ⟨_, rfl, .inl ⟨rfl, _, s2.seq hl⟩, _, rfl, l, ws, w0, rfl, rfl, s2.seq hl, _, _, rfl, rfl, r1 _ _ ?_ (Same.refl _)⟩⟩
            rw [List.take_add_one, hw0]
            show List.map _ (_ ++ [w0]) = _
            rw [List.map_append]
            congr 1
            show [V.bl (decide ((ws.filter fun x => decide (x = w0)).length ≤ 1))] = [V.bl (decide (((ws.filter fun x => decide (x = w0)).length : Nat) ≤ (1 : Int)))]
            congr 2
            rw [Bool.eq_iff_iff, decide_eq_true_iff, decide_eq_true_iff]
            omega
          · intro H3 s2 hl3
            refine ⟨D3, onceT.map fun w => decide ((ws.filter fun x => decide (x = w)).length ≤ 1), rfl, SqL.of ?_, ?_⟩
            · rw [hl3, List.map_map]
              rfl
            · have k := k _ s2
              rw [List.all_map]
              exact k
        | true =>
          rw [e2] at k
          refine iteTe rfl ⟨_, rfl, l, _, rfl, .inl hl, rfl, flat_strs ws, _, rfl, ?_⟩
          rw [in_strs]
          cases e3 : decide (("switch" : Str) ∈ ws) with
          | false =>
            rw [e3] at k
            exact iteTe rfl (k _ (Same.refl _))
          | true =>
            rw [e3] at k
            refine iteFe rfl ?_
            refine ⟨T.A_AT_MOST_ONCE, rfl, ⟨_, hTo⟩, fun D3 hD3 => ?_⟩
            refine lc_acc walk_tup hD3 (fun H' s' => same_t s' hTo) (fun i => (onceT.take i).map fun w => V.bl (decide ((ws.filter fun x => decide (x = w)).length ≤ 1))) rfl (fun i hi => ?_) ?_ ?_
            · rw [List.length_map, List.length_take]
              exact Nat.lt_of_le_of_lt (Nat.min_le_right _ _) (by decide)
            · rintro i x H3 hi hx s2 R S r1 r2
              rw [List.getElem?_map] at hx
              obtain ⟨w0, hw0, rfl⟩ := Option.map_eq_some_iff.mp hx
              refine ⟨rfl, tyes ⟨_, rfl, .inl ⟨rfl, _, s2.seq hl⟩, _, rfl, l, ws, w0, rfl, rfl, s2.seq hl, _, _, rfl, rfl, r1 _ _ ?_ (Same.refl _)⟩⟩
              rw [List.take_add_one, hw0]
              show List.map _ (_ ++ [w0]) = _
              rw [List.map_append]
              congr 1
              show [V.bl (decide ((ws.filter fun x => decide (x = w0)).length ≤ 1))] = [V.bl (decide (((ws.filter fun x => decide (x = w0)).length : Nat) ≤ (1 : Int)))]
              congr 2
              rw [Bool.eq_iff_iff, decide_eq_true_iff, decide_eq_true_iff]
              omega
            · intro H3 s2 hl3
              refine ⟨D3, onceT.map fun w => decide ((ws.filter fun x => decide (x = w)).length ≤ 1), rfl, SqL.of ?_, ?_⟩
              · rw [hl3, List.map_map]
                rfl
              · have k := k _ s2
                rw [List.all_map]
                exact k
theorem ok_comes_before (T : Txt K mg w) : FnOk P w K mg base CX0 1 T.f_comes_before T.fd_comes_before ["words", "earlier", "later"] (sp_before K) := by
  refine T.F_comes_before.ok sc_comes_before (fun vs H Q E h => ?_) (fun cdv A outer s H vs Q E hr h => ?_)
  · obtain ⟨l, e, f, ws, E', L', rfl, _⟩ := h
    rfl
  · obtain ⟨l, e, f, ws, E', L', rfl, hl, he, hf, h1, h12, k⟩ := h
    refine ⟨_, (C8.pss_cut (ps_set (i := 3) sc_comes_before.nd rfl (Or.inl rfl) (pe_callBK (id := "max") (ks := ["default"]) (cr_maxD rfl hr.units) (by rfl) T.z_max (by decide +kernel) (pa_cons (pe_lc (own := [("at", 5), ("word", 6)]) (g := gTup K 2 (gCons (gName 5) (gCons (gName 6) gNil))) rfl sc_comes_before.nd (pi_enum rfl T.z_enumerate (pa_cons (pv 0) pa_nil)) (blkOk_by (own := [("at", 5), ("word", 6)]) (N := ["words", "earlier", "later", "last", "first", "at", "word"]) (sc := defScope s_comes_before) (by decide +kernel)) (fun _ _ _ _ _ => (pg_tup rfl (pgs_cons (pg_name (i := 5) sc_comes_before.nd rfl (Or.inl rfl)) (pgs_cons (pg_name (i := 6) sc_comes_before.nd rfl (Or.inl rfl)) pgs_nil)))) (fun _ _ _ _ _ => (pts_one (pt_cmpR (r := rIn K false) op_in_seq (pv 6) (pv 1) (by rfl)))) (fun _ _ _ _ _ => (pv 5))) pa_nil) (pk_cons (pe_un un_neg pe_int) pk_nil)))
        (C8.pss_cut (ps_set (i := 4) sc_comes_before.nd rfl (Or.inl rfl) (pe_callBK (id := "min") (ks := ["default"]) (cr_minD rfl hr.units) (by rfl) T.z_min (by decide +kernel) (pa_cons (pe_lc (own := [("at", 5), ("word", 6)]) (g := gTup K 2 (gCons (gName 5) (gCons (gName 6) gNil))) rfl sc_comes_before.nd (pi_enum rfl T.z_enumerate (pa_cons (pv 0) pa_nil)) (blkOk_by (own := [("at", 5), ("word", 6)]) (N := ["words", "earlier", "later", "last", "first", "at", "word"]) (sc := defScope s_comes_before) (by decide +kernel)) (fun _ _ _ _ _ => (pg_tup rfl (pgs_cons (pg_name (i := 5) sc_comes_before.nd rfl (Or.inl rfl)) (pgs_cons (pg_name (i := 6) sc_comes_before.nd rfl (Or.inl rfl)) pgs_nil)))) (fun _ _ _ _ _ => (pts_one (pt_cmpR (r := rIn K false) op_in_seq (pv 6) (pv 2) (by rfl)))) (fun _ _ _ _ _ => (pv 5))) pa_nil) (pk_cons (pe_callB (id := "len") call_len_seq (by rfl) T.z_len (by decide +kernel) (pa_cons (pv 0) pa_nil)) pk_nil)))
        (pss_one (ps_ret (pe_cmpR op_lt (pv 3) (pv 4) (nomark _)))))), ?_⟩
    have pE : ∀ i ∈ poss (fun w => decide (w ∈ E')) ws ws.length, i < ws.length := fun i hi => by
      obtain ⟨x, hx, _⟩ := mem_poss.mp hi
      exact (List.getElem?_eq_some_iff.mp hx).1
    have pL : ∀ i ∈ poss (fun w => decide (w ∈ L')) ws ws.length, i < ws.length := fun i hi => by
      obtain ⟨x, hx, _⟩ := mem_poss.mp hi
      exact (List.getElem?_eq_some_iff.mp hx).1
    refine ⟨fun σ H' => ∃ (z : Int) (v5 v6 : Option V), σ = [some (.ref l), some (.ref e), some (.ref f), some (.int z), none, v5, v6] ∧ Same H H' ∧ ((poss (fun w => decide (w ∈ E')) ws ws.length = [] ∧ z = -1) ∨ (∃ i ∈ poss (fun w => decide (w ∈ E')) ws ws.length, z = (i : Int) ∧ ∀ n ∈ poss (fun w => decide (w ∈ E')) ws ws.length, n ≤ i)), ?_, ?_⟩
    · refine ⟨_, rfl, l, _, rfl, hl, fun D hD => ?_⟩
      refine lc_accE walk_enum hD (fun H' s' => s'.seq hl) (fun i => ((poss (fun w => decide (w ∈ E')) ws i).map Int.ofNat).map V.int) rfl (fun i hi => ?_) ?_ ?_
      · rw [List.length_map, List.length_map]
        have := poss_len (fun w => decide (w ∈ E')) ws i
        rw [List.length_map] at hi
        exact Nat.lt_of_le_of_lt this (Nat.lt_of_lt_of_le (show i < 100 by omega) (by decide))
      · rintro i T' x y H2 hi ex ey s1 hT R S r1 r2
        cases ex
        rw [List.getElem?_map] at ey
        obtain ⟨w0, hw0, rfl⟩ := Option.map_eq_some_iff.mp ey
        have hp : pAt (fun w => decide (w ∈ E')) ws i = decide (w0 ∈ E') := by
          unfold pAt
          rw [hw0]
        have step := poss_step (fun w => decide (w ∈ E')) ws i
        rw [hp] at step
        refine ⟨T', _, rfl, SqT.of hT, rfl, _, _, rfl, _, _, rfl, rfl, ?_⟩
        refine ⟨rfl, _, rfl, _, rfl, e, _, rfl, .inr (same_t s1 he), rfl, flat_strs _, _, rfl, ?_⟩
        rw [in_strs]
        cases eq : decide (w0 ∈ E') with
        | false =>
          rw [eq, if_neg (by decide)] at step
          exact iteFe rfl (r2 _ (by rw [step]) (Same.refl _))
        | true =>
          rw [eq, if_pos rfl] at step
          exact iteTe rfl ⟨_, rfl, r1 _ _ (by rw [step, List.map_append, List.map_append]; rfl) (Same.refl _)⟩
      intro H2 s1 hl2
      have hl2 : H2 D = some (.lst (((poss (fun w => decide (w ∈ E')) ws (ws.map V.str).length).map Int.ofNat).map V.int)) := hl2
      rw [List.length_map] at hl2
      refine ⟨_, rfl, D, _, .int (-1), rfl, rfl, SqL.of hl2, fun e0 => ⟨-1, _, _, rfl, s1, .inl ⟨List.map_eq_nil_iff.mp e0, rfl⟩⟩, fun m hm hx => ?_⟩
      obtain ⟨i, hi, rfl⟩ := List.mem_map.mp hm
      refine ⟨_, _, _, rfl, s1, .inr ⟨i, hi, rfl, fun n hn => ?_⟩⟩
      have := hx (Int.ofNat n) (List.mem_map.mpr ⟨n, hn, rfl⟩)
      exact Int.ofNat_le.mp this
    rintro σ H' ⟨z, v5, v6, rfl, sH, hz⟩
    have hl := sH.seq hl
    have hf := same_t sH hf
    have k : ∀ H'', Same H' H'' → Q (.bl (befB ws E' L')) H'' := fun H'' s' => k H'' (sH.trans s')
    refine ⟨fun σ H'' => ∃ (y : Int) (v5 v6 : Option V), σ = [some (.ref l), some (.ref e), some (.ref f), some (.int z), some (.int y), v5, v6] ∧ Same H' H'' ∧ ((poss (fun w => decide (w ∈ L')) ws ws.length = [] ∧ y = ws.length) ∨ (∃ i ∈ poss (fun w => decide (w ∈ L')) ws ws.length, y = (i : Int) ∧ ∀ n ∈ poss (fun w => decide (w ∈ L')) ws ws.length, i ≤ n)), ?_, ?_⟩
    · refine ⟨_, rfl, l, _, rfl, hl, fun D hD => ?_⟩
      refine lc_accE walk_enum hD (fun H' s' => s'.seq hl) (fun i => ((poss (fun w => decide (w ∈ L')) ws i).map Int.ofNat).map V.int) rfl (fun i hi => ?_) ?_ ?_
      · rw [List.length_map, List.length_map]
        have := poss_len (fun w => decide (w ∈ L')) ws i
        rw [List.length_map] at hi
        exact Nat.lt_of_le_of_lt this (Nat.lt_of_lt_of_le (show i < 100 by omega) (by decide))
      · rintro i T' x y H2 hi ex ey s1 hT R S r1 r2
        cases ex
        rw [List.getElem?_map] at ey
        obtain ⟨w0, hw0, rfl⟩ := Option.map_eq_some_iff.mp ey
        have hp : pAt (fun w => decide (w ∈ L')) ws i = decide (w0 ∈ L') := by
          unfold pAt
          rw [hw0]
        have step := poss_step (fun w => decide (w ∈ L')) ws i
        rw [hp] at step
        refine ⟨T', _, rfl, SqT.of hT, rfl, _, _, rfl, _, _, rfl, rfl, ?_⟩
        refine ⟨rfl, _, rfl, _, rfl, f, _, rfl, .inr (same_t s1 hf), rfl, flat_strs _, _, rfl, ?_⟩
        rw [in_strs]
        cases eq : decide (w0 ∈ L') with
        | false =>
          rw [eq, if_neg (by decide)] at step
          exact iteFe rfl (r2 _ (by rw [step]) (Same.refl _))
        | true =>
          rw [eq, if_pos rfl] at step
          exact iteTe rfl ⟨_, rfl, r1 _ _ (by rw [step, List.map_append, List.map_append]; rfl) (Same.refl _)⟩
      intro H2 s1 hl2
      have hl2 : H2 D = some (.lst (((poss (fun w => decide (w ∈ L')) ws (ws.map V.str).length).map Int.ofNat).map V.int)) := hl2
      rw [List.length_map] at hl2
      refine ⟨_, rfl, l, _, rfl, .inl (s1.seq hl), D, _, .int ((ws.map V.str).length : Nat), rfl, rfl, SqL.of hl2, fun e0 => ⟨_, _, _, rfl, s1, .inl ⟨List.map_eq_nil_iff.mp e0, by rw [List.length_map]⟩⟩, fun m hm hx => ?_⟩
      obtain ⟨i, hi, rfl⟩ := List.mem_map.mp hm
      refine ⟨_, _, _, rfl, s1, .inr ⟨i, hi, rfl, fun n hn => ?_⟩⟩
      have := hx (Int.ofNat n) (List.mem_map.mpr ⟨n, hn, rfl⟩)
      exact Int.ofNat_le.mp this
    rintro σ H'' ⟨y, v5, v6, rfl, s2, hy⟩
    refine ⟨_, rfl, _, rfl, _, _, rfl, rfl, ?_⟩
    have ee : decide (z < y) = befB ws E' L' := by
      unfold befB
      rw [Bool.eq_iff_iff, decide_eq_true_iff, decide_eq_true_iff]
      constructor
      · intro h i hi j hj
        rcases hz with ⟨e1, _⟩ | ⟨a, ha, rfl, hmax⟩
        · rw [e1] at hi
          cases hi
        · rcases hy with ⟨e2, _⟩ | ⟨b, hb, rfl, hmin⟩
          · rw [e2] at hj
            cases hj
          · have := hmax i hi
            have := hmin j hj
            omega
      · intro h
        rcases hz with ⟨_, rfl⟩ | ⟨a, ha, rfl, _⟩
        · rcases hy with ⟨_, rfl⟩ | ⟨b, hb, rfl, _⟩
          · omega
          · omega
        · have := pE a ha
          rcases hy with ⟨_, rfl⟩ | ⟨b, hb, rfl, _⟩
          · omega
          · have := h a ha b hb
            omega
    show Q (.bl (decide (z < y))) H''
    rw [ee]
    exact k _ s2
theorem ok_is_in_order (T : Txt K mg w) : FnOk P w K mg base CX0 2 T.f_is_in_order T.fd_is_in_order ["words"] (sp_ws K ordB) := by
  refine T.F_is_in_order.ok sc_is_in_order (fun vs H Q E h => ?_) (fun cdv A outer s H vs Q E hr h => ?_)
  · obtain ⟨l, ws, rfl, _⟩ := h
    rfl
  · obtain ⟨l, ws, rfl, hl, h1, h12, k⟩ := h
    refine ⟨_, (pss_one (ps_ret (pe_callB (id := "all") (cr_all rfl) (by rfl) T.z_all (by decide +kernel) (pa_cons (pe_lc (own := [("earlier", 1), ("later", 2)]) (g := gTup K 2 (gCons (gName 1) (gCons (gName 2) gNil))) (tt := tYes) rfl sc_is_in_order.nd (pi_tup (pe_glob (v := .ref T.A_ORDERS) rfl T.c_ORDERS rfl)) (blkOk_by (own := [("earlier", 1), ("later", 2)]) (N := ["words", "earlier", "later"]) (sc := defScope s_is_in_order) (by decide +kernel)) (fun _ _ _ _ _ => (pg_tup rfl (pgs_cons (pg_name (i := 1) sc_is_in_order.nd rfl (Or.inl rfl)) (pgs_cons (pg_name (i := 2) sc_is_in_order.nd rfl (Or.inl rfl)) pgs_nil)))) (fun _ _ _ _ _ => pts_nil) (fun _ _ _ _ _ => (pe_call (ok_comes_before T) hr rfl T.m_comes_before T.F_comes_before.kp T.b_comes_before .nil pass0 (pa_cons (pv 0) (pa_cons (pv 1) (pa_cons (pv 2) pa_nil)))))) pa_nil)))), ?_⟩
    obtain ⟨a, xs, ea, hT, hD⟩ : ∃ a xs, V.ref T.A_ORDERS = .ref a ∧ SqT K H a xs ∧ DpAll K H xs (ordersT.map fun p => .tuple [strsD p.1, strsD p.2]) := by
      obtain ⟨uo, ro, qo⟩ := datK_ok 4 T.d_ORDERS
      obtain rfl := relref ro
      have q := qo H
      rw [orders_is] at q
      exact dp_tupT q
    cases ea
    have hlen := dpAll_len hD
    rw [List.length_map] at hlen
    refine ⟨T.A_ORDERS, rfl, ⟨_, hT⟩, fun D hD1 => ?_⟩
    refine lc_acc walk_tup hD1 (fun H' s' => same_t s' hT) (fun i => (ordersT.take i).map fun p => V.bl (befB ws p.1 p.2)) rfl (fun i hi => ?_) ?_ ?_
    · rw [List.length_map, List.length_take]
      exact Nat.lt_of_le_of_lt (Nat.min_le_right _ _) (by decide)
    · rintro i x H2 hi hx s1 R S r1 r2
      obtain ⟨d, hd, vx⟩ := dpAll_get hD hx
      rw [List.getElem?_map] at hd
      obtain ⟨g, hg, rfl⟩ := Option.map_eq_some_iff.mp hd
      obtain ⟨b, ys, rfl, hb, hys⟩ := dp_tupT (dp_mono s1 vx)
      obtain ⟨y1, y2, d1, d2, rfl, e1, v1, v2⟩ := dp_two hys (dpAll_len hys)
      injection e1 with e1 e2
      injection e2 with e2 _
      subst e1 e2
      obtain ⟨b1, rfl, h1'⟩ := dp_strsT v1
      obtain ⟨b2, rfl, h2'⟩ := dp_strsT v2
      refine ⟨b, _, rfl, hb, rfl, _, _, rfl, _, _, rfl, rfl, rfl, tyes ⟨_, rfl, _, rfl, _, rfl, l, b1, b2, ws, g.1, g.2, rfl, s1.seq hl, h1', h2', h1, h12, fun H3 s3 => r1 _ _ ?_ s3⟩⟩
      rw [List.take_add_one, hg]
      show List.map _ (_ ++ [g]) = _
      rw [List.map_append]
      rfl
    · intro H2 s1 hl2
      have hl2 : H2 D = some (.lst ((ordersT.take xs.length).map fun p => V.bl (befB ws p.1 p.2))) := hl2
      rw [hlen, List.take_length] at hl2
      refine ⟨D, ordersT.map fun p => befB ws p.1 p.2, rfl, SqL.of (by rw [hl2, List.map_map]; rfl), ?_⟩
      rw [List.all_map]
      exact k _ s1
theorem ok_is_program (T : Txt K mg w) : FnOk P w K mg base (CXK P w) 5 T.f_is_program T.fd_is_program ["value", "kind"] (sp_is_program K T.C_NoProgram) := by
  refine okXK T.F_is_program sc_is_program (fun vs H Q E h => ?_) (fun cdv A outer s H vs Q E hr h => ?_)
  · obtain ⟨x, y, o, d, rfl, _⟩ := h
    rfl
  · obtain ⟨x, y, o, d, rfl, hv, hok, hd, sd, k1, k2⟩ := h
    refine ⟨_, (pss_cons (ps_expr (pe_call (ok_require_kind T) (hr.mono (by decide)) rfl T.m_require_kind T.F_require_kind.kp T.b_require_kind .nil (passK (takesK_of rfl rfl rfl rfl)) (pa_cons (pv 1) pa_nil)))
        (pss_cons (ps_if (PW.pt (pw_or (pt_not (pt_val (pe_callB (id := "isinstance") call_isi (by rfl) T.z_isinstance (by decide +kernel) (pa_cons (pv 0) (pa_cons (pe_bltn (v := .ty "list") (u := .type "list") (by rfl) T.z_list (by decide +kernel) rfl) pa_nil))))) (pw_or1 (pt_not (pt_chain op_le op_le pe_int (pe_callB (id := "len") call_len_seq (by rfl) T.z_len (by decide +kernel) (pa_cons (pv 0) pa_nil)) (pe_glob (v := .int 12) rfl T.c_MOST_STEPS ⟨_, rfl⟩)))))) (pss_one (ps_ret pe_bl)) pss_nil)
        (pss_cons (ps_if (pt_not (pt_val (pe_callB (id := "all") (cr_all rfl) (by rfl) T.z_all (by decide +kernel) (pa_cons (pe_lc (own := [("step", 3)]) (g := gName 3) (tt := tYes) rfl sc_is_program.nd (pi_list (pv 0)) (blkOk_by (own := [("step", 3)]) (N := ["value", "kind", "words", "step"]) (sc := defScope s_is_program) (by decide +kernel)) (fun _ _ _ _ _ => (pg_name (i := 3) sc_is_program.nd rfl (Or.inl rfl))) (fun _ _ _ _ _ => pts_nil) (fun _ _ _ _ _ => (pe_call (ok_is_step T) hr rfl T.m_is_step T.F_is_step.kp T.b_is_step .nil passLK (pa_cons (pv 3) (pa_cons (pv 1) pa_nil))))) pa_nil)))) (pss_one (ps_ret pe_bl)) pss_nil)
        (pss_cons (ps_setLc (i := 2) (own := [("step", 3)]) (g := gName 3) (tt := tYes) rfl sc_is_program.nd rfl rfl (sw_true rfl rfl rfl (by decide +kernel)) (pi_list (pv 0)) (blkOk_by (own := [("step", 3)]) (N := ["value", "kind", "words", "step"]) (sc := defScope s_is_program) (by decide +kernel)) (fun _ _ _ _ _ => (pg_name (i := 3) sc_is_program.nd rfl (Or.inl rfl))) (fun _ _ _ _ _ => pts_nil) (fun _ _ _ _ _ => (pe_call (ok_step_text T) (hr.mono (by decide)) rfl T.m_step_text T.F_step_text.kp T.b_step_text .nil pass0 (pa_cons (pe_slice (r := rSlA K) sl_tupA (pv 3) po_none (po_some pe_int)) pa_nil))))
        (pss_one (ps_ret (pe_and (pe_call (ok_ends_well T) (hr.mono (by decide)) rfl T.m_ends_well T.F_ends_well.kp T.b_ends_well .nil pass0 (pa_cons (pv 2) pa_nil)) (pe_and (pe_call (ok_has_needed T) (hr.mono (by decide)) rfl T.m_has_needed T.F_has_needed.kp T.b_has_needed .nil pass0 (pa_cons (pv 2) (pa_cons (pv 1) pa_nil))) (pe_one (pe_call (ok_is_in_order T) (hr.mono (by decide)) rfl T.m_is_in_order T.F_is_in_order.kp T.b_is_in_order .nil pass0 (pa_cons (pv 2) pa_nil))))))))))), ?_⟩
    refine ⟨_, rfl, y, d, rfl, hd, sd, fun e1 => ?_, fun e => k1 e⟩
    obtain ⟨kd, hk, rfl⟩ := kindD_of e1
    have k := k2 kd rfl hk
    obtain rfl : y = .str kd := by cases hd; rfl
    have ty := hv.ty
    refine ⟨_, rfl, _, _, _, _, _, rfl, .ty _, ty, kit_oL o, _, rfl, ?_⟩
    cases e : isT "list" o with
    | false =>
      rw [progO_ty e] at k
      exact iteT (iteT (k H (Same.refl H)))
    | true =>
      obtain ⟨a, xs, ds, rfl, rfl, hL, hD, hsh⟩ := hv.lst_of e
      have hlen := dpAll_len hD
      have hb := hok _ rfl
      have k : ∀ H', Same H H' → Q (.bl (progD kd ds)) H' := k
      refine iteF ⟨_, rfl, _, _, rfl, .inl hL, _, _, rfl, rfl, _, rfl, ?_⟩
      by_cases c1 : 1 ≤ ds.length
      rotate_left
      · have k : ∀ H', Same H H' → Q (.bl false) H' := fun H' s' => by
          have := k H' s'
          unfold progD at this
          rw [decide_eq_false (fun q => c1 q.1)] at this
          exact this
        refine iteFe (decide_eq_false (by rw [hlen]; omega)) ⟨_, rfl, ?_⟩
        exact iteT (k H (Same.refl H))
      refine iteTe (decide_eq_true (by rw [hlen]; omega)) ⟨_, _, rfl, rfl, _, rfl, ?_⟩
      by_cases c2 : ds.length ≤ 12
      rotate_left
      · have k : ∀ H', Same H H' → Q (.bl false) H' := fun H' s' => by
          have := k H' s'
          unfold progD at this
          rw [decide_eq_false (fun q => c2 q.2)] at this
          exact this
        refine iteTe ?_ (k H (Same.refl H))
        show (!decide ((xs.length : Int) ≤ 12)) = true
        rw [decide_eq_false (by rw [hlen]; omega)]
        rfl
      refine iteFe ?_ ?_
      · show (!decide ((xs.length : Int) ≤ 12)) = false
        rw [decide_eq_true (by rw [hlen]; omega)]
        rfl
      have k : ∀ H', Same H H' → Q (.bl ((ds.all fun d => stepO kd (some d)) && wordsB kd (ds.map wD))) H' := fun H' s' => by
        have := k H' s'
        unfold progD at this
        rw [decide_eq_true (⟨c1, c2⟩ : 1 ≤ ds.length ∧ ds.length ≤ 12)] at this
        exact this
      have allK : ∀ s ∈ kindsL, SeqAt.shaped (.str s) = true := by decide +kernel
      refine ⟨_, rfl, a, rfl, ⟨_, hL⟩, fun D hD1 => ?_⟩
      refine lc_acc walk_list hD1 (fun H' s' => s'.seq hL) (fun i => (ds.take i).map fun d => V.bl (stepO kd (some d))) rfl (fun i hi => ?_) ?_ ?_
      · rw [List.length_map, List.length_take]
        exact Nat.lt_of_le_of_lt (Nat.le_trans (Nat.min_le_right _ _) c2) (by decide)
      · rintro i x H2 hi hx s1 R S r1 r2
        obtain ⟨dx, hdx, vx⟩ := dpAll_get hD hx
        have hm := List.mem_of_getElem? hdx
        refine ⟨rfl, tyes ⟨_, rfl, _, rfl, x, .str kd, some dx, .str kd, rfl, .dat (dp_mono s1 vx) (shaped_item (shaped_of_list hsh hm)) (hb.2 _ hm).2, (hb.2 _ hm).1, .str kd, allK kd hk, (fun e => ?_), fun k2 e hk2 H3 s3 => r1 _ _ ?_ s3⟩⟩
        · rw [kindD_str, decide_eq_true hk] at e
          cases e
        · injection e with e
          subst e
          rw [List.take_add_one, hdx]
          show List.map _ (_ ++ [dx]) = _
          rw [List.map_append]
          rfl
      · intro H2 s1 hl2
        have hl2 : H2 D = some (.lst ((ds.take xs.length).map fun d => V.bl (stepO kd (some d)))) := hl2
        rw [hlen, List.take_length] at hl2
        refine ⟨D, ds.map fun d => stepO kd (some d), rfl, SqL.of (by rw [hl2, List.map_map]; rfl), _, rfl, ?_⟩
        have eA : ((ds.map fun d => stepO kd (some d)).all fun b => b) = ds.all fun d => stepO kd (some d) := by rw [List.all_map]; rfl
        show if (!((ds.map fun d => stepO kd (some d)).all fun b => b)) = true then _ else _
        rw [eA]
        cases e1 : ds.all fun d => stepO kd (some d) with
        | false =>
          rw [e1] at k
          exact iteT (k _ s1)
        | true =>
          rw [e1] at k
          obtain ⟨sss, rfl, hval⟩ := valid_strs fun d hd => List.all_eq_true.mp e1 d hd
          have ew : (sss.map strsD).map wD = sss.map fun ss => w1 (ss.take 2) := by
            rw [List.map_map]
            exact List.map_congr_left fun ss _ => wD_strs ss
          rw [ew] at k
          have hL2 := s1.seq hL
          refine iteF ⟨_, rfl, a, rfl, ⟨_, hL2⟩, fun D2 hD2 => ?_⟩
          rw [List.length_map] at c1 c2 hlen
          refine lc_acc walk_list hD2 (fun H' s' => s'.seq hL2) (fun i => (sss.take i).map fun ss => V.str (w1 (ss.take 2))) rfl (fun i hi => ?_) ?_ ?_
          · rw [List.length_map, List.length_take]
            exact Nat.lt_of_le_of_lt (Nat.le_trans (Nat.min_le_right _ _) c2) (by decide)
          · rintro i x H3 hi hx s2 R S r1 r2
            obtain ⟨dx, hdx, vx⟩ := dpAll_get hD hx
            rw [List.getElem?_map] at hdx
            obtain ⟨ss, hss, rfl⟩ := Option.map_eq_some_iff.mp hdx
            obtain ⟨b, rfl, hb'⟩ := dp_strsT (dp_mono (s1.trans s2) vx)
            have hm : strsD ss ∈ sss.map strsD := List.mem_map.mpr ⟨ss, List.mem_of_getElem? hss, rfl⟩
            have short : ∀ s ∈ ss.take 2, s.length ≤ 100000 := fun s hs => ((hb.2 _ hm).1 _ rfl).2 s (List.mem_map.mpr ⟨s, List.mem_of_mem_take hs, rfl⟩)
            have nx : (sss.take (i + 1)).map (fun ss => V.str (w1 (ss.take 2))) = ((sss.take i).map fun ss => V.str (w1 (ss.take 2))) ++ [V.str (w1 (ss.take 2))] := by
              rw [List.take_add_one, hss]
              show List.map _ (_ ++ [ss]) = _
              rw [List.map_append]
              rfl
            refine ⟨rfl, tyes ⟨_, rfl, 2, rfl, b, _, rfl, hb', fun wh => ?_, fun nw p hp => ?_⟩⟩
            · have e2 := whole2 wh.2
              exact ⟨b, ss.take 2, rfl, by rw [e2]; exact hb', by rw [List.length_take]; exact Nat.le_trans (Nat.min_le_left _ _) (by decide), short, r1 _ _ nx (Same.refl _)⟩
            · rw [cut_take2]
              exact ⟨p, ss.take 2, rfl, SqT.of upd_same, by rw [List.length_take]; exact Nat.le_trans (Nat.min_le_left _ _) (by decide), short, r1 _ _ nx (same_new hp)⟩
          · intro H3 s2 hl3
            have hl3 : H3 D2 = some (.lst ((sss.take xs.length).map fun ss => V.str (w1 (ss.take 2)))) := hl3
            rw [hlen, List.take_length] at hl3
            have hl3 : H3 D2 = some (.lst ((sss.map fun ss => w1 (ss.take 2)).map V.str)) := by
              rw [hl3, List.map_map]
              rfl
            have k : ∀ H', Same H3 H' → Q (.bl (wordsB kd (sss.map fun ss => w1 (ss.take 2)))) H' := fun H' s' => k H' (s1.trans (s2.trans s'))
            generalize hw : (sss.map fun ss => w1 (ss.take 2)) = W at k hl3
            have w1' : 1 ≤ W.length := by rw [← hw, List.length_map]; exact c1
            have w12 : W.length ≤ 12 := by rw [← hw, List.length_map]; exact c2
            unfold wordsB at k
            refine ⟨_, rfl, D2, W, rfl, SqL.of hl3, w1', w12, fun H4 s4 => ⟨_, rfl, ?_⟩⟩
            cases q1 : endsB W with
            | false =>
              rw [q1] at k
              exact iteF (k _ s4)
            | true =>
              rw [q1] at k
              refine iteT ⟨_, rfl, _, rfl, D2, W, kd, rfl, hk, SqL.of (s4 _ _ hl3), w1', w12, fun H5 s5 => ⟨_, rfl, ?_⟩⟩
              cases q2 : hasB kd W with
              | false =>
                rw [q2] at k
                exact iteF (k _ (s4.trans s5))
              | true =>
                rw [q2] at k
                exact iteT ⟨_, rfl, D2, W, rfl, SqL.of (s5 _ _ (s4 _ _ hl3)), w1', w12, fun H6 s6 => k _ (s4.trans (s5.trans s6))⟩
theorem ok_law_is_name (T : Txt K mg w) : FnOk P w K mg base CX0 1 T.f_law_is_name T.fd_law_is_name ["_law_value"] (sp_v1 K nameO) := by
  refine T.F_law_is_name.ok sc_law_is_name (fun vs H Q E h => ?_) (fun cdv A outer s H vs Q E hr h => ?_)
  · obtain ⟨v, o, rfl, _⟩ := h
    rfl
  · obtain ⟨v, o, rfl, hv, k⟩ := h
    have ty := hv.ty
    refine ⟨_, (pss_cons (ps_if (PW.pt (pw_or (pt_not (pt_val (pe_callB (id := "isinstance") call_isi (by rfl) T.z_isinstance (by decide +kernel) (pa_cons (pv 0) (pa_cons (pe_bltn (v := .ty "str") (u := .type "str") (by rfl) T.z_str (by decide +kernel) rfl) pa_nil))))) (pw_or (pt_cmpR op_eq (pv 0) pe_str (nomark _)) (pw_or (pt_cmpR op_lt (pe_callB (id := "len") call_len_str (by rfl) T.z_len (by decide +kernel) (pa_cons (pv 0) pa_nil)) pe_int (nomark _)) (pw_or1 (pt_cmpR op_gt (pe_callB (id := "len") call_len_str (by rfl) T.z_len (by decide +kernel) (pa_cons (pv 0) pa_nil)) pe_int (nomark _))))))) (pss_one (ps_ret pe_bl)) pss_nil)
        (pss_one (ps_ret (pe_cmpR (op_eqD hr.units) (pe_lc (own := [("_law_sign", 1)]) (g := gName 1) rfl sc_law_is_name.nd (pi_str (pv 0)) (blkOk_by (own := [("_law_sign", 1)]) (N := ["_law_value", "_law_sign"]) (sc := defScope s_law_is_name) (by decide +kernel)) (fun _ _ _ _ _ => (pg_name (i := 1) sc_law_is_name.nd rfl (Or.inl rfl))) (fun _ _ _ _ _ => (pts_one (pt_cmpR op_notIn_sign (pv 1) pe_str (by rfl)))) (fun _ _ _ _ _ => (pv 1))) (pe_lst pa_nil) (nomark _))))), ?_⟩
    refine ⟨_, rfl, _, _, _, _, _, rfl, .ty _, ty, kit_o o (.inr (.inr (.inl rfl))), _, rfl, ?_⟩
    cases e : isT "str" o with
    | false =>
      rw [nameO_no e] at k
      exact iteT (iteT (k H (Same.refl H)))
    | true =>
      obtain ⟨s, rfl, rfl, hs, hok⟩ := hv.str_of e
      have hz : s.length ≤ sizeLine := Nat.le_trans hs (by decide)
      refine iteF ⟨_, rfl, rfl, _, rfl, ?_⟩
      have k : ∀ H', Same H H' → Q (.bl (nameS s)) H' := k
      unfold nameS at k
      rw [dec_str]
      cases e1 : s == ("table" : Str) with
      | true =>
        rw [e1] at k
        exact iteT (iteT (k H (Same.refl H)))
      | false =>
        rw [e1] at k
        refine iteF ⟨_, rfl, _, rfl, hz, _, _, rfl, rfl, _, rfl, ?_⟩
        by_cases e2 : (1 : Int) ≤ s.length
        · have e2' : decide ((s.length : Int) < 1) = false := decide_eq_false (by omega)
          rw [decide_eq_true e2] at k
          rw [e2']
          refine iteF ⟨_, rfl, _, rfl, hz, _, _, rfl, rfl, _, rfl, ?_⟩
          by_cases e3 : (s.length : Int) ≤ 8
          · have e3' : decide ((8 : Int) < s.length) = false := decide_eq_false (by omega)
            rw [decide_eq_true e3] at k
            rw [e3']
            refine iteF ⟨_, rfl, _, rfl, fun D hD => ?_⟩
            refine lc_acc walk_str hD (fun _ _ => trivial) (fun i => ((s.cps.toList.take i).filter fun c => !okSign c).map fun c => V.str ⟨#[c]⟩) rfl (fun i hi => ?_) ?_ ?_
            · rw [List.length_map]
              have h1 := List.length_filter_le (fun c => !okSign c) (s.cps.toList.take i)
              rw [List.length_take] at h1
              have : s.cps.size ≤ 100000 := hs
              exact Nat.lt_of_le_of_lt h1 (Nat.lt_of_le_of_lt (Nat.min_le_left _ _) (Nat.lt_of_lt_of_le hi (Nat.le_trans this (by decide))))
            · rintro i x H2 hi ⟨c, hc, rfl⟩ s1 R S r1 r2
              have hc' : s.cps.toList[i]? = some c := by rw [Array.getElem?_toList]; exact hc
              refine ⟨rfl, _, rfl, c, _, rfl, rfl, _, rfl, ?_⟩
              rw [← okSign_is]
              cases e4 : okSign c with
              | true =>
                refine iteF (r2 _ ?_ (Same.refl _))
                rw [List.take_add_one, hc']
                simp [e4]
              | false =>
                refine iteT ⟨_, rfl, r1 _ _ ?_ (Same.refl _)⟩
                rw [List.take_add_one, hc']
                simp [e4]
            · intro H2 s1 hl
              have ht : s.cps.toList.take s.cps.size = s.cps.toList := by rw [← Array.length_toList, List.take_length]
              rw [ht] at hl
              refine ⟨Nat.zero_le _, fun q hq => ?_⟩
              have s2 : Same H2 (upd H2 q (.lst [])) := fun b o eb => by
                rw [upd_ne (ne_of_none eb hq)]
                exact eb
              have hq2 : Dp K (upd H2 q (.lst [])) (.ref q) (.list []) := .lst (SqL.of upd_same) .nil
              have hl2 : Dp K (upd H2 q (.lst [])) (.ref D) (.list ((s.cps.toList.filter fun c => !okSign c).map fun c => PyData.str ⟨#[c]⟩)) := by
                refine .lst (SqL.of (s2 _ _ hl)) ?_
                have := dpAll_strs (K := K) (H := upd H2 q (.lst [])) ((s.cps.toList.filter fun c => !okSign c).map fun c => (⟨#[c]⟩ : Str))
                rw [List.map_map, List.map_map] at this
                exact this
              refine ⟨_, _, hl2, hq2, shaped_list (n := 1) (by decide) (fun d hd => ?_), shaped_nil, ?_⟩
              · obtain ⟨c, hc, rfl⟩ := List.mem_map.mp hd
                refine ⟨?_, by simp [PyData.depth]⟩
                simp only [PyData.canLay0]
                exact strOk_sign (strOk_mem hok (List.mem_filter.mp hc).1)
              · rw [eqv_nil]
                have ee : (((s.cps.toList.filter fun c => !okSign c).map fun c => PyData.str ⟨#[c]⟩).isEmpty) = s.cps.toList.all okSign := by
                  rw [List.isEmpty_map]
                  generalize s.cps.toList = l
                  induction l with
                  | nil => rfl
                  | cons a r ih => cases h : okSign a <;> simp [h, ih]
                rw [ee]
                exact k _ (s1.trans s2)
          · have e3' : decide ((8 : Int) < s.length) = true := decide_eq_true (by omega)
            rw [decide_eq_false e3] at k
            rw [e3']
            exact iteT (k H (Same.refl H))
        · have e2' : decide ((s.length : Int) < 1) = true := decide_eq_true (by omega)
          rw [decide_eq_false e2] at k
          rw [e2']
          exact iteT (iteT (k H (Same.refl H)))
theorem ok_law_kinds (T : Txt K mg w) : FnOk P w K mg base CX0 1 T.f_law_kinds T.fd_law_kinds [] sp_law_kinds := by
  refine T.F_law_kinds.ok sc_law_kinds (fun vs H Q E h => ?_) (fun cdv A outer s H vs Q E hr h => ?_)
  · obtain ⟨rfl, _⟩ := h
    rfl
  · obtain ⟨rfl, k⟩ := h
    refine ⟨_, (pss_one (ps_ret (pe_lst (pa_cons pe_str (pa_cons pe_str (pa_cons pe_str (pa_cons pe_str (pa_cons pe_str (pa_cons pe_str (pa_cons pe_str (pa_cons pe_str pa_nil))))))))))), ?_⟩
    exact ⟨(by show 8 ≤ sizeLine; decide), fun p hp => k p hp⟩
theorem ok_law_is_step (T : Txt K mg w) : FnOk P w K mg base CX0 2 T.f_law_is_step T.fd_law_is_step ["_law_value", "_law_kind"] (sp_law_is_step K) := by
  refine T.F_law_is_step.ok sc_law_is_step (fun vs H Q E h => ?_) (fun cdv A outer s H vs Q E hr h => ?_)
  · obtain ⟨v, o, kd, rfl, _⟩ := h
    rfl
  · obtain ⟨v, o, kd, rfl, hv, hsho, hk, k⟩ := h
    refine ⟨_, (pss_cons (ps_par (i := 2) (j := 3) (by rfl) sc_law_is_step.nd rfl rfl (by decide) rfl rfl (pa_cons (pe_lst (pa_cons pe_str (pa_cons pe_str (pa_cons pe_str pa_nil)))) (pa_cons (pe_lst (pa_cons pe_str (pa_cons pe_str (pa_cons pe_str (pa_cons pe_str pa_nil))))) pa_nil)) (by rfl))
        (pss_cons (ps_if (PW.pt (pw_or (pt_not (pt_val (pe_callB (id := "isinstance") call_isi (by rfl) T.z_isinstance (by decide +kernel) (pa_cons (pv 0) (pa_cons (pe_bltn (v := .ty "tuple") (u := .type "tuple") (by rfl) T.z_tuple (by decide +kernel) rfl) pa_nil))))) (pw_or (pt_cmpR (op_eqD hr.units) (pv 0) (pe_tup pa_nil) (nomark _)) (pw_or1 (pt_cmpR (op_neD hr.units) (pe_lc (own := [("_law_item", 7)]) (g := gName 7) rfl sc_law_is_step.nd (pi_tup (pv 0)) (blkOk_by (own := [("_law_item", 7)]) (N := ["_law_value", "_law_kind", "_law_askers", "_law_changes", "_law_at", "_law_where", "_law_word", "_law_item"]) (sc := defScope s_law_is_step) (by decide +kernel)) (fun _ _ _ _ _ => (pg_name (i := 7) sc_law_is_step.nd rfl (Or.inl rfl))) (fun _ _ _ _ _ => (pts_one (pt_not (pt_val (pe_callB (id := "isinstance") (r := rIsi K) call_isi (by rfl) T.z_isinstance (by decide +kernel) (pa_cons (pv 7) (pa_cons (pe_bltn (v := .ty "str") (u := .type "str") (by rfl) T.z_str (by decide +kernel) rfl) pa_nil))))))) (fun _ _ _ _ _ => (pv 7))) (pe_lst pa_nil) (nomark _)))))) (pss_one (ps_ret pe_bl)) pss_nil)
        (pss_cons (ps_if (pt_cmpR op_eq (pe_ix ix_tup (pv 0) pe_int (fun _ _ => rfl)) pe_str (nomark _)) (pss_cons (ps_if (PW.pt (pw_or (pt_cmpR op_ne (pe_callB (id := "len") call_len_seq (by rfl) T.z_len (by decide +kernel) (pa_cons (pv 0) pa_nil)) pe_int (nomark _)) (pw_or1 (pt_not (pt_val (pe_call (ok_law_is_name T) hr rfl T.m_law_is_name T.F_law_is_name.kp T.b_law_is_name .nil pass0 (pa_cons (pe_ix ix_tup (pv 0) pe_int (fun _ _ => rfl)) pa_nil))))))) (pss_one (ps_ret pe_bl)) pss_nil)
        (pss_cons (ps_set (i := 4) sc_law_is_step.nd rfl (Or.inl rfl) (pe_disp (pps_cons pe_str (pe_op op_cat (pv 2) (pv 3)) (pps_cons pe_str (pe_op op_cat (pv 2) (pe_lst (pa_cons pe_str pa_nil))) (pps_cons pe_str (pe_slice sl_list (pv 3) (po_some pe_int) po_none) (pps_cons pe_str (pv 3) pps_nil)))) (by rfl) (by rfl) (fun z => by cases z) (by decide)))
        (pss_cons (ps_dput (hu_of hr) (pv 4) pe_str (pe_lst (pa_cons pe_str (pa_cons pe_str (pa_cons pe_str pa_nil)))) rfl)
        (pss_one (ps_ret (pe_cmpR op_in_seq (pv 1) (pe_dget2 (hu_of hr) (pv 4) (pe_ix ix_tup (pv 0) pe_int (fun _ _ => rfl)) (pe_lst pa_nil) ⟨rfl, rfl, rfl, rfl⟩) (by rfl))))))) pss_nil)
        (pss_cons (ps_if (pt_cmpR op_eq (pe_ix ix_tup (pv 0) pe_int (fun _ _ => rfl)) pe_str (nomark _)) (pss_one (ps_ret (pe_and (pe_cmpR op_eq (pv 1) pe_str (nomark _)) (pe_one (pe_cmpR (op_inD (u65 hr)) (pe_slice sl_tup (pv 0) (po_some pe_int) po_none) (pe_lst (pa_cons (pe_tup (pa_cons pe_str pa_nil)) (pa_cons (pe_tup (pa_cons pe_str pa_nil)) pa_nil))) (by rfl)))))) pss_nil)
        (pss_cons (ps_if (pt_cmpR op_ne (pe_callB (id := "len") call_len_seq (by rfl) T.z_len (by decide +kernel) (pa_cons (pv 0) pa_nil)) pe_int (nomark _)) (pss_one (ps_ret pe_bl)) pss_nil)
        (pss_cons (ps_set (i := 5) sc_law_is_step.nd rfl (Or.inl rfl) (pe_disp (pps_cons pe_str (pv 2) (pps_cons pe_str (pv 2) (pps_cons pe_str (pe_lst (pa_cons pe_str pa_nil)) (pps_cons pe_str (pe_lst (pa_cons pe_str pa_nil)) (pps_cons pe_str (pe_call0 (ok_law_kinds T) hr rfl T.m_law_kinds T.F_law_kinds.kp T.b_law_kinds .nil pass0) pps_nil))))) (by rfl) (by rfl) (fun z => by cases z) (by decide)))
        (pss_cons (ps_for PassesOwn.never rfl (pi_list (pe_lst (pa_cons pe_str (pa_cons pe_str (pa_cons pe_str pa_nil))))) (pg_name (i := 6) sc_law_is_step.nd rfl (Or.inl rfl))
          (pss_one (ps_dput (hu_of hr) (pv 5) (pv 6) (pe_lst (pa_cons pe_str (pa_cons pe_str pa_nil))) rfl)))
        (pss_cons (ps_for PassesOwn.never rfl (pi_list (pe_lst (pa_cons pe_str (pa_cons pe_str pa_nil)))) (pg_name (i := 6) sc_law_is_step.nd rfl (Or.inl rfl))
          (pss_one (ps_dput (hu_of hr) (pv 5) (pv 6) (pe_lst (pa_cons pe_str pa_nil)) rfl)))
        (pss_cons (ps_for PassesOwn.never rfl (pi_list (pe_lst (pa_cons pe_str (pa_cons pe_str (pa_cons pe_str pa_nil))))) (pg_name (i := 6) sc_law_is_step.nd rfl (Or.inl rfl))
          (pss_one (ps_dput (hu_of hr) (pv 5) (pv 6) (pv 3) rfl)))
        (pss_cons (ps_dput (hu_of hr) (pv 5) pe_str (pe_lst (pa_cons pe_str (pa_cons pe_str pa_nil))) rfl)
        (pss_one (ps_ret (pe_cmpR op_in_seq (pv 1) (pe_dget2 (hu_of hr) (pv 5) (pe_ix ix_tup (pv 0) pe_int (fun _ _ => rfl)) (pe_lst pa_nil) ⟨rfl, rfl, rfl, rfl⟩) (by rfl)))))))))))))), ?_⟩
    refine ⟨(by show 3 ≤ sizeLine; decide), fun la hla => ⟨(by show 4 ≤ sizeLine; decide), fun lc hlc => ⟨_, _, rfl, ?_⟩⟩⟩
    have sa := same_new (o := .lst [.str "put", .str "strike", .str "read"]) hla
    have sc := same_new (o := .lst [.str "hang", .str "take", .str "split", .str "join"]) hlc
    have sac := sa.trans sc
    have ga : upd (upd H la (.lst [.str "put", .str "strike", .str "read"])) lc (.lst [.str "hang", .str "take", .str "split", .str "join"]) la = some (.lst (askersL.map V.str)) := sc _ _ upd_same
    have gc : upd (upd H la (.lst [.str "put", .str "strike", .str "read"])) lc (.lst [.str "hang", .str "take", .str "split", .str "join"]) lc = some (.lst (changesL.map V.str)) := upd_same
    have hv := hv.mono sac
    have k : ∀ H', Same (upd (upd H la (.lst [.str "put", .str "strike", .str "read"])) lc (.lst [.str "hang", .str "take", .str "split", .str "join"])) H' → Q (.bl (stepO kd o)) H' := fun H' s' => k H' (sac.trans s')
    generalize hG : upd (upd H la (.lst [.str "put", .str "strike", .str "read"])) lc (.lst [.str "hang", .str "take", .str "split", .str "join"]) = G at ga gc hv k ⊢
    clear hG
    have ty := hv.ty
    refine ⟨_, rfl, _, _, _, _, _, rfl, .ty _, ty, kit_o o (.inr (.inr (.inr rfl))), _, rfl, ?_⟩
    cases e : isT "tuple" o with
    | false =>
      rw [stepO_ty e] at k
      exact iteT (iteT (k G (Same.refl G)))
    | true =>
      obtain ⟨a, xs, ds, rfl, rfl, hT, hD, hsh⟩ := hv.tup_of e
      have hst := (hsho _ rfl).1
      have hst2 := (hsho _ rfl).2
      refine iteF ⟨_, rfl, (by show 0 ≤ sizeLine; decide), fun t0 ht0 => ?_⟩
      have s0 := same_new (o := .tup []) ht0
      refine ⟨.tuple ds, .tuple [], .tup (same_t s0 hT) (dpAll_mono s0 hD), .tup (SqT.of upd_same) .nil, hsh, by decide +kernel, _, rfl, ?_⟩
      have k : ∀ H', Same G H' → Q (.bl (stepD kd ds)) H' := k
      cases e0 : PyData.eqv (.tuple ds) (.tuple []) with
      | true =>
        have e1 : ds = [] := by
          cases ds with
          | nil => rfl
          | cons d r => simp [PyData.eqv, PyData.eqvAll] at e0
        rw [e1, show stepD kd [] = stepS kd [] from stepD_strs kd [], stepS_law hk] at k
        exact iteT (iteT (k _ s0))
      | false =>
        have e1 : ds ≠ [] := fun q => by
          rw [q] at e0
          simp [PyData.eqv, PyData.eqvAll] at e0
        refine iteF ⟨_, rfl, a, rfl, ⟨_, same_t s0 hT⟩, fun D hD2 => ?_⟩
        have hlen := dpAll_len hD
        refine lc_acc walk_tup hD2 (fun H' s' => same_t (s0.trans s') hT) (fun i => filtG notStr (xs.take i) (ds.take i)) rfl (fun i hi => Nat.lt_of_le_of_lt (filtG_len _ _ _) ?_) ?_ ?_
        · rw [List.length_take]
          exact Nat.lt_of_le_of_lt (Nat.le_trans (Nat.min_le_right _ _) (by rw [hlen]; exact hst)) (by decide)
        · rintro i z H2 hi hz s1 R S r1 r2
          obtain ⟨dz, hdz, vz⟩ := dpAll_get hD hz
          have tz := (dp_vO (dp_mono (s0.trans s1) vz)).1
          have step := filtG_step (f := notStr) hz hdz
          refine ⟨rfl, _, rfl, _, _, _, _, _, rfl, .ty _, tz, kit_o (some dz) (.inr (.inr (.inl rfl))), _, rfl, ?_⟩
          have en : isT "str" (some dz) = !notStr dz := by cases dz <;> rfl
          rw [en]
          cases q : notStr dz with
          | false =>
            rw [if_neg (by rw [q]; decide)] at step
            exact iteF (r2 _ step (Same.refl _))
          | true =>
            rw [if_pos q] at step
            exact iteT ⟨_, rfl, r1 _ _ step (Same.refl _)⟩
        · intro H2 s1 hl
          have hl : H2 D = some (.lst (filtG notStr (xs.take xs.length) (ds.take xs.length))) := hl
          rw [List.take_length, hlen, List.take_length] at hl
          refine ⟨Nat.zero_le _, fun q hq => ?_⟩
          have s2 := same_new (o := .lst []) hq
          have sC := s0.trans (s1.trans s2)
          refine ⟨_, _, .lst (SqL.of (s2 _ _ hl)) (filtG_dp (dpAll_mono sC hD)), .lst (SqL.of upd_same) .nil, shaped_list (n := 63) (by decide) (fun d hd => shaped_of_tuple hsh (List.mem_filter.mp hd).1), shaped_nil, _, rfl, ?_⟩
          rw [eqv_nil]
          cases ef : (ds.filter notStr).isEmpty with
          | false =>
            rw [stepD_no (strs_ds_no ef)] at k
            exact iteT (k _ sC)
          | true =>
            obtain ⟨ss, rfl⟩ := strs_ds ef
            obtain rfl := dp_strs hD
            rw [stepD_strs, stepS_law hk] at k
            have k : ∀ H', Same (upd H2 q (.lst [])) H' → Q (.bl (lawS kd ss)) H' := fun H' s' => k H' (sC.trans s')
            have hT := same_t sC hT
            have ga := sC _ _ ga
            have gc := sC _ _ gc
            have hshort : ∀ s ∈ ss, s.length ≤ 100000 := fun s hs => hst2 s (List.mem_map.mpr ⟨s, hs, rfl⟩)
            have hok : ∀ s ∈ ss, SeqAt.shaped (.str s) = true := fun s hs => shaped_item (shaped_of_tuple hsh (List.mem_map.mpr ⟨s, hs, rfl⟩))
            cases ss with
            | nil => exact absurd rfl e1
            | cons w0 r =>
            clear hsho hv hD hsh e hlen hst hst2 e0 e1 ef hl s2 s1 s0 hD2 ht0 hq
            generalize upd H2 q (.lst []) = G at sC k hT ga gc ⊢
            refine iteF ⟨_, rfl, a, _, _, _, rfl, rfl, hT, atI_nat (j := 0) rfl, rfl, _, rfl, ?_⟩
            rw [dec_str]
            cases q0 : (w0 == ("lock" : Str)) with
            | true =>
              obtain rfl := eq_of_beq q0
              refine iteT ⟨_, rfl, _, _, rfl, .inr hT, rfl, _, rfl, ?_⟩
              rw [dec_int]
              have k : ∀ H', Same G H' → Q (.bl (lockR kd r)) H' := k
              rcases r with _ | ⟨b, _ | ⟨c, _ | ⟨d, r⟩⟩⟩
              · exact iteT (iteT (k _ (Same.refl _)))
              · exact iteT (iteT (k _ (Same.refl _)))
              · refine iteF ⟨_, rfl, a, _, _, _, rfl, rfl, hT, atI_nat (j := 2) rfl, .str c, some (.str c), rfl, .dat (.str c) (hok c (by simp)) (fun s e => by cases e; exact hshort c (by simp)), fun H3 s3 => ⟨_, rfl, ?_⟩⟩
                have k : ∀ H', Same G H' → Q (.bl (nameS c && decide (kd ∈ (getO atTb b).getD []))) H' := k
                show if (!nameS c) = true then _ else _
                cases en : nameS c with
                | false =>
                  rw [en] at k
                  exact iteT (k _ s3)
                | true =>
                  rw [en] at k
                  have k : ∀ H', Same H3 H' → Q (.bl (decide (kd ∈ (getO atTb b).getD []))) H' := fun H' s' => k H' (s3.trans s')
                  have hT := same_t s3 hT
                  have ga := s3 _ _ ga
                  have gc := s3 _ _ gc
                  refine iteF ?_
                  intro pd hpd
                  have s4 := same_new (o := .dK []) hpd
                  refine ⟨_, rfl, _, rfl, la, lc, _, _, rfl, rfl, s4 _ _ ga, s4 _ _ gc, (by show 3 + 4 ≤ sizeLine; decide), fun l1 hl1 => ?_⟩
                  have s5 := same_new (o := .lst ((askersL ++ changesL).map V.str)) hl1
                  have s45 := s4.trans s5
                  refine ⟨_, rfl, (by show 1 ≤ sizeLine; decide), fun m1 hm1 => ?_⟩
                  have s6 := same_new (o := .lst [.str "direct"]) hm1
                  have s46 := s45.trans s6
                  refine ⟨la, m1, _, _, rfl, rfl, s46 _ _ ga, upd_same, (by show 3 + 1 ≤ sizeLine; decide), fun l2 hl2 => ?_⟩
                  have s7 := same_new (o := .lst ((askersL ++ (["direct"] : List Str)).map V.str)) hl2
                  have s47 := s46.trans s7
                  refine ⟨_, rfl, 1, rfl, lc, _, rfl, SqL.of (s47 _ _ gc), fun l3 hl3 => ?_⟩
                  have s8 := same_new (o := .lst ((["take", "split", "join"] : List Str).map V.str)) hl3
                  have s48 := s47.trans s8
                  have hpd8 := s8 _ _ (s7 _ _ (s6 _ _ (s5 _ _ (upd_same (H := H3) (a := pd) (o := .dK [])))))
                  refine ⟨_, rfl, hpd8, [(.inr "table", .ref l1), (.inr "part", .ref l2), (.inr "old", .ref l3), (.inr "rest", .ref lc)], rfl, (by show 4 ≤ 15; decide), ?_⟩
                  have kt : KvT _ _ (([("table", askersL ++ changesL), ("part", askersL ++ (["direct"] : List Str)), ("old", ["take", "split", "join"]), ("rest", changesL)] : List (Str × List Str))) := .cons (s := "table") (s8 _ _ (s7 _ _ (s6 _ _ upd_same))) (.cons (s := "part") (s8 _ _ upd_same) (.cons (s := "old") upd_same (.cons (s := "rest") (s48 _ _ gc) .nil)))
                  have kt := (kt.merge .nil (by decide +kernel)).over (o := .dK (mergeK [] [(.inr "table", .ref l1), (.inr "part", .ref l2), (.inr "old", .ref l3), (.inr "rest", .ref lc)])) hpd8
                  have sb := same_over s48 (o := .dK (mergeK [] [(.inr "table", .ref l1), (.inr "part", .ref l2), (.inr "old", .ref l3), (.inr "rest", .ref lc)])) hpd
                  refine ⟨(by show 3 ≤ sizeLine; decide), fun l4 hl4 => ?_⟩
                  have s9 := same_new (o := .lst ((["hang", "split", "join"] : List Str).map V.str)) hl4
                  have hd := s9 _ _ (upd_same (a := pd) (o := .dK (mergeK [] [(.inr "table", .ref l1), (.inr "part", .ref l2), (.inr "old", .ref l3), (.inr "rest", .ref lc)])))
                  have kt := kt.mono s9
                  refine ⟨_, rfl, pd, _, rfl, DPut.k (k := .inr "new") hd (by rw [kt.len]; decide), ?_⟩
                  have kt := (kt.put (ss := (["hang", "split", "join"] : List Str)) (w := "new") upd_same (by decide +kernel)).over (o := .dK (putK (mergeK [] [(.inr "table", .ref l1), (.inr "part", .ref l2), (.inr "old", .ref l3), (.inr "rest", .ref lc)]) (.inr "new") (.ref l4))) hd
                  have sb := same_over (sb.trans s9) (o := .dK (putK (mergeK [] [(.inr "table", .ref l1), (.inr "part", .ref l2), (.inr "old", .ref l3), (.inr "rest", .ref lc)]) (.inr "new") (.ref l4))) hpd
                  refine ⟨_, rfl, _, rfl, pd, rfl, .inl ⟨_, .inl upd_same⟩, _, rfl, a, _, _, _, rfl, rfl, same_t sb hT, atI_nat (j := 1) rfl, (by show 0 ≤ sizeLine; decide), fun q hq => ?_⟩
                  have s10 := same_new (o := .lst []) hq
                  have kt := kt.mono s10
                  have k := k _ (sb.trans s10)
                  refine ⟨_, DGet.k (k := .inr b) (s10 _ _ upd_same), ?_⟩
                  rcases kt.get b with ⟨e1, e2⟩ | ⟨a', ss, e1, e2, e3⟩
                  · rw [show getO atTb b = _ from e1] at k
                    rw [e2]
                    exact ⟨q, [], rfl, .inl (SqL.of upd_same), rfl, rfl, k⟩
                  · rw [show getO atTb b = _ from e1] at k
                    rw [e2]
                    refine ⟨a', ss.map V.str, rfl, .inl (SqL.of e3), rfl, flat_strs ss, ?_⟩
                    rw [in_strs]
                    exact k
              · refine iteTe ?_ (iteT (k _ (Same.refl _)))
                show (!(((List.length (V.str "lock" :: V.str b :: V.str c :: V.str d :: List.map V.str r) : Nat) : Int) == 3)) = true
                rw [Bool.not_eq_true', beq_eq_false_iff_ne]
                simp only [List.length_cons]
                omega
            | false =>
              have w1 : ¬ w0 = ("lock" : Str) := fun e => by rw [e] at q0; cases q0
              have k : ∀ H', Same G H' → Q (.bl (if w0 = "scan" then decide (kd = "hang") && decide (r ∈ ([["new"], ["rest"]] : List (List Str))) else whereR kd w0 r)) H' := fun H' s' => by
                have := k H' s'
                rw [show lawS kd (w0 :: r) = if w0 = "lock" then lockR kd r else _ from rfl, if_neg w1] at this
                exact this
              refine iteF ⟨_, rfl, a, _, _, _, rfl, rfl, hT, atI_nat (j := 0) rfl, rfl, _, rfl, ?_⟩
              rw [dec_str]
              cases q1 : (w0 == ("scan" : Str)) with
              | true =>
                obtain rfl := eq_of_beq q1
                rw [if_pos rfl] at k
                refine iteT ⟨_, rfl, rfl, _, rfl, ?_⟩
                rw [dec_str]
                cases q2 : (kd == ("hang" : Str)) with
                | false =>
                  rw [decide_eq_false fun e => by rw [e] at q2; cases q2] at k
                  exact iteF (k _ (Same.refl _))
                | true =>
                  rw [decide_eq_true (eq_of_beq q2)] at k
                  refine iteT ⟨_, rfl, 1, rfl, a, _, rfl, hT, (fun q => ?_), fun t ht => ?_⟩
                  · have := q.1
                    rw [show (1 : Int) = ((1 : Nat) : Int) from rfl, HT.sIx_nat] at this
                    simp at this
                  · have ec : cutV ((("scan" : Str) :: r).map V.str) (some 1) none = r.map V.str := by
                      unfold cutV
                      rw [show (1 : Int) = ((1 : Nat) : Int) from rfl, HT.sIx_nat, HT.sIx_none]
                      simp
                      exact List.take_of_length_le (by simp)
                    rw [ec]
                    have s4 := same_new (o := .tup (r.map V.str)) ht
                    refine ⟨(by show 1 ≤ sizeLine; decide), fun t1 ht1 => ⟨(by show 1 ≤ sizeLine; decide), fun t2 ht2 => ⟨(by show 2 ≤ sizeLine; decide), fun l hl => ?_⟩⟩⟩
                    have s5 := same_new (o := .tup [.str "new"]) ht1
                    have s6 := same_new (o := .tup [.str "rest"]) ht2
                    have s7 := same_new (o := .lst [.ref t1, .ref t2]) hl
                    refine ⟨strsD r, ([["new"], ["rest"]] : List (List Str)).map strsD, .tup (SqT.of (s7 _ _ (s6 _ _ (s5 _ _ upd_same)))) (dpAll_strs r), .lst (SqL.of upd_same) (.cons (.tup (SqT.of (s7 _ _ (s6 _ _ upd_same))) (dpAll_strs ["new"])) (.cons (.tup (SqT.of (s7 _ _ upd_same)) (dpAll_strs ["rest"])) .nil)), strsD_shaped fun s hs => hok s (List.mem_cons_of_mem _ hs), by decide +kernel, ?_⟩
                    rw [any_strsD]
                    exact k _ (s4.trans (s5.trans (s6.trans s7)))
              | false =>
                have w2 : ¬ w0 = ("scan" : Str) := fun e => by rw [e] at q1; cases q1
                rw [if_neg w2] at k
                refine iteF ⟨_, rfl, _, _, rfl, .inr hT, rfl, _, rfl, ?_⟩
                rw [dec_int]
                rcases r with _ | ⟨b, r⟩
                rotate_left
                · refine iteTe ?_ (k _ (Same.refl _))
                  show (!(((List.length (V.str w0 :: V.str b :: List.map V.str r) : Nat) : Int) == 1)) = true
                  rw [Bool.not_eq_true', beq_eq_false_iff_ne]
                  simp only [List.length_cons]
                  omega
                refine iteF ?_
                have k : ∀ H', Same G H' → Q (.bl (decide (kd ∈ (getO whereTb w0).getD []))) H' := k
                intro pd hpd
                have s4 := same_new (o := .dK []) hpd
                refine ⟨_, rfl, _, rfl, (by show 1 ≤ sizeLine; decide), fun l1 hl1 => ⟨(by show 1 ≤ sizeLine; decide), fun l2 hl2 => ⟨rfl, fun l3 hl3 => ?_⟩⟩⟩
                have s5 := same_new (o := .lst [.str "direct"]) hl1
                have s6 := same_new (o := .lst [.str "strike"]) hl2
                have s7 := same_new (o := .lst (kindsL.map V.str)) hl3
                have s47 := s4.trans (s5.trans (s6.trans s7))
                have hpd7 := s7 _ _ (s6 _ _ (s5 _ _ (upd_same (H := G) (a := pd) (o := .dK []))))
                refine ⟨hpd7, [(.inr "look", .ref la), (.inr "again", .ref la), (.inr "border", .ref l1), (.inr "strike", .ref l2), (.inr "end", .ref l3)], rfl, (by show 5 ≤ 15; decide), ?_⟩
                have kt : KvT _ _ (whereTb.take 5) := .cons (s := "look") (s47 _ _ ga) (.cons (s := "again") (s47 _ _ ga) (.cons (s := "border") (s7 _ _ (s6 _ _ upd_same)) (.cons (s := "strike") (s7 _ _ upd_same) (.cons (s := "end") upd_same .nil))))
                have kt := (kt.merge .nil (by decide +kernel)).over (o := .dK (mergeK [] [(.inr "look", .ref la), (.inr "again", .ref la), (.inr "border", .ref l1), (.inr "strike", .ref l2), (.inr "end", .ref l3)])) hpd7
                have sb := same_over s47 (o := .dK (mergeK [] [(.inr "look", .ref la), (.inr "again", .ref la), (.inr "border", .ref l1), (.inr "strike", .ref l2), (.inr "end", .ref l3)])) hpd
                have hd := upd_same (H := upd (upd (upd (upd G pd (.dK [])) l1 (.lst [.str "direct"])) l2 (.lst [.str "strike"])) l3 (.lst (kindsL.map V.str))) (a := pd) (o := .dK (mergeK [] [(.inr "look", .ref la), (.inr "again", .ref la), (.inr "border", .ref l1), (.inr "strike", .ref l2), (.inr "end", .ref l3)]))
                refine ⟨(by show 3 ≤ sizeLine; decide), fun lw1 hlw => ?_⟩
                have sw := same_new (o := .lst ((["key", "put", "claim"] : List Str).map V.str)) hlw
                have hd := sw _ _ hd
                have kt := kt.mono sw
                have sb := sb.trans sw
                refine ⟨lw1, rfl, ⟨_, SqL.of upd_same⟩, for_list (K := K) (a := lw1) (xs := (["key", "put", "claim"] : List Str).map V.str) (fun i σ H' => ∃ (v6 : Option V) (kvs : List (Key × V)), σ = [some (.ref a), some (.str kd), some (.ref la), some (.ref lc), none, some (.ref pd), v6, none] ∧ Same G H' ∧ H' lw1 = some (.lst ((["key", "put", "claim"] : List Str).map V.str)) ∧ H' pd = some (.dK kvs) ∧ KvT H' kvs (whereTb.take 5 ++ ((["key", "put", "claim"] : List Str).take i).map fun s => (s, (["put", "direct"] : List Str)))) ⟨_, _, rfl, sb, upd_same, hd, by rw [List.take_zero, List.map_nil, List.append_nil]; exact kt⟩ (fun i σ H' _ ⟨_, _, _, _, h, _⟩ => SqL.of h) ?_ ?_⟩
                · rintro i x σ H2 hi ⟨v6, kv, rfl, s2, hw2, hd2, kt⟩
                  rw [List.getElem?_map] at hi
                  obtain ⟨wd, hwd, rfl⟩ := Option.map_eq_some_iff.mp hi
                  have hlt : i < 3 := (List.getElem?_eq_some_iff.mp hwd).1
                  refine ⟨(by show 2 ≤ sizeLine; decide), fun l hl => ?_⟩
                  have s3 := same_new (o := .lst ((["put", "direct"] : List Str).map V.str)) hl
                  have hd3 := s3 _ _ hd2
                  have kt3 := kt.mono s3
                  have kl := kt3.len
                  refine ⟨_, rfl, _, rfl, pd, _, rfl, DPut.k (k := .inr wd) hd3 ?_, ?_⟩
                  · rw [kl, List.length_append, List.length_map]
                    have : ((["key", "put", "claim"] : List Str).take i).length ≤ 3 := by rw [List.length_take]; exact Nat.min_le_right _ _
                    have h20 : (whereTb.take 5 : List (Str × List Str)).length ≤ 20 := by decide
                    exact Nat.lt_of_le_of_lt (Nat.add_le_add h20 this) (by decide)
                  · have fr : (getO (whereTb.take 5 ++ ((["key", "put", "claim"] : List Str).take i).map fun s => (s, (["put", "direct"] : List Str))) wd).isNone = true := by
                      have all : ∀ i < 3, ∀ s ∈ (["key", "put", "claim"] : List Str)[i]?.toList, (getO (whereTb.take 5 ++ ((["key", "put", "claim"] : List Str).take i).map fun s => (s, (["put", "direct"] : List Str))) s).isNone = true := by decide +kernel
                      exact all i hlt wd (by rw [hwd]; exact List.mem_singleton.mpr rfl)
                    have kt4 := (kt3.put (ss := (["put", "direct"] : List Str)) (w := wd) upd_same fr).over (o := .dK (putK kv (.inr wd) (.ref l))) hd3
                    refine ⟨_, _, rfl, same_over (s2.trans s3) hpd, ?_, upd_same, ?_⟩
                    · rw [upd_ne fun e => by rw [e, hd2] at hw2; cases hw2]
                      exact s3 _ _ hw2
                    · have et : (["key", "put", "claim"] : List Str).take (i + 1) = (["key", "put", "claim"] : List Str).take i ++ [wd] := by
                        rw [List.take_add_one, hwd]
                        rfl
                      rw [et, List.map_append, ← List.append_assoc]
                      exact kt4
                rintro σ H11 ⟨v1, kv1, rfl, sb, _, hd, kt⟩
                have kt : KvT H11 kv1 (whereTb.take 5 ++ (["key", "put", "claim"] : List Str).map fun s => (s, (["put", "direct"] : List Str))) := kt
                refine ⟨(by show 2 ≤ sizeLine; decide), fun lw2 hlw => ?_⟩
                have sw := same_new (o := .lst ((["view", "read"] : List Str).map V.str)) hlw
                have hd := sw _ _ hd
                have kt := kt.mono sw
                have sb := sb.trans sw
                refine ⟨lw2, rfl, ⟨_, SqL.of upd_same⟩, for_list (K := K) (a := lw2) (xs := (["view", "read"] : List Str).map V.str) (fun i σ H' => ∃ (v6 : Option V) (kvs : List (Key × V)), σ = [some (.ref a), some (.str kd), some (.ref la), some (.ref lc), none, some (.ref pd), v6, none] ∧ Same G H' ∧ H' lw2 = some (.lst ((["view", "read"] : List Str).map V.str)) ∧ H' pd = some (.dK kvs) ∧ KvT H' kvs (whereTb.take 8 ++ ((["view", "read"] : List Str).take i).map fun s => (s, (["read"] : List Str)))) ⟨_, _, rfl, sb, upd_same, hd, by rw [List.take_zero, List.map_nil, List.append_nil]; exact kt⟩ (fun i σ H' _ ⟨_, _, _, _, h, _⟩ => SqL.of h) ?_ ?_⟩
                · rintro i x σ H2 hi ⟨v6, kv, rfl, s2, hw2, hd2, kt⟩
                  rw [List.getElem?_map] at hi
                  obtain ⟨wd, hwd, rfl⟩ := Option.map_eq_some_iff.mp hi
                  have hlt : i < 2 := (List.getElem?_eq_some_iff.mp hwd).1
                  refine ⟨(by show 1 ≤ sizeLine; decide), fun l hl => ?_⟩
                  have s3 := same_new (o := .lst ((["read"] : List Str).map V.str)) hl
                  have hd3 := s3 _ _ hd2
                  have kt3 := kt.mono s3
                  have kl := kt3.len
                  refine ⟨_, rfl, _, rfl, pd, _, rfl, DPut.k (k := .inr wd) hd3 ?_, ?_⟩
                  · rw [kl, List.length_append, List.length_map]
                    have : ((["view", "read"] : List Str).take i).length ≤ 2 := by rw [List.length_take]; exact Nat.min_le_right _ _
                    have h20 : (whereTb.take 8 : List (Str × List Str)).length ≤ 20 := by decide
                    exact Nat.lt_of_le_of_lt (Nat.add_le_add h20 this) (by decide)
                  · have fr : (getO (whereTb.take 8 ++ ((["view", "read"] : List Str).take i).map fun s => (s, (["read"] : List Str))) wd).isNone = true := by
                      have all : ∀ i < 2, ∀ s ∈ (["view", "read"] : List Str)[i]?.toList, (getO (whereTb.take 8 ++ ((["view", "read"] : List Str).take i).map fun s => (s, (["read"] : List Str))) s).isNone = true := by decide +kernel
                      exact all i hlt wd (by rw [hwd]; exact List.mem_singleton.mpr rfl)
                    have kt4 := (kt3.put (ss := (["read"] : List Str)) (w := wd) upd_same fr).over (o := .dK (putK kv (.inr wd) (.ref l))) hd3
                    refine ⟨_, _, rfl, same_over (s2.trans s3) hpd, ?_, upd_same, ?_⟩
                    · rw [upd_ne fun e => by rw [e, hd2] at hw2; cases hw2]
                      exact s3 _ _ hw2
                    · have et : (["view", "read"] : List Str).take (i + 1) = (["view", "read"] : List Str).take i ++ [wd] := by
                        rw [List.take_add_one, hwd]
                        rfl
                      rw [et, List.map_append, ← List.append_assoc]
                      exact kt4
                rintro σ H12 ⟨v2, kv2, rfl, sb, _, hd, kt⟩
                have kt : KvT H12 kv2 (whereTb.take 8 ++ (["view", "read"] : List Str).map fun s => (s, (["read"] : List Str))) := kt
                refine ⟨(by show 3 ≤ sizeLine; decide), fun lw3 hlw => ?_⟩
                have sw := same_new (o := .lst ((["switch", "wait", "close"] : List Str).map V.str)) hlw
                have hd := sw _ _ hd
                have kt := kt.mono sw
                have sb := sb.trans sw
                refine ⟨lw3, rfl, ⟨_, SqL.of upd_same⟩, for_list (K := K) (a := lw3) (xs := (["switch", "wait", "close"] : List Str).map V.str) (fun i σ H' => ∃ (v6 : Option V) (kvs : List (Key × V)), σ = [some (.ref a), some (.str kd), some (.ref la), some (.ref lc), none, some (.ref pd), v6, none] ∧ Same G H' ∧ H' lw3 = some (.lst ((["switch", "wait", "close"] : List Str).map V.str)) ∧ H' pd = some (.dK kvs) ∧ KvT H' kvs (whereTb.take 10 ++ ((["switch", "wait", "close"] : List Str).take i).map fun s => (s, (changesL : List Str)))) ⟨_, _, rfl, sb, upd_same, hd, by rw [List.take_zero, List.map_nil, List.append_nil]; exact kt⟩ (fun i σ H' _ ⟨_, _, _, _, h, _⟩ => SqL.of h) ?_ ?_⟩
                · rintro i x σ H2 hi ⟨v6, kv, rfl, s2, hw2, hd2, kt⟩
                  rw [List.getElem?_map] at hi
                  obtain ⟨wd, hwd, rfl⟩ := Option.map_eq_some_iff.mp hi
                  have hlt : i < 3 := (List.getElem?_eq_some_iff.mp hwd).1
                  have hd3 := hd2
                  have kt3 := kt
                  have kl := kt3.len
                  refine ⟨_, rfl, _, rfl, _, rfl, pd, _, rfl, DPut.k (k := .inr wd) hd3 ?_, ?_⟩
                  · rw [kl, List.length_append, List.length_map]
                    have : ((["switch", "wait", "close"] : List Str).take i).length ≤ 3 := by rw [List.length_take]; exact Nat.min_le_right _ _
                    have h20 : (whereTb.take 10 : List (Str × List Str)).length ≤ 20 := by decide
                    exact Nat.lt_of_le_of_lt (Nat.add_le_add h20 this) (by decide)
                  · have fr : (getO (whereTb.take 10 ++ ((["switch", "wait", "close"] : List Str).take i).map fun s => (s, (changesL : List Str))) wd).isNone = true := by
                      have all : ∀ i < 3, ∀ s ∈ (["switch", "wait", "close"] : List Str)[i]?.toList, (getO (whereTb.take 10 ++ ((["switch", "wait", "close"] : List Str).take i).map fun s => (s, (changesL : List Str))) s).isNone = true := by decide +kernel
                      exact all i hlt wd (by rw [hwd]; exact List.mem_singleton.mpr rfl)
                    have kt4 := (kt3.put (ss := (changesL : List Str)) (w := wd) (s2 _ _ gc) fr).over (o := .dK (putK kv (.inr wd) (.ref lc))) hd3
                    refine ⟨_, _, rfl, same_over s2 hpd, ?_, upd_same, ?_⟩
                    · rw [upd_ne fun e => by rw [e, hd2] at hw2; cases hw2]
                      exact hw2
                    · have et : (["switch", "wait", "close"] : List Str).take (i + 1) = (["switch", "wait", "close"] : List Str).take i ++ [wd] := by
                        rw [List.take_add_one, hwd]
                        rfl
                      rw [et, List.map_append, ← List.append_assoc]
                      exact kt4
                rintro σ H13 ⟨v3, kv3, rfl, sb, _, hd, kt⟩
                have kt : KvT H13 kv3 (whereTb.take 10 ++ (["switch", "wait", "close"] : List Str).map fun s => (s, (changesL : List Str))) := kt
                refine ⟨(by show 2 ≤ sizeLine; decide), fun l9 hl9 => ?_⟩
                have s9 := same_new (o := .lst ((["split", "join"] : List Str).map V.str)) hl9
                have hd := s9 _ _ hd
                have kt := kt.mono s9
                refine ⟨_, rfl, pd, _, rfl, DPut.k (k := .inr "move") hd (by rw [kt.len]; decide), ?_⟩
                have kt := (kt.put (ss := (["split", "join"] : List Str)) (w := "move") upd_same (by decide +kernel)).over (o := .dK (putK kv3 (.inr "move") (.ref l9))) hd
                have sb := same_over (sb.trans s9) (o := .dK (putK kv3 (.inr "move") (.ref l9))) hpd
                refine ⟨_, rfl, _, rfl, pd, rfl, .inl ⟨_, .inl upd_same⟩, _, rfl, a, _, _, _, rfl, rfl, same_t sb hT, atI_nat (j := 0) rfl, (by show 0 ≤ sizeLine; decide), fun q hq => ?_⟩
                have s10 := same_new (o := .lst []) hq
                have kt := kt.mono s10
                have k := k _ (sb.trans s10)
                refine ⟨_, DGet.k (k := .inr w0) (s10 _ _ upd_same), ?_⟩
                rcases kt.get w0 with ⟨e1, e2⟩ | ⟨a', ss, e1, e2, e3⟩
                · rw [show getO whereTb w0 = _ from e1] at k
                  rw [e2]
                  exact ⟨q, [], rfl, .inl (SqL.of upd_same), rfl, rfl, k⟩
                · rw [show getO whereTb w0 = _ from e1] at k
                  rw [e2]
                  refine ⟨a', ss.map V.str, rfl, .inl (SqL.of e3), rfl, flat_strs ss, ?_⟩
                  rw [in_strs]
                  exact k
theorem ok_law_drawn_step (T : Txt K mg w) : FnOk P w K mg base CX0 2 T.f_law_drawn_step T.fd_law_drawn_step ["_law_box_here", "_law_modes"] sp_drawn_step := by
  refine T.F_law_drawn_step.ok sc_law_drawn_step (fun vs H Q E h => ?_) (fun cdv A outer s H vs Q E hr h => ?_)
  · obtain ⟨H0, p, m, n, ms, rfl, _⟩ := h
    rfl
  · obtain ⟨H0, p, m, n, ms, rfl, B, hm, hm0, hmz, hok, hn, k⟩ := h
    refine ⟨_, (pss_cons (ps_set (i := 2) sc_law_drawn_step.nd rfl (Or.inl rfl) (pe_lst (pa_cons pe_str (pa_cons pe_str (pa_cons pe_str (pa_cons pe_str (pa_cons pe_str (pa_cons pe_str (pa_cons pe_str pa_nil)))))))))
        (pss_cons (ps_set (i := 2) sc_law_drawn_step.nd rfl (Or.inl rfl) (pe_op op_cat (pv 2) (pe_lst (pa_cons pe_str (pa_cons pe_str (pa_cons pe_str (pa_cons pe_str (pa_cons pe_str (pa_cons pe_str pa_nil)))))))))
        (pss_cons (ps_if (pt_cmpR op_eq (pe_call (ok_law_take T) hr rfl T.m_law_take T.F_law_take.kp T.b_law_take .nil pass0 (pa_cons (pv 0) (pa_cons pe_int pa_nil))) pe_int (nomark _)) (pss_cons (ps_set (i := 3) sc_law_drawn_step.nd rfl (Or.inl rfl) (pe_ix ix_list (pe_lst (pa_cons pe_str (pa_cons pe_str (pa_cons pe_str (pa_cons pe_str (pa_cons pe_str pa_nil)))))) (pe_call (ok_law_take T) hr rfl T.m_law_take T.F_law_take.kp T.b_law_take .nil pass0 (pa_cons (pv 0) (pa_cons pe_int pa_nil))) (fun _ _ => rfl)))
        (pss_one (ps_ret (pe_tup (pa_cons pe_str (pa_cons (pv 3) (pa_cons (pe_ix ix_list (pv 1) (pe_call (ok_law_take T) hr rfl T.m_law_take T.F_law_take.kp T.b_law_take .nil pass0 (pa_cons (pv 0) (pa_cons (pe_callB (id := "len") call_len_seq (by rfl) T.z_len (by decide +kernel) (pa_cons (pv 1) pa_nil)) pa_nil))) (fun _ _ => rfl)) pa_nil))))))) pss_nil)
        (pss_cons (ps_if (pt_cmpR op_eq (pe_call (ok_law_take T) hr rfl T.m_law_take T.F_law_take.kp T.b_law_take .nil pass0 (pa_cons (pv 0) (pa_cons pe_int pa_nil))) pe_int (nomark _)) (pss_one (ps_ret (pe_tup (pa_cons pe_str (pa_cons (pe_ix ix_list (pe_lst (pa_cons pe_str (pa_cons pe_str pa_nil))) (pe_call (ok_law_take T) hr rfl T.m_law_take T.F_law_take.kp T.b_law_take .nil pass0 (pa_cons (pv 0) (pa_cons pe_int pa_nil))) (fun _ _ => rfl)) pa_nil))))) pss_nil)
        (pss_one (ps_ret (pe_tup (pa_cons (pe_ix ix_list (pv 2) (pe_call (ok_law_take T) hr rfl T.m_law_take T.F_law_take.kp T.b_law_take .nil pass0 (pa_cons (pv 0) (pa_cons pe_int pa_nil))) (fun _ _ => rfl)) pa_nil)))))))), ?_⟩
    refine ⟨(by show 7 ≤ sizeLine; decide), fun l1 hl1 => ?_⟩
    have B1 := B.new (o := .lst ((["look", "again", "border", "key", "put", "claim", "strike"] : List Str).map V.str)) hl1
    refine ⟨_, rfl, (by show 6 ≤ sizeLine; decide), fun l2 hl2 => ?_⟩
    have B2 := B1.1.new (o := .lst ((["view", "read", "move", "switch", "wait", "close"] : List Str).map V.str)) hl2
    refine ⟨l1, l2, _, _, rfl, rfl, B2.1.same _ _ (B2.2 _ _ upd_same), upd_same, (by show 7 + 6 ≤ sizeLine; decide), fun l3 hl3 => ?_⟩
    have B3 := B2.1.new (o := .lst ((["look", "again", "border", "key", "put", "claim", "strike", "view", "read", "move", "switch", "wait", "close"] : List Str).map V.str)) hl3
    have m03 := B1.2.trans (B2.2.trans B3.2)
    have plainOk : ∀ s ∈ (["look", "again", "border", "key", "put", "claim", "strike", "view", "read", "move", "switch", "wait", "close"] : List Str), sOk 16 s := by unfold sOk; decide +kernel
    have noLock : ∀ s ∈ (["look", "again", "border", "key", "put", "claim", "strike", "view", "read", "move", "switch", "wait", "close"] : List Str), s ≠ "lock" := by decide +kernel
    have whereOk : ∀ s ∈ (["table", "part", "old", "new", "rest"] : List Str), sOk 16 s := by unfold sOk; decide +kernel
    have scanOk : ∀ s ∈ (["new", "rest"] : List Str), sOk 16 s := by unfold sOk; decide +kernel
    refine ⟨_, rfl, _, p, _, 2, rfl, B3.1, by omega, by decide, by decide, fun z1 H1 z10 z11 B4 => ⟨rfl, _, rfl, ?_⟩⟩
    refine ite2 (fun c => ?_) (fun c => ?_)
    · refine ⟨(by show 5 ≤ sizeLine; decide), fun l4 hl4 => ?_⟩
      have B5 := B4.new (o := .lst ((["table", "part", "old", "new", "rest"] : List Str).map V.str)) hl4
      refine ⟨_, rfl, _, p, _, 5, rfl, B5.1, by omega, by decide, by decide, fun z2 H2 z20 z21 B6 => ?_⟩
      obtain ⟨v, hv, hmv⟩ := atI_in (xs := (["table", "part", "old", "new", "rest"] : List Str).map V.str) z20 z21
      refine ⟨l4, _, z2, v, rfl, rfl, SqL.of (B6.same _ _ upd_same), hv, ?_⟩
      obtain ⟨wh, hwh, rfl⟩ := List.mem_map.mp hmv
      have m05 := m03.trans B5.2
      refine ⟨_, rfl, _, rfl, _, rfl, _, rfl, m, _, rfl, .inl (SqL.of (B6.same _ _ (m05 _ _ hm))), _, p, _, ((ms.map V.str).length : Int), rfl, B6, by omega, by rw [List.length_map]; omega, by rw [List.length_map]; omega, fun z3 H3 z30 z31 B7 => ?_⟩
      obtain ⟨v3, hv3, hmv3⟩ := atI_in (xs := ms.map V.str) z30 z31
      refine ⟨m, _, z3, v3, rfl, rfl, SqL.of (B7.same _ _ (m05 _ _ hm)), hv3, ?_⟩
      obtain ⟨md, hmd, rfl⟩ := List.mem_map.mp hmv3
      refine ⟨(by show 3 ≤ sizeLine; decide), fun t ht => ?_⟩
      have B8 := B7.new (o := .tup ((["lock", wh, md] : List Str).map V.str)) ht
      refine k _ _ t ["lock", wh, md] (m05.trans B8.2) (B8.1.mono (by omega)) upd_same (by simp) ⟨?_, fun _ => hmd⟩
      intro s hs
      simp only [List.mem_cons, List.not_mem_nil, or_false] at hs
      rcases hs with rfl | rfl | rfl
      · unfold sOk; decide +kernel
      · exact whereOk _ hwh
      · exact hok _ hmd
    · refine ⟨_, rfl, _, p, _, 6, rfl, B4, by omega, by decide, by decide, fun z2 H2 z20 z21 B5 => ⟨rfl, _, rfl, ?_⟩⟩
      refine ite2 (fun c => ?_) (fun c => ?_)
      · refine ⟨(by show 2 ≤ sizeLine; decide), fun l4 hl4 => ?_⟩
        have B6 := B5.new (o := .lst ((["new", "rest"] : List Str).map V.str)) hl4
        refine ⟨_, rfl, _, p, _, 2, rfl, B6.1, by omega, by decide, by decide, fun z3 H3 z30 z31 B7 => ?_⟩
        obtain ⟨v, hv, hmv⟩ := atI_in (xs := (["new", "rest"] : List Str).map V.str) z30 z31
        refine ⟨l4, _, z3, v, rfl, rfl, SqL.of (B7.same _ _ upd_same), hv, ?_⟩
        obtain ⟨wh, hwh, rfl⟩ := List.mem_map.mp hmv
        refine ⟨(by show 2 ≤ sizeLine; decide), fun t ht => ?_⟩
        have B8 := B7.new (o := .tup ((["scan", wh] : List Str).map V.str)) ht
        refine k _ _ t ["scan", wh] (m03.trans (B6.2.trans B8.2)) (B8.1.mono (by omega)) upd_same (by simp) ⟨?_, fun e => absurd (show ("scan" : Str) = "lock" from e) (by decide +kernel)⟩
        intro s hs
        simp only [List.mem_cons, List.not_mem_nil, or_false] at hs
        rcases hs with rfl | rfl
        · unfold sOk; decide +kernel
        · exact scanOk _ hwh
      · refine ⟨_, rfl, _, rfl, _, p, _, 13, rfl, B5, by omega, by decide, by decide, fun z3 H3 z30 z31 B7 => ?_⟩
        obtain ⟨v, hv, hmv⟩ := atI_in (xs := (["look", "again", "border", "key", "put", "claim", "strike", "view", "read", "move", "switch", "wait", "close"] : List Str).map V.str) z30 z31
        refine ⟨l3, _, z3, v, rfl, rfl, SqL.of (B7.same _ _ upd_same), hv, ?_⟩
        obtain ⟨wd, hwd, rfl⟩ := List.mem_map.mp hmv
        refine ⟨(by show 1 ≤ sizeLine; decide), fun t ht => ?_⟩
        have B8 := B7.new (o := .tup (([wd] : List Str).map V.str)) ht
        refine k _ _ t [wd] (m03.trans B8.2) (B8.1.mono (by omega)) upd_same (by simp) ⟨?_, fun e => absurd (show wd = ("lock" : Str) from e) (noLock wd hwd)⟩
        intro s hs
        rw [List.mem_singleton.mp hs]
        exact plainOk _ hwd
theorem ok_InvalidText_init (T : Txt K mg w) : FnOk P w K mg base CX0 1 T.f_InvalidText_init T.fd_InvalidText_init ["self", "value"] (sp_xinit K T.C_InvalidText "value") := by
  refine T.F_InvalidText_init.ok sc_InvalidText_init (fun vs H Q E h => ?_) (fun cdv A outer s H vs Q E hr h => ?_)
  · obtain ⟨a, v, rfl, _⟩ := h
    rfl
  · obtain ⟨a, v, rfl, x, n, ha, k⟩ := h
    refine ⟨_, (pss_one (ps_ost (pv 0) (pv 1))), ?_⟩
    exact ⟨_, rfl, _, rfl, a, T.C_InvalidText, rfl, x, n, .inl ⟨ha, k⟩⟩
theorem ok_hotD_InvalidText_init (T : Txt K mg w) : FnD P w K mg base CX0 1 T.f_InvalidText_init T.fd_InvalidText_init ["self", "value"] (sp_xinit K T.C_InvalidText "value") := by
  refine okHotD T.F_InvalidText_init sc_InvalidText_init (fun vs H Q E h => ?_) (fun cdv A outer s H vs Q E p h => ?_)
  · obtain ⟨a, v, rfl, _⟩ := h
    rfl
  · obtain ⟨a, v, rfl, x, n, ha, k⟩ := h
    exact ⟨_, (pss_one (ps_ost (pv 0) (pv 1))), _, rfl, _, rfl, a, T.C_InvalidText, rfl, x, n, .inl ⟨ha, k⟩⟩
theorem ok_hot_InvalidText_init (T : Txt K mg w) : L2H.FnH P w K mg base CX0 1 T.f_InvalidText_init T.fd_InvalidText_init ["self", "value"] (sp_xinit K T.C_InvalidText "value") := by
  refine okHot T.F_InvalidText_init sc_InvalidText_init (fun vs H Q E h => ?_) (fun cdv A outer s H vs Q E p h => ?_)
  · obtain ⟨a, v, rfl, _⟩ := h
    rfl
  · obtain ⟨a, v, rfl, x, n, ha, k⟩ := h
    exact ⟨_, (pss_one (ps_ost (pv 0) (pv 1))), _, rfl, _, rfl, a, T.C_InvalidText, rfl, x, n, .inl ⟨ha, k⟩⟩
theorem ok_parsed_strengths (T : Txt K mg w) : FnOk P w K mg base (CXK P w) 7 T.f_parsed_strengths T.fd_parsed_strengths ["text"] (sp_parsed K T.C_Strengths (C6 T)) := by
  refine okXK T.F_parsed_strengths sc_parsed_strengths (fun vs H Q E h => ?_) (fun cdv A outer s H vs Q E hr h => ?_)
  · obtain ⟨t, rfl, _⟩ := h
    rfl
  · obtain ⟨t, rfl, ht, k1, k2⟩ := h
    refine ⟨_, (pss_cons (ps_asg (pe_partition (pv 0) pe_str) (pg_tup rfl (pgs_cons (pg_name (i := 1) sc_parsed_strengths.nd rfl (Or.inl rfl)) (pgs_cons (pg_name (i := 2) sc_parsed_strengths.nd rfl (Or.inl rfl)) (pgs_cons (pg_name (i := 3) sc_parsed_strengths.nd rfl (Or.inl rfl)) pgs_nil)))))
        (pss_cons (ps_set (i := 4) sc_parsed_strengths.nd rfl (Or.inl rfl) (pe_ifExp (pt_cmpR op_eq (pv 3) pe_str (nomark _)) (pe_lst pa_nil) (pe_split (pv 3) pe_str)))
        (pss_one (ps_ret (pe_makeS T.mk_Strengths (ok_Strengths_init T) hr rfl T.g_Strengths T.b_Strengths_init (passAt_of (passK (takesK_of rfl rfl rfl rfl))) (pa_cons (pe_split (pv 1) pe_str) (pa_cons (pe_lc (own := [("pair", 5)]) (g := gName 5) (tt := tYes) rfl sc_parsed_strengths.nd (pi_list (pv 4)) (blkOk_by (own := [("pair", 5)]) (N := ["text", "modes", "_", "told", "pairs", "pair"]) (sc := defScope s_parsed_strengths) (by decide +kernel)) (fun _ _ _ _ _ => (pg_name (i := 5) sc_parsed_strengths.nd rfl (Or.inl rfl))) (fun _ _ _ _ _ => pts_nil) (fun _ _ _ _ _ => (pe_callTy (T := "tuple") (r := rTupOfN K) call_tuple_of (by rfl) T.z_tuple (by decide +kernel) (pa_cons (show PE _ _ (tM1 rSplitN _ _) from (pe_split (pv 5) pe_str)) pa_nil)))) pa_nil))))))), ?_⟩
    have tl := ht.1
    have b2 : ∀ {s : Str}, s.length ≤ 100000 → s.length + 2 ≤ sizeLine := fun h => Nat.le_trans (Nat.add_le_add_right h 2) (by show 100002 ≤ sizeLine; decide)
    obtain ⟨oh, ob⟩ := part_ok ht
    refine ⟨_, rfl, ⟨t, rfl⟩, t, ": ", rfl, rfl, by decide +kernel, Nat.le_trans tl (by decide), fun p hp => ?_⟩
    have s1 := same_new (o := .tup [.str (Txt.partition t ": ").1, .str (Txt.partition t ": ").2.1, .str (Txt.partition t ": ").2.2]) hp
    unfold progP at k1 k2
    generalize hh : (Txt.partition t ": ").1 = hd at oh k1 k2 s1
    generalize hb : (Txt.partition t ": ").2.2 = bd at ob k1 k2 s1
    refine ⟨p, _, rfl, SqT.of upd_same, rfl, _, _, rfl, _, _, rfl, _, _, rfl, rfl, ?_⟩
    refine ⟨_, rfl, rfl, _, rfl, ?_⟩
    refine list_or_split (s := bd) rfl ob.1 fun pl H2 ws s2 hpl hws => ?_
    have ee : ("" : Str) = Str.empty := by decide +kernel
    have ew : ws = if bd = Str.empty then [] else Txt.split bd " " := by
      rw [hws]
      by_cases z : bd = Str.empty
      · rw [if_pos z, if_pos (decide_eq_true (by rw [z, ee]))]
      · rw [if_neg z, if_neg fun h => z (by
          have := of_decide_eq_true h
          injection this with this)]
    rw [← ew] at k1 k2
    have wok : (∀ w ∈ ws, tOk w) ∧ ws.length ≤ 100001 := by
      rw [ew]
      by_cases z : bd = Str.empty
      · rw [if_pos z]
        exact ⟨fun w hw => (List.not_mem_nil hw).elim, Nat.zero_le _⟩
      · rw [if_neg z]
        exact split_ok split_sp ob
    obtain ⟨hok, hlen⟩ := split_ok split_sp oh
    have h1 : 1 ≤ (Txt.split hd " ").length := by
      rw [← SX.S_tl hd, split_sp, List.length_map]
      exact List.length_pos_iff.mpr (spl_ne 32 _ _)
    clear ew hws hh hb
    refine ⟨_, rfl, ⟨hd, rfl⟩, hd, " ", rfl, rfl, by decide +kernel, b2 oh.1, fun lm hlm => ⟨_, rfl, pl, rfl, ⟨_, SqL.of (same_new hlm _ _ hpl)⟩, fun D hD => ?_⟩⟩
    have s3 := same_new (o := .lst ((Txt.split hd " ").map V.str)) hlm
    have hl3 : (upd H2 lm (.lst ((Txt.split hd " ").map V.str))) lm = some (.lst ((Txt.split hd " ").map V.str)) := upd_same
    have hp3 := s3 _ _ hpl
    have s03 := s1.trans (s2.trans s3)
    generalize Txt.split hd " " = hw at hl3 hok hlen h1 k1 k2 s3 hD hp3 s03
    generalize upd H2 lm (.lst (hw.map V.str)) = H3 at hl3 hp3 s03 hD s3
    refine lc_it walk_list (fun i H' => Same H3 H' ∧ ∃ zs, H' D = some (.lst zs) ∧ DpAll K (but H' D) zs ((ws.take i).map tupD)) ⟨same_new hD, [], upd_same, .nil⟩ (fun i H' _ ⟨s, _⟩ => SqL.of (s _ _ hp3)) ?_ ?_
    · rintro i y H4 H5 hi ⟨s4, zs, hz, dz⟩ ⟨rfl, hy⟩
      rw [List.getElem?_map] at hy
      obtain ⟨w, hw', rfl⟩ := Option.map_eq_some_iff.mp hy
      refine ⟨rfl, tyes ⟨_, rfl, ⟨w, rfl⟩, w, "!", rfl, rfl, by decide +kernel, b2 (wok.1 w (List.mem_of_getElem? hw')).1, fun q hq => ⟨q, _, rfl, .inl ⟨SqL.of upd_same, fun tt htt => ?_⟩⟩⟩⟩
      have s5 := same_new (o := .lst ((Txt.split w "!").map V.str)) hq
      have s6 := same_new (o := .tup ((Txt.split w "!").map V.str)) htt
      have hz6 := s6 _ _ (s5 _ _ hz)
      have nt : tt ≠ D := (ne_of_none (s5 _ _ hz) htt).symm
      refine ⟨zs, hz6, ?_, ?_⟩
      · have := dpAll_len dz
        rw [List.length_map, List.length_take] at this
        rw [this]
        exact Nat.lt_of_le_of_lt (Nat.le_trans (Nat.min_le_right _ _) wok.2) (by decide)
      · refine ⟨fun b u e => ?_, _, upd_same, ?_⟩
        · rw [upd_ne (ne_of_none e hD)]
          exact s6 _ _ (s5 _ _ (s4 _ _ e))
        · have e1 : (ws.take (i + 1)).map tupD = (ws.take i).map tupD ++ [tupD w] := by
            rw [List.take_add_one, hw', List.map_append]
            rfl
          rw [e1]
          exact dpAll_snoc (dpAll_mono ((but_of (s5.trans s6)).trans (but_upd _ _ _)) dz) (.tup (SqT.of (by rw [but_ne nt, upd_ne nt]; exact upd_same)) (dpAll_strs _))
    · rintro H4 ⟨s4, zs, hz, dz⟩
      rw [List.length_map, List.take_length] at dz
      obtain ⟨r, ms, ps, both, i1, i2⟩ := both_prog (K := K) (H := H4) (lm := lm) (D := D) (SqL.of (s4 _ _ hl3)) hok hlen h1 (SqL.of hz) (dpAll_mono (but_le _ _) dz) wok.1 wok.2
      intro x dx hx hdx ne
      have sH : Same H4 (upd (upd H4 dx (.own x)) x (.ins T.C_Strengths dx [])) := fun b u e => by
        rw [upd_ne (ne_of_none e hx), upd_ne (ne_of_none e hdx)]
        exact e
      have sB : Same H4 (but (upd (upd H4 dx (.own x)) x (.ins T.C_Strengths dx [])) x) := fun b u e => by
        rw [but_ne (ne_of_none e hx)]
        exact sH _ _ e
      have s04 := s03.trans s4
      have le5 : ∀ q, r = some q → q.1 ≤ 5 := fun q e => by
        have := both.le q e
        omega
      obtain ⟨r1, ms1, hm, hq1, hgo⟩ := both.split
      refine ⟨x, dx, .ref lm, .ref D, r1, ms1, rfl, upd_same, hm.mono sB, fun q e => ?_, fun e => ?_⟩
      · exact (k1 (i2 q (hq1 q e)) q (le5 q (hq1 q e))).back (s04.trans sH)
      · obtain ⟨rfl, hc⟩ := hgo e
        refine ⟨r, ps, hc.mono sB, fun q er => (k1 (i2 q er) q (le5 q er)).back (s04.trans sH), fun er H5 hk st => ⟨rfl, k2 _ _ (i1 er) H5 x (fun b u e => hk b u (sH _ _ (s04 _ _ e)) (ne_of_none (s04 _ _ e) hx)) st.at_⟩⟩
theorem ok_read_strengths (T : Txt K mg w) : FnOk P w K mg base (CXK P w) 8 T.f_read_strengths T.fd_read_strengths ["text"] (sp_readS K T.C_Strengths T.C_InvalidText) := by
  refine okXK T.F_read_strengths sc_read_strengths (fun vs H Q E h => ?_) (fun cdv A outer s H vs Q E hr h => ?_)
  · obtain ⟨v, o, rfl, _⟩ := h
    rfl
  · obtain ⟨v, o, rfl, hv, k1, k2⟩ := h
    refine ⟨_, (pss_cons (ps_if (pt_not (pt_val (pe_callB (id := "isinstance") call_isi (by rfl) T.z_isinstance (by decide +kernel) (pa_cons (pv 0) (pa_cons (pe_bltn (v := .ty "str") (u := .type "str") (by rfl) T.z_str (by decide +kernel) rfl) pa_nil))))) (pss_one (L2N.ps_raise rfl (TakesK.toN (takesK_of rfl rfl rfl rfl)) (pmkN_oex T.x_InvalidText T.i_InvalidText T.t_InvalidText (ok_InvalidText_init T) (hr.mono (by decide)) T.b_InvalidText_init pass0 rfl T.g_InvalidText (pa_cons (pv 0) pa_nil)))) pss_nil)
        (pss_cons (ps_try_onlyK rfl rfl ⟨rfl, by decide, Or.inl T.g_PartsError⟩ (fun _ => PySem.PassesOwnAt.leaving) (takesK_of rfl rfl rfl rfl) (fun W pn xe tk _ => by exact (pss_one (ps_set (i := 1) sc_read_strengths.nd rfl (Or.inl rfl) (pe_callS (ok_parsed_strengths T) hr rfl T.m_parsed_strengths T.F_parsed_strengths.kp T.b_parsed_strengths (fun σ => passAtK tk σ) (pa_cons (pv 0) pa_nil)))))
          (fun a cls d pn wt hot => by exact (pss_one (ps_raiseK hot wt (pmk5_oexD T.x_InvalidText T.i_InvalidText T.t_InvalidText (ok_hotD_InvalidText_init T) (L2H.roomH_mark (hr.mono (by decide)) _) hot T.b_InvalidText_init pass0 rfl T.g_InvalidText (pa_cons (pv 0) pa_nil))))))
        (pss_cons (ps_if (pt_cmpR op_ne (pe_callTy (T := "str") (call_strI (ok_Strengths_str T) (hr.mono (by decide)) T.b_Strengths_str T.me_Strengths_str.at_ T.me_Strengths_str.fn pass0) (by rfl) T.z_str (by decide +kernel) (pa_cons (pv 1) pa_nil)) (pv 0) (nomark _)) (pss_one (L2N.ps_raise rfl (TakesK.toN (takesK_of rfl rfl rfl rfl)) (pmkN_oex T.x_InvalidText T.i_InvalidText T.t_InvalidText (ok_InvalidText_init T) (hr.mono (by decide)) T.b_InvalidText_init pass0 rfl T.g_InvalidText (pa_cons (pv 0) pa_nil)))) pss_nil)
        (pss_one (ps_ret (pv 1)))))), ?_⟩
    have ic := T.ic_Strengths
    have e6 : ∀ n : Nat, PySem.W.exmOne K (.ref (C6 T n)) (.ref T.C_PartsError) = some true := fun n => match n with
      | 0 => T.e_InvalidModes_PartsError
      | 1 => T.e_InvalidName_PartsError
      | 2 => T.e_Duplicate_PartsError
      | 3 => T.e_InvalidStrengths_PartsError
      | 4 => T.e_InvalidClash_PartsError
      | _ + 5 => T.e_UnknownMode_PartsError
    rcases hv with hv | ⟨rfl, a, dx, fs, rfl, ha⟩
    · refine ⟨_, rfl, _, _, _, _, _, rfl, .ty _, hv.ty, kit_o o (.inr (.inr (.inl rfl))), _, rfl, ?_⟩
      cases e : isT "str" o with
      | false => exact iteT ⟨_, rfl, raise_x T.x_InvalidText T.n_InvalidText (k2 fun t z => by rw [z] at e; cases e)⟩
      | true =>
        obtain ⟨t, rfl, rfl, hs, hok⟩ := hv.str_of e
        refine iteF ⟨_, rfl, t, rfl, ⟨hs, hok⟩, fun non q hq => ?_, fun ms ps e2 H1 x s1 st => ?_⟩
        · have k3 := k2 fun t' z => by
            injection z with z
            injection z with z
            rw [← z]
            exact readT_no non
          intro d H' nd hd sm
          exact ⟨true, e6 q.1, fun _ a ha => ⟨_, rfl, raise_x T.x_InvalidText T.n_InvalidText (k3.back sm)⟩, fun z => nomatch z⟩
        · have okm := progP_ok e2
          have hn := okM_names okm
          have l8 := okM_len okm
          have er := readT_of e2
          obtain ⟨dx, lx, dd, kv, hx, _⟩ := id st
          refine ⟨_, rfl, x, dx, _, rfl, hx, x, ms, _, rfl, st, hn, by omega, fun H2 s2 => ⟨_, rfl, _, rfl, rfl, _, rfl, ?_⟩⟩
          by_cases c : textM ms (prsOf (ag ms ps) ms) = t
          · rw [if_pos c] at er
            exact iteFe (by rw [c]; simp) ⟨_, rfl, k1 t ms ps rfl er _ x (s1.trans s2) (st.mono s2)⟩
          · rw [if_neg c] at er
            have k3 := k2 fun t' z => by
              injection z with z
              injection z with z
              rw [← z]
              exact er
            exact iteTe (by rw [decide_eq_false fun z => c (by injection z)]; rfl) ⟨_, rfl, raise_x T.x_InvalidText T.n_InvalidText (k3.back (s1.trans s2))⟩
    · exact ⟨_, rfl, _, _, _, _, _, rfl, .ty _, .base (.ins ha ic.cl ic.ha ic.hn ic.htk ic.hm), T.io_own_Strengths_str, _, rfl, iteT ⟨_, rfl, raise_x T.x_InvalidText T.n_InvalidText (k2 fun t z => nomatch z)⟩⟩
theorem ok_InvalidProgram_init (T : Txt K mg w) : FnOk P w K mg base CX0 1 T.f_InvalidProgram_init T.fd_InvalidProgram_init ["self", "value"] (sp_xinit K T.C_InvalidProgram "value") := by
  refine T.F_InvalidProgram_init.ok sc_InvalidProgram_init (fun vs H Q E h => ?_) (fun cdv A outer s H vs Q E hr h => ?_)
  · obtain ⟨a, v, rfl, _⟩ := h
    rfl
  · obtain ⟨a, v, rfl, x, n, ha, k⟩ := h
    refine ⟨_, (pss_one (ps_ost (pv 0) (pv 1))), ?_⟩
    exact ⟨_, rfl, _, rfl, a, T.C_InvalidProgram, rfl, x, n, .inl ⟨ha, k⟩⟩
theorem ok_InvalidPrograms_init (T : Txt K mg w) : FnOk P w K mg base CX0 1 T.f_InvalidPrograms_init T.fd_InvalidPrograms_init ["self", "value"] (sp_xinit K T.C_InvalidPrograms "value") := by
  refine T.F_InvalidPrograms_init.ok sc_InvalidPrograms_init (fun vs H Q E h => ?_) (fun cdv A outer s H vs Q E hr h => ?_)
  · obtain ⟨a, v, rfl, _⟩ := h
    rfl
  · obtain ⟨a, v, rfl, x, n, ha, k⟩ := h
    refine ⟨_, (pss_one (ps_ost (pv 0) (pv 1))), ?_⟩
    exact ⟨_, rfl, _, rfl, a, T.C_InvalidPrograms, rfl, x, n, .inl ⟨ha, k⟩⟩
theorem ok_require_strengths (T : Txt K mg w) : FnOk P w K mg base (CXK P w) 3 T.f_require_strengths T.fd_require_strengths ["value"] (sp_rstrengths T.C_Strengths) := by
  refine okXK T.F_require_strengths sc_require_strengths (fun vs H Q E h => ?_) (fun cdv A outer s H vs Q E hr h => ?_)
  · obtain ⟨a, dx, fs, rfl, _⟩ := h
    rfl
  · obtain ⟨a, dx, fs, rfl, ha, k⟩ := h
    refine ⟨_, (pss_one (ps_if (pt_not (pt_val (pe_callB (id := "isinstance") call_isi (by rfl) T.z_isinstance (by decide +kernel) (pa_cons (pv 0) (pa_cons (pe_glob (v := .ref T.C_Strengths) rfl T.g_Strengths rfl) pa_nil))))) (pss_one (L2N.ps_raise rfl (TakesK.toN (takesK_of rfl rfl rfl rfl)) (pmkN_oex T.x_InvalidStrengths T.i_InvalidStrengths T.t_InvalidStrengths (ok_InvalidStrengths_init T) hr T.b_InvalidStrengths_init pass0 rfl T.g_InvalidStrengths (pa_cons (pv 0) pa_nil)))) pss_nil)), ?_⟩
    have ic := T.ic_Strengths
    exact ⟨_, rfl, _, _, _, _, _, rfl, .own _, .base (.ins ha ic.cl ic.ha ic.hn ic.htk ic.hm), ic.me, _, rfl, iteF k⟩
theorem ok_require_programs (T : Txt K mg w) : FnOk P w K mg base (CXK P w) 4 T.f_require_programs T.fd_require_programs ["value"] (sp_rprograms K (C3 T)) := by
  refine okXK T.F_require_programs sc_require_programs (fun vs H Q E h => ?_) (fun cdv A outer s H vs Q E hr h => ?_)
  · obtain ⟨pd, kvs, rows, rfl, _⟩ := h
    rfl
  · obtain ⟨pd, kvs, rows, rfl, hp, en, gd, k1, k2⟩ := h
    refine ⟨_, (pss_cons (ps_if (pt_not (pt_val (pe_callB (id := "isinstance") call_isi (by rfl) T.z_isinstance (by decide +kernel) (pa_cons (pv 0) (pa_cons (pe_bltn (v := .ty "dict") (u := .type "dict") (by rfl) T.z_dict (by decide +kernel) rfl) pa_nil))))) (pss_one (L2N.ps_raise rfl (TakesK.toN (takesK_of rfl rfl rfl rfl)) (pmkN_oex T.x_InvalidPrograms T.i_InvalidPrograms T.t_InvalidPrograms (ok_InvalidPrograms_init T) (hr.mono (by decide)) T.b_InvalidPrograms_init pass0 rfl T.g_InvalidPrograms (pa_cons (pv 0) pa_nil)))) pss_nil)
        (pss_one (ps_lock (ps_for (passes_of rfl) rfl (pi_keys (pv 0)) (pg_name (i := 1) sc_require_programs.nd rfl (Or.inl rfl))
          (pss_one (ps_expr (pe_call (ok_require_kind T) hr rfl T.m_require_kind T.F_require_kind.kp T.b_require_kind .nil (passK (takesK_of rfl rfl rfl rfl)) (pa_cons (pv 1) pa_nil)))))))), ?_⟩
    refine ⟨_, rfl, _, _, _, _, _, rfl, .ty _, (VD.dic hp).ty, kit_d _, _, rfl, iteF ?_⟩
    have bad : ∀ {i : Nat} {r : Row}, rows[i]? = some r → r.1 ∉ kindsL → Rb3 (C3 T) [pd] H E := fun {i r} hr nk => k2 (by
      rw [List.all_eq_false]
      exact ⟨r, List.mem_of_getElem? hr, by simpa using nk⟩)
    refine ⟨pd, _, hp, trivial, fun od => ⟨_, rfl, pd, od, rfl, .inl ⟨kvs, upd_same, for_it walk_keys (fun i σ H' => ∃ v1, σ = [some (.ref pd), v1] ∧ Same (upd H pd (.frz od (.dK kvs))) H' ∧ ∀ r ∈ rows.take i, r.1 ∈ kindsL)
      ⟨none, rfl, Same.refl _, by simp⟩ (fun i σ H' _ ⟨_, _, s1, _⟩ => s1 _ _ upd_same) ?_ ?_⟩⟩⟩
    · rintro i x σ H1 H2 hi ⟨v1, rfl, s1, hg⟩ ⟨rfl, k, v, hk, rfl⟩
      obtain ⟨r, hr1, rfl, _⟩ := entsP_get en hk
      have hm := List.mem_of_getElem? hr1
      have tk := gd r hm
      refine ⟨_, rfl, .str r.1, .str r.1, rfl, .str _, shaped_iff.mpr ⟨(can_str tk.1).1, Nat.le_trans (can_str tk.1).2 (by decide)⟩, fun e => ⟨_, rfl, s1, fun q hq => ?_⟩, fun e => ?_⟩
      · rw [List.take_add_one, hr1] at hq
        rcases List.mem_append.mp hq with z | z
        · exact hg q z
        · rw [Option.toList_some, List.mem_singleton] at z
          subst z
          rw [kindD_str] at e
          exact of_decide_eq_true e
      · rw [kindD_str] at e
        exact (((bad hr1 (of_decide_eq_false e)).back (sx_lock s1) (free_lock hp s1)).rz _).1
    · rintro σ H1 ⟨v1, rfl, s1, hg⟩
      refine ⟨s1 _ _ upd_same, ?_⟩
      have el : rows.take kvs.length = rows := by
        have := en.len
        rw [show (entsP rows).length = rows.length from List.length_map ..] at this
        rw [this, List.take_length]
      rw [el] at hg
      exact k1 (List.all_eq_true.mpr fun r hr => decide_eq_true (hg r hr)) _ (unlock hp s1)
theorem ok_require_mode (T : Txt K mg w) : FnOk P w K mg base (CXK P w) 3 T.f_require_mode T.fd_require_mode ["strengths", "value"] (sp_rmode K T.C_Strengths (C3 T)) := by
  refine okXK T.F_require_mode sc_require_mode (fun vs H Q E h => ?_) (fun cdv A outer s H vs Q E hr h => ?_)
  · obtain ⟨xs, a, s, ms, f, rfl, _⟩ := h
    rfl
  · obtain ⟨xs, a, z, ms, f, rfl, st, k1, k2⟩ := h
    refine ⟨_, (pss_one (ps_if (pt_cmpR op_notIn_seq (pv 1) (pe_meth0 (pv 0) T.cl_Strengths T.me_Strengths_modes (ok_Strengths_modes T) (hr.mono (by decide)) T.b_Strengths_modes .nil pass0) (by rfl)) (pss_one (L2N.ps_raise rfl (TakesK.toN (takesK_of rfl rfl rfl rfl)) (pmkN_oex T.x_UnknownMode T.i_UnknownMode T.t_UnknownMode (ok_UnknownMode_init T) hr T.b_UnknownMode_init pass0 rfl T.g_UnknownMode (pa_cons (pv 1) pa_nil)))) pss_nil)), ?_⟩
    obtain ⟨dx, l, d, kvs, hx, hl, hd, en⟩ := id st
    refine ⟨_, rfl, _, rfl, a, dx, fsS l d, rfl, hx, fsS_no (by decide +kernel) (by decide +kernel), a, ms, f, rfl, st, fun H1 q s1 hq hq1 => ⟨q, _, rfl, .inl (SqL.of hq1), rfl, flat_strs ms, _, rfl, ?_⟩⟩
    rw [in_strs]
    by_cases c : z ∈ ms
    · exact iteFe (by rw [decide_eq_true c]; rfl) (k1 c _ s1)
    · exact iteTe (by rw [decide_eq_false c]; rfl) ⟨_, rfl, raise_x T.x_UnknownMode T.n_UnknownMode (((k2 c).bk s1).rz _).2.2⟩
theorem ok_require_program (T : Txt K mg w) : FnOk P w K mg base (CXK P w) 6 T.f_require_program T.fd_require_program ["strengths", "kind", "value"] (sp_rprogram K T.C_Strengths (C3 T)) := by
  refine okXK T.F_require_program sc_require_program (fun vs H Q E h => ?_) (fun cdv A outer s H vs Q E hr h => ?_)
  · obtain ⟨xs, a, l, k, sss, ms, f, rfl, _⟩ := h
    rfl
  · obtain ⟨xs, a, l, k, sss, ms, f, rfl, st, hk, dp, gd, k1, k2⟩ := h
    refine ⟨_, (pss_cons (ps_if (pt_not (pt_val (pe_call (ok_is_program T) hr rfl T.m_is_program T.F_is_program.kp T.b_is_program .nil (passK (takesK_of rfl rfl rfl rfl)) (pa_cons (pv 2) (pa_cons (pv 1) pa_nil))))) (pss_one (L2N.ps_raise rfl (TakesK.toN (takesK_of rfl rfl rfl rfl)) (pmkN_oex T.x_InvalidProgram T.i_InvalidProgram T.t_InvalidProgram (ok_InvalidProgram_init T) (hr.mono (by decide)) T.b_InvalidProgram_init pass0 rfl T.g_InvalidProgram (pa_cons (pv 2) pa_nil)))) pss_nil)
        (pss_one (ps_for (passes_of rfl) rfl (pi_list (pv 2)) (pg_name (i := 3) sc_require_program.nd rfl (Or.inl rfl))
          (pss_one (ps_if (pt_cmpR op_eq (pe_ix ix_tup (pv 3) pe_int (fun _ _ => rfl)) pe_str (nomark _)) (pss_one (ps_expr (pe_call (ok_require_mode T) (hr.mono (by decide)) rfl T.m_require_mode T.F_require_mode.kp T.b_require_mode .nil (passK (takesK_of rfl rfl rfl rfl)) (pa_cons (pv 0) (pa_cons (pe_ix ix_tup (pv 3) pe_int (fun _ _ => rfl)) pa_nil))))) pss_nil))))), ?_⟩
    have sh := prg_shaped gd
    refine ⟨_, rfl, _, rfl, .ref l, .str k, some (prgD sss), .str k, rfl, .dat dp sh (fun s e => nomatch e), prg_ok gd, .str k, shaped_iff.mpr ⟨(kinds_tok hk), by simp [PyData.depth]⟩, fun e => ?_, fun k' e hk' H1 s1 => ?_⟩
    · rw [kindD_str, decide_eq_true hk] at e
      cases e
    · injection e with e
      subst e
      refine ⟨_, rfl, ?_⟩
      have ep : progO k (some (prgD sss)) = progS k sss := rfl
      rw [ep]
      unfold rowOk at k1 k2
      cases c : progS k sss with
      | false => exact iteTe rfl ⟨_, rfl, raise_x T.x_InvalidProgram T.n_InvalidProgram (((k2 (by simp [c])).bk s1).rz _).2.1⟩
      | true =>
        rw [c, Bool.true_and] at k1 k2
        have all3 : ∀ ss ∈ sss, ss.headD "" = "lock" → ∃ b c, ss = ([("lock" : Str), b, c] : List Str) := fun ss hs he => prog_lock c hs he
        obtain ⟨gl, gd2⟩ := gd.2
        cases dp with
        | lst sq da =>
        rename_i xs'
        refine iteFe rfl ⟨_, rfl, l, rfl, ⟨xs', s1.seq sq⟩, for_it walk_list (fun i σ H' => ∃ v3, σ = [some (.ref a), some (.str k), some (.ref l), v3] ∧ Same H1 H' ∧ lockOk ms (sss.take i) = true) ⟨none, rfl, Same.refl _, rfl⟩ (fun i σ H' _ ⟨_, _, s2, _⟩ => s2.seq (s1.seq sq)) ?_ ?_⟩
        · rintro i y σ H2 H3 hi ⟨v3, rfl, s2, hg⟩ ⟨rfl, hy⟩
          obtain ⟨d, hd, dy⟩ := dpAll_get da hy
          rw [List.getElem?_map] at hd
          obtain ⟨ss, hss, rfl⟩ := Option.map_eq_some_iff.mp hd
          have hm := List.mem_of_getElem? hss
          obtain ⟨b, rfl, hb⟩ := dp_strsT (dp_mono (s1.trans s2) dy)
          obtain ⟨w0, ws, rfl⟩ : ∃ w0 ws, ss = w0 :: ws := by
            cases ss with
            | nil => exact absurd rfl (step_three (prog_step c hm)).1
            | cons w0 ws => exact ⟨w0, ws, rfl⟩
          have next : lockOk ms (sss.take (i + 1)) = (lockOk ms (sss.take i) && (!decide (w0 = "lock") || decide ((w0 :: ws).getD 2 "" ∈ ms))) := by
            rw [List.take_add_one, hss]
            unfold lockOk
            rw [Option.toList_some, List.all_append, List.all_cons, List.all_nil, Bool.and_true]
            rfl
          have r0 : atI ((w0 :: ws).map V.str) 0 = some (V.str w0) := by
            rw [List.map_cons]
            simp [atI, ixN]
          refine ⟨_, rfl, b, _, 0, V.str w0, rfl, rfl, hb, r0, rfl, _, rfl, ?_⟩
          by_cases e : w0 = "lock"
          · obtain ⟨x, z, ez⟩ := all3 _ hm e
            injection ez with ez1 ez2
            subst ez1 ez2
            refine iteTe (decide_eq_true rfl) ?_
            have r2 : atI (([("lock" : Str), x, z] : List Str).map V.str) 2 = some (V.str z) := rfl
            refine ⟨_, rfl, _, rfl, b, _, 2, V.str z, rfl, rfl, hb, r2, xs, a, z, ms, f, rfl, st.mono (s1.trans s2), fun m H4 s4 => ⟨_, rfl, s2.trans s4, ?_⟩, fun m => ?_⟩
            · rw [next, hg, Bool.true_and]
              show (!decide (("lock" : Str) = "lock") || decide (z ∈ ms)) = true
              rw [decide_eq_true m, Bool.or_true]
            · refine (k2 ?_).bk (s1.trans s2)
              unfold lockOk
              rw [List.all_eq_false]
              exact ⟨_, hm, by
                show ¬ (!decide (("lock" : Str) = "lock") || decide (z ∈ ms)) = true
                rw [decide_eq_false m, decide_eq_true rfl]
                decide⟩
          · refine iteFe (decide_eq_false fun z => e (by injection z)) ?_
            refine ⟨_, rfl, s2, ?_⟩
            rw [next, hg, decide_eq_false e]
            rfl
        · rintro σ H2 ⟨v3, rfl, s2, hg⟩
          have el : sss.take xs'.length = sss := by
            have := dpAll_len da
            rw [List.length_map] at this
            rw [this, List.take_length]
          rw [el] at hg
          exact k1 hg _ (s1.trans s2)
theorem ok_Rulebook_init (T : Txt K mg w) : FnOk P w K mg base (CXK P w) 7 T.f_Rulebook_init T.fd_Rulebook_init ["self", "strengths", "programs"] (sp_rinit K T.C_Strengths T.C_Rulebook (C3 T)) := by
  refine okXK T.F_Rulebook_init sc_Rulebook_init (fun vs H Q E h => ?_) (fun cdv A outer s H vs Q E hr h => ?_)
  · obtain ⟨x, dx, a, pd, kvs, rows, ms, f, rfl, _⟩ := h
    rfl
  · obtain ⟨x, dx, a, pd, kvs, rows, ms, f', rfl, hx, st, hp, en, gd, nd, k1, k2⟩ := h
    refine ⟨_, (pss_cons (ps_expr (pe_call (ok_require_strengths T) (hr.mono (by decide)) rfl T.m_require_strengths T.F_require_strengths.kp T.b_require_strengths .nil (passK (takesK_of rfl rfl rfl rfl)) (pa_cons (pv 1) pa_nil)))
        (pss_cons (ps_expr (pe_call (ok_require_programs T) (hr.mono (by decide)) rfl T.m_require_programs T.F_require_programs.kp T.b_require_programs .nil (passK (takesK_of rfl rfl rfl rfl)) (pa_cons (pv 2) pa_nil)))
        (pss_cons (ps_setLc (i := 3) (own := [("kind", 4)]) (g := gName 4) rfl sc_Rulebook_init.nd rfl rfl (sw_true rfl rfl rfl (by decide +kernel)) (pi_tup (pe_glob (v := .ref T.A_KINDS) rfl T.c_KINDS rfl)) (blkOk_by (own := [("kind", 4)]) (N := ["self", "strengths", "programs", "given", "kind"]) (sc := defScope s_Rulebook_init) (by decide +kernel)) (fun _ _ _ _ _ => (pg_name (i := 4) sc_Rulebook_init.nd rfl (Or.inl rfl))) (fun _ _ _ _ _ => (pts_one (pt_cmp (pc_din (hu_of hr) (pv 4) (pv 2))))) (fun _ _ _ _ _ => (pv 4)))
        (pss_cons (ps_for (passes_of rfl) rfl (pi_list (pv 3)) (pg_name (i := 4) sc_Rulebook_init.nd rfl (Or.inl rfl))
          (pss_one (ps_expr (pe_call (ok_require_program T) hr rfl T.m_require_program T.F_require_program.kp T.b_require_program .nil (passK (takesK_of rfl rfl rfl rfl)) (pa_cons (pv 1) (pa_cons (pv 4) (pa_cons (pe_dget (hu_of hr) (pv 2) (pv 4) (fun _ _ => rfl)) pa_nil)))))))
        (pss_cons (ps_fld (pv 0) (pv 1) rfl)
        (pss_one (ps_fld (pv 0) (pe_dc (own := [("kind", 4)]) (g := gName 4) (tt := tYes) rfl sc_Rulebook_init.nd (pi_list (pv 3)) (blkOk_by (own := [("kind", 4)]) (N := ["self", "strengths", "programs", "given", "kind"]) (sc := defScope s_Rulebook_init) (by decide +kernel)) (fun _ _ _ _ _ => (pg_name (i := 4) sc_Rulebook_init.nd rfl (Or.inl rfl))) (fun _ _ _ _ _ => pts_nil) (fun _ _ _ _ _ => (pv 4)) (fun _ _ _ _ _ => (pe_callTy (T := "list") (r := rListOfN K) call_list_of (by rfl) T.z_list (by decide +kernel) (pa_cons (pe_dget (hu_of hr) (pv 2) (pv 4) (fun _ _ => rfl)) pa_nil)))) rfl))))))), ?_⟩
    have sB := but_le H x
    obtain ⟨dz, lz, ddz, kz, hz, _⟩ := id (st.mono sB)
    refine ⟨_, rfl, a, dz, _, rfl, hz, _, rfl, pd, kvs, rows, rfl, hp, en.mono sB, gd, fun e1 H1 s1 => ?_, fun e1 => k1 (rb_kinds e1)⟩
    have KS := fun H' => kinds_sq (K := K) T.d_KINDS H'
    refine ⟨T.A_KINDS, rfl, ⟨_, KS _⟩, fun D hD => ?_⟩
    refine lc_acc (walk_tup (xs := kindsL.map V.str)) hD (fun H' s' => KS _) (fun i => ((kindsL.take i).filter fun k => (findR rows k).isSome).map V.str) rfl (fun i hi => ?_) ?_ ?_
    · rw [List.length_map]
      exact Nat.lt_of_le_of_lt (Nat.le_trans (List.length_filter_le _ _) (List.length_take_le _ _)) (Nat.lt_of_lt_of_le hi (by decide))
    · rintro i y H2 hi hy s2 R S r1 r2
      rw [List.getElem?_map] at hy
      obtain ⟨k, hk, rfl⟩ := Option.map_eq_some_iff.mp hy
      have kin := entsP_in en k
      refine ⟨rfl, _, rfl, _, rfl, pd, _, rfl, .inl ⟨kvs, .inr k, .inl (s2 _ _ (s1 _ _ hp)), rfl, rfl⟩, _, rfl, ?_⟩
      rw [kin]
      have nx : (kindsL.take (i + 1)).filter (fun k => (findR rows k).isSome) = (kindsL.take i).filter (fun k => (findR rows k).isSome) ++ if (findR rows k).isSome = true then [k] else [] := by
        rw [List.take_add_one, hk, List.filter_append, Option.toList_some, List.filter_cons, List.filter_nil]
      cases f : (findR rows k).isSome with
      | false =>
        refine iteF (r2 _ ?_ (Same.refl _))
        rw [nx, f, if_neg (by decide), List.append_nil]
      | true =>
        refine iteT ⟨_, rfl, r1 _ _ ?_ (Same.refl _)⟩
        rw [nx, f, if_pos rfl, List.map_append]
        rfl
    · intro H2 s2 hD2
      rw [show ((kindsL.map V.str).length : Nat) = kindsL.length from List.length_map .., List.take_length] at hD2
      have hD2 : H2 D = some (.lst ((gvR rows).map V.str)) := hD2
      have s12 := s1.trans s2
      have en2 := en.mono (sB.trans s12)
      have hp2 := s12 _ _ hp
      have look : ∀ {k : Str}, k ∈ gvR rows → ∃ p, findR rows k = some p ∧ (k, p) ∈ rows ∧ k ∈ kindsL := fun {k} hk => by
        obtain ⟨h1, h2⟩ := List.mem_filter.mp hk
        obtain ⟨p, e⟩ := Option.isSome_iff_exists.mp h2
        exact ⟨p, e, findR_mem e, h1⟩
      refine ⟨_, rfl, D, rfl, ⟨_, SqL.of hD2⟩, for_it walk_list (fun i σ H' => ∃ v4, σ = [some (.ref x), some (.ref a), some (.ref pd), some (.ref D), v4] ∧ Same H2 H' ∧ ∀ k ∈ (gvR rows).take i, ∀ p, findR rows k = some p → rowOk ms (k, p) = true)
        ⟨none, rfl, Same.refl _, by simp⟩ (fun i σ H' _ ⟨_, _, s3, _⟩ => SqL.of (s3 _ _ hD2)) ?_ ?_⟩
      · rintro i y σ H3 H4 hi ⟨v4, rfl, s3, hg⟩ ⟨rfl, hy⟩
        rw [List.getElem?_map] at hy
        obtain ⟨k, hk, rfl⟩ := Option.map_eq_some_iff.mp hy
        obtain ⟨q, f, hm, hkk⟩ := look (List.mem_of_getElem? hk)
        obtain ⟨l, hval, dl⟩ := entsP_val en2 f
        have s13 := s12.trans s3
        refine ⟨_, rfl, _, rfl, _, rfl, _, rfl, pd, .ref l, rfl, .inl ⟨kvs, .inr k, .inl (s13 _ _ hp), rfl, hval.symm⟩, [pd], a, l, k, q, ms, f', rfl, st.mono (sB.trans s13), hkk, dp_mono s3 dl, gd _ hm, fun ok H5 s5 => ⟨_, rfl, s3.trans s5, fun k' hk' => ?_⟩, fun bad => (k1 (rb_row hm bad)).bk s13⟩
        rw [List.take_add_one, hk] at hk'
        rcases List.mem_append.mp hk' with z | z
        · exact hg k' z
        · rw [Option.toList_some, List.mem_singleton] at z
          subst z
          intro p' e'
          rw [f] at e'
          cases e'
          exact ok
      · rintro σ H3 ⟨v4, rfl, s3, hg⟩
        rw [show ((gvR rows).map V.str).length = (gvR rows).length from List.length_map .., List.take_length] at hg
        have k2 := k2 (rb_all nd e1 hg)
        have s13 := s12.trans s3
        have nDx : x ≠ D := ne_of_none (s1 _ _ hx) hD
        have nPx : pd ≠ x := ne_of hp hx (by intro z; cases z)
        refine ⟨_, rfl, _, rfl, x, T.C_Rulebook, dx, [], rfl, s13 _ _ hx, T.cl_Rulebook, T.no_Rulebook_strengths, (by show 0 < 1000; decide), ?_⟩
        have sm : Same (but H x) (upd H3 x (.ins T.C_Rulebook dx (putF "_strengths" (.ref a) []))) := but_mut (sB.trans s13)
        have hx3 : (upd H3 x (.ins T.C_Rulebook dx (putF "_strengths" (.ref a) []))) x = some (.ins T.C_Rulebook dx (putF "_strengths" (.ref a) [])) := upd_same
        have hD3 : (upd H3 x (.ins T.C_Rulebook dx (putF "_strengths" (.ref a) []))) D = some (.lst ((gvR rows).map V.str)) := by
          rw [upd_ne nDx.symm]
          exact s3 _ _ hD2
        have hp3 : (upd H3 x (.ins T.C_Rulebook dx (putF "_strengths" (.ref a) []))) pd = some (.dK kvs) := by
          rw [upd_ne nPx]
          exact s13 _ _ hp
        have st3 : ∀ b o, H b = some o → b ≠ x → (upd H3 x (.ins T.C_Rulebook dx (putF "_strengths" (.ref a) []))) b = some o := fun b o e hb => by
          rw [upd_ne hb]
          exact s13 _ _ e
        generalize upd H3 x (.ins T.C_Rulebook dx (putF "_strengths" (.ref a) [])) = H4 at sm hx3 hD3 hp3 st3
        refine ⟨_, rfl, D, rfl, ⟨_, SqL.of hD3⟩, fun D2 hDD => ?_⟩
        have nD2x : x ≠ D2 := ne_of_none hx3 hDD
        have sG : ∀ {G : Hp}, Same H4 G → Same (but H x) (but (but G D2) x) := fun {G} s b u e => by
          have hb : b ≠ x := fun z => by
            rw [z, but_same] at e
            cases e
          have e4 := sm _ _ e
          have hb2 : b ≠ D2 := fun z => by
            rw [z, hDD] at e4
            cases e4
          rw [but_ne hb, but_ne hb2]
          exact s _ _ e4
        refine dc_it walk_list (fun i H' => Same H4 H' ∧ ∃ kvs', H' D2 = some (.dK kvs') ∧ Ents K (but (but H' D2) x) kvs' (entsG rows ((gvR rows).take i))) ⟨same_new hDD, [], upd_same, .nil⟩ (fun i H' _ ⟨s, _⟩ => SqL.of (s _ _ hD3)) ?_ ?_
        · rintro i y H5 H6 hi ⟨s5, kvs', hk', en'⟩ ⟨rfl, hy⟩
          rw [List.getElem?_map] at hy
          obtain ⟨k, hk, rfl⟩ := Option.map_eq_some_iff.mp hy
          obtain ⟨q, f, hm, hkk⟩ := look (List.mem_of_getElem? hk)
          obtain ⟨l, hval, dl⟩ := entsP_val en f
          cases dl with
          | lst sq da =>
          rename_i xs'
          refine ⟨rfl, tyes ⟨_, rfl, _, rfl, _, rfl, pd, .ref l, rfl, .inl ⟨kvs, .inr k, .inl (s5 _ _ hp3), rfl, hval.symm⟩, l, xs', rfl, .inl ((sm.trans s5).seq sq), fun l1 h1 => ?_⟩⟩
          have sl := same_new (o := .lst xs') h1
          have nlx : l1 ≠ x := (ne_of_none (s5 _ _ hx3) h1).symm
          have nlD : l1 ≠ D2 := (ne_of_none hk' h1).symm
          have sN : ∀ {o : HO}, Same H4 (upd (upd H6 l1 (.lst xs')) D2 o) := fun {o} b u e => by
            rw [upd_ne (ne_of_none e hDD)]
            exact sl _ _ (s5 _ _ e)
          have kn := en'.keys (entsG_ne (gvR_nd rows) hk)
          refine ⟨kvs', .inr k, rfl, sl _ _ hk', ?_, sN, _, upd_same, ?_⟩
          · have h2 := en'.len
            rw [show (entsG rows ((gvR rows).take i)).length = ((gvR rows).take i).length from List.length_map ..] at h2
            rw [h2]
            exact Nat.lt_of_le_of_lt (Nat.le_trans (List.length_take_le' _ _) (gvR_len rows)) (by decide)
          · rw [putK_new _ kn]
            have e1 : entsG rows ((gvR rows).take (i + 1)) = entsG rows ((gvR rows).take i) ++ [(.inr k, prgD q)] := by
              rw [List.take_add_one, hk]
              unfold entsG
              rw [List.map_append]
              show _ ++ [(_, prgD ((findR rows k).getD []))] = _
              rw [f]
              rfl
            rw [e1]
            refine (en'.mono ((but_of (but_of sl)).trans (but_of (but_upd _ D2 _)))).snoc (.lst (SqL.of ?_) (dpAll_mono (sG sN) da)) (prg_shaped (gd _ hm))
            rw [but_ne nlx, but_ne nlD, upd_ne nlD]
            exact upd_same
        · rintro H5 ⟨s5, kvs', hk', en'⟩
          rw [show ((gvR rows).map V.str).length = (gvR rows).length from List.length_map .., List.take_length, entsG_canon] at en'
          refine ⟨_, rfl, x, T.C_Rulebook, dx, _, rfl, s5 _ _ hx3, T.cl_Rulebook, T.no_Rulebook_programs, (by show 1 < 1000; decide), ?_⟩
          rw [fsR_eq]
          refine k2 _ (fun b o e hb => by
            rw [upd_ne hb]
            exact s5 _ _ (st3 b o e hb)) ⟨dx, a, D2, kvs', upd_same, st.mono (but_mut (sm.trans s5)), by rw [upd_ne nD2x.symm]; exact hk', en'.mono fun b u e => ?_⟩
          have hb : b ≠ x := fun z => by
            rw [z, but_same] at e
            cases e
          rw [but_ne hb] at e
          rw [upd_ne hb]
          exact but_le _ _ _ _ e
theorem ok_program_text (T : Txt K mg w) : FnOk P w K mg base CX0 2 T.f_program_text T.fd_program_text ["program"] (sp_ptext K) := by
  refine T.F_program_text.ok sc_program_text (fun vs H Q E h => ?_) (fun cdv A outer s H vs Q E hr h => ?_)
  · obtain ⟨l, sss, rfl, _⟩ := h
    rfl
  · obtain ⟨l, sss, rfl, dp, l12, gd, k⟩ := h
    refine ⟨_, (pss_one (ps_ret (pe_join pe_str (pe_lc (own := [("step", 1)]) (g := gName 1) (tt := tYes) rfl sc_program_text.nd (pi_list (pv 0)) (blkOk_by (own := [("step", 1)]) (N := ["program", "step"]) (sc := defScope s_program_text) (by decide +kernel)) (fun _ _ _ _ _ => (pg_name (i := 1) sc_program_text.nd rfl (Or.inl rfl))) (fun _ _ _ _ _ => pts_nil) (fun _ _ _ _ _ => (pe_call (ok_step_text T) hr rfl T.m_step_text T.F_step_text.kp T.b_step_text .nil pass0 (pa_cons (pv 1) pa_nil))))))), ?_⟩
    cases dp with
    | lst sq da =>
    rename_i xs
    refine ⟨⟨_, rfl⟩, _, rfl, l, rfl, ⟨xs, sq⟩, fun D hD => ?_⟩
    have xl := dpAll_len da
    rw [List.length_map] at xl
    refine lc_acc walk_list hD (fun H' s' => s'.seq sq) (fun i => ((sss.take i).map (Txt.join " ")).map V.str) rfl (fun i hi => ?_) ?_ ?_
    · rw [List.length_map, List.length_map, List.length_take]
      exact Nat.lt_of_le_of_lt (Nat.le_trans (Nat.min_le_right _ _) l12) (by decide)
    · rintro i y H2 hi hy s2 R S r1 r2
      obtain ⟨d, hd, dy⟩ := dpAll_get da hy
      rw [List.getElem?_map] at hd
      obtain ⟨ss, hss, rfl⟩ := Option.map_eq_some_iff.mp hd
      have hm := List.mem_of_getElem? hss
      obtain ⟨b, rfl, hb⟩ := dp_strsT (dp_mono s2 dy)
      refine ⟨rfl, tyes ⟨_, rfl, b, ss, rfl, hb, (gd ss hm).1, fun s hs => Nat.le_trans ((gd ss hm).2 s hs) (by decide), r1 _ _ ?_ (Same.refl _)⟩⟩
      rw [List.take_add_one, hss, List.map_append, List.map_append]
      rfl
    · intro H2 s2 hD2
      rw [xl, List.take_length] at hD2
      refine ⟨", ", D, sss.map (Txt.join " "), rfl, rfl, .inl (SqL.of hD2), ?_, k _ s2⟩
      have hj : ∀ y ∈ sss.map (Txt.join " "), y.length ≤ 30 := fun y hy => by
        obtain ⟨ss, hs, rfl⟩ := List.mem_map.mp hy
        obtain ⟨g1, g2⟩ := gd ss hs
        have h1 := join_len " " ss
        have h2 := join_le (a := (" " : Str)) (ys := ss) g2 g1 (by decide +kernel)
        omega
      have h3 := join_le (a := (", " : Str)) hj (m := 12) (by rw [List.length_map]; exact l12) (by decide +kernel)
      exact Nat.le_trans h3 (by decide)
theorem ok_Rulebook_str (T : Txt K mg w) : FnOk P w K mg base CX0 5 T.f_Rulebook_str T.fd_Rulebook_str ["self"] (sp_rstr K T.C_Strengths T.C_Rulebook) := by
  refine T.F_Rulebook_str.ok sc_Rulebook_str (fun vs H Q E h => ?_) (fun cdv A outer s H vs Q E hr h => ?_)
  · obtain ⟨x, ms, f, rows, rfl, _⟩ := h
    rfl
  · obtain ⟨x, ms, f, rows, rfl, rb, hn, h9, r8, nd, sh, k⟩ := h
    refine ⟨_, (pss_cons (ps_lock (ps_setLc (i := 1) (own := [("kind", 2)]) (g := gName 2) (tt := tYes) rfl sc_Rulebook_str.nd rfl rfl (sw_true rfl rfl rfl (by decide +kernel)) (pi_keys (pe_fld (pv 0) rfl)) (blkOk_by (own := [("kind", 2)]) (N := ["self", "lines", "kind"]) (sc := defScope s_Rulebook_str) (by decide +kernel)) (fun _ _ _ _ _ => (pg_name (i := 2) sc_Rulebook_str.nd rfl (Or.inl rfl))) (fun _ _ _ _ _ => pts_nil) (fun _ _ _ _ _ => (pe_joinedN (.cons (pe_fmt (pv 2)) (.cons pe_str (.cons (pe_fmt (pe_call (ok_program_text T) (hr.mono (by decide)) rfl T.m_program_text T.F_program_text.kp T.b_program_text .nil pass0 (pa_cons (pe_dget (hu_of hr) (show PE _ _ (tFld K _ _) from (pe_fld (pv 0) rfl)) (pv 2) (fun _ _ => rfl)) pa_nil))) .nil)))))))
        (pss_one (ps_ret (pe_join pe_str (pe_lst (pa_cons (pe_callTy (T := "str") (call_strI (ok_Strengths_str T) hr T.b_Strengths_str T.me_Strengths_str.at_ T.me_Strengths_str.fn pass0) (by rfl) T.z_str (by decide +kernel) (pa_cons (pe_fld (pv 0) rfl) pa_nil)) (StX.pa_star (pv 1) pa_nil))))))), ?_⟩
    obtain ⟨dx, a, d, kvs, hx, sa, hd, en⟩ := rb
    have z9 : 1000 ≤ sizeLine := by decide
    have z2 : (": " : Str).length = 2 := by decide +kernel
    have kl := en.len
    rw [show (entsP rows).length = rows.length from List.length_map ..] at kl
    have hxd : ∀ {o : HO}, (upd H d o) x = some (.ins T.C_Rulebook dx (fsR a d)) := by
      intro o
      rw [upd_ne (ne_of hx hd (by intro z; cases z))]
      exact hx
    refine ⟨d, _, hd, trivial, fun od => ⟨_, rfl, x, T.C_Rulebook, dx, _, _, rfl, hxd, T.cl_Rulebook, T.no_Rulebook_programs, fsR_p a d, d, od, rfl, .inl ⟨_, upd_same, fun D hD => ?_⟩⟩⟩
    have ndD : d ≠ D := ne_of_none upd_same hD
    refine lc_acc (walk_keys.mono (fun H h => h) (fun i H y H' _ _ z => z)) hD (fun H' s' => s' _ _ upd_same) (fun i => ((rows.take i).map fun r => V.str (lineT r))) rfl (fun i hi => ?_) ?_ ?_
    · rw [List.length_map]
      exact Nat.lt_of_le_of_lt (Nat.le_trans (List.length_take_le' _ _) r8) (by decide)
    · rintro i y H1 hi ⟨k0, v0, hk, rfl⟩ s1 R S r1 r2
      obtain ⟨r, hr1, rfl, _⟩ := entsP_get en hk
      have hm := List.mem_of_getElem? hr1
      have nd1 : ND H H1 := (ND.lock hd).trans (.of s1)
      obtain ⟨q1, q2, q3⟩ := sh r hm
      obtain ⟨l, hval, dl⟩ := entsP_val en (findR_of nd hm)
      have tl := progT_len q2 q3
      refine ⟨rfl, tyes ⟨_, rfl, .inl ⟨_, rfl, by omega, _, rfl, ?_, _, rfl, ?_, ?_⟩⟩⟩
      · rw [emp_app]
        omega
      · rw [emp_app, Str.length_append]
        omega
      · refine ⟨_, rfl, x, T.C_Rulebook, dx, _, _, rfl, s1 _ _ hxd, T.cl_Rulebook, T.no_Rulebook_programs, fsR_p a d, _, rfl, d, .ref l, rfl, .inl ⟨kvs, .inr r.1, .inr ⟨od, s1 _ _ upd_same⟩, rfl, hval.symm⟩, l, r.2, rfl, dp_nd nd1 dl, q2, q3, fun H2 s2 => .inl ⟨_, rfl, by omega, _, rfl, ?_, ?_⟩⟩
        · rw [emp_app, Str.length_append, Str.length_append]
          omega
        · refine r1 _ _ ?_ s2
          rw [List.take_add_one, hr1, List.map_append]
          rfl
    · intro H1 s1 hD1
      rw [kl, List.take_length] at hD1
      refine ⟨s1 _ _ upd_same, ?_⟩
      have sU := unlock hd s1
      have hD2 : (upd H1 d (.dK kvs)) D = some (.lst (rows.map fun r => V.str (lineT r))) := by
        rw [upd_ne ndD.symm]
        exact hD1
      generalize upd H1 d (.dK kvs) = H2 at sU hD2
      obtain ⟨dz, lz, ddz, kz, hz, _⟩ := id sa
      refine ⟨⟨_, rfl⟩, _, rfl, x, T.C_Rulebook, dx, _, _, rfl, sU _ _ hx, T.cl_Rulebook, T.no_Rulebook_strengths, fsR_s a d, a, dz, _, rfl, sU _ _ hz, a, ms, f, rfl, sa.mono sU, hn, Nat.le_succ_of_le h9.2, fun H3 s3 => ⟨_, rfl, _, rfl, D, _, rfl, .inr (SqL.of (s3 _ _ hD2)), ?_⟩⟩
      refine ⟨by rw [List.append_nil, List.length_cons, List.length_map]; omega, fun p hp => ⟨"\n", p, textM ms (prsOf f ms) :: rows.map lineT, rfl, rfl, .inl (SqL.of ?_), ?_, k _ (sU.trans (s3.trans (same_new hp)))⟩⟩
      · rw [upd_same, List.append_nil, List.map_cons, List.map_map]
        rfl
      · have hj : ∀ y ∈ textM ms (prsOf f ms) :: rows.map lineT, y.length ≤ 10000 := fun y hy => by
          rcases List.mem_cons.mp hy with rfl | hy
          · exact Nat.le_trans (told_len hn h9.2 h9.1 (fun p hp => mem_prsOf hp) (prs36 f h9.2)).2 (by decide)
          · obtain ⟨r, hr, rfl⟩ := List.mem_map.mp hy
            obtain ⟨q1, q2, q3⟩ := sh r hr
            have tl := progT_len q2 q3
            unfold lineT
            rw [emp_app, Str.length_append, Str.length_append]
            omega
        have h3 := join_le (a := ("\n" : Str)) hj (m := 9) (by rw [List.length_cons, List.length_map]; omega) (by decide +kernel)
        exact Nat.le_trans h3 (by decide)
theorem ok_Rulebook_eq (T : Txt K mg w) : FnOk P w K mg base CX0 2 T.f_Rulebook_eq T.fd_Rulebook_eq ["self", "other"] (sp_rbeq K T.C_Strengths T.C_Rulebook) := by
  refine T.F_Rulebook_eq.ok sc_Rulebook_eq (fun vs H Q E h => ?_) (fun cdv A outer s H vs Q E hr h => ?_)
  · obtain ⟨x, y, ms, ms2, f, f2, rows, rows2, rfl, _⟩ := h
    rfl
  · obtain ⟨x, y, ms, ms2, f, f2, rows, rows2, rfl, rx, ry, hn, hn2, k⟩ := h
    refine ⟨_, (pss_one (ps_ret (pe_and (pe_callB (id := "isinstance") call_isi (by rfl) T.z_isinstance (by decide +kernel) (pa_cons (pv 1) (pa_cons (pe_glob (v := .ref T.C_Rulebook) rfl T.g_Rulebook rfl) pa_nil))) (pe_and (pe_cmpR (op_eqI (ok_Strengths_eq T) hr T.b_Strengths_eq T.me_Strengths_eq.at_ T.me_Strengths_eq.fn pass0) (pe_fld (pv 0) rfl) (pe_fld (pv 1) rfl) (nomark _)) (pe_one (pe_cmpR (op_eqDD (u65 hr)) (pe_fld (pv 0) rfl) (pe_fld (pv 1) rfl) (nomark _))))))), ?_⟩
    obtain ⟨dx, a, d, kvs, hx, sa, hd, en⟩ := rx
    obtain ⟨dy, a2, d2, kvs2, hy, sa2, hd2, en2⟩ := ry
    have ic := T.ic_Rulebook
    refine ⟨_, rfl, _, _, _, _, _, rfl, .own _, .base (.ins hy ic.cl ic.ha ic.hn ic.htk ic.hm), ic.me, _, rfl, iteT ?_⟩
    have ics := T.ic_Strengths
    obtain ⟨dz, lz, ddz, kz, hz, _⟩ := id sa
    obtain ⟨dw, lw, ddw, kw, hw, _⟩ := id sa2
    refine ⟨_, rfl, x, _, dx, _, _, rfl, hx, T.cl_Rulebook, T.no_Rulebook_strengths, fsR_s a d, _, rfl, y, _, dy, _, _, rfl, hy, T.cl_Rulebook, T.no_Rulebook_strengths, fsR_s a2 d2, a, dz, fsS lz ddz, .ref T.C_Strengths, rfl, hz, .base (.ins hw ics.cl ics.ha ics.hn ics.htk ics.hm), by simp [PySem.W.notFirst],
      a, .ref a2, ms, f, rfl, sa, hn, .inr ⟨a2, ms2, f2, rfl, sa2, hn2, _, rfl, ?_⟩⟩
    cases c : eqStr ms f ms2 f2 with
    | false =>
      rw [c, Bool.false_and] at k
      exact iteFe rfl k
    | true =>
      rw [c, Bool.true_and] at k
      refine iteTe rfl ⟨_, rfl, x, _, dx, _, _, rfl, hx, T.cl_Rulebook, T.no_Rulebook_programs, fsR_p a d, _, rfl, y, _, dy, _, _, rfl, hy, T.cl_Rulebook, T.no_Rulebook_programs, fsR_p a2 d2, d, d2, kvs, kvs2, _, _, rfl, rfl, hd, hd2, en, en2, ?_⟩
      rw [show (entsP rows).length = rows.length from List.length_map .., show (entsP rows2).length = rows2.length from List.length_map ..]
      exact k
theorem ok_parsed_protocol (T : Txt K mg w) : FnOk P w K mg base (CXK P w) 9 T.f_parsed_protocol T.fd_parsed_protocol ["text"] (sp_parsedR K T.C_Strengths T.C_Rulebook T.C_InvalidText (C3 T)) := by
  refine okXK T.F_parsed_protocol sc_parsed_protocol (fun vs H Q E h => ?_) (fun cdv A outer s H vs Q E hr h => ?_)
  · obtain ⟨t, rfl, _⟩ := h
    rfl
  · obtain ⟨t, rfl, ht, k1, k2⟩ := h
    refine ⟨_, (pss_cons (ps_asg (pe_split (pv 0) pe_str) (pg_lstS (n := 2) (i := 1) rfl (pgs_cons (pg_name (i := 1) sc_parsed_protocol.nd rfl (Or.inl rfl)) (pgs_star (pg_name (i := 2) sc_parsed_protocol.nd rfl (Or.inl rfl)) pgs_nil))))
        (pss_cons (ps_set (i := 3) sc_parsed_protocol.nd rfl (Or.inl rfl) pe_dnewK)
        (pss_cons (ps_for (passes_of rfl) rfl (pi_list (pv 2)) (pg_name (i := 4) sc_parsed_protocol.nd rfl (Or.inl rfl))
          (pss_cons (ps_asg (pe_partition (pv 4) pe_str) (pg_tup rfl (pgs_cons (pg_name (i := 5) sc_parsed_protocol.nd rfl (Or.inl rfl)) (pgs_cons (pg_name (i := 6) sc_parsed_protocol.nd rfl (Or.inl rfl)) (pgs_cons (pg_name (i := 7) sc_parsed_protocol.nd rfl (Or.inl rfl)) pgs_nil)))))
        (pss_one (ps_dput (hu_of hr) (pv 3) (pv 5) (pe_lc (own := [("step", 8)]) (g := gName 8) (tt := tYes) rfl sc_parsed_protocol.nd (pi_list (pe_split (pv 7) pe_str)) (blkOk_by (own := [("step", 8)]) (N := ["text", "first", "lines", "programs", "line", "kind", "_", "told", "step"]) (sc := defScope s_parsed_protocol) (by decide +kernel)) (fun _ _ _ _ _ => (pg_name (i := 8) sc_parsed_protocol.nd rfl (Or.inl rfl))) (fun _ _ _ _ _ => pts_nil) (fun _ _ _ _ _ => (pe_callTy (T := "tuple") (r := rTupOfN K) call_tuple_of (by rfl) T.z_tuple (by decide +kernel) (pa_cons (show PE _ _ (tM1 rSplitN _ _) from (pe_split (pv 8) pe_str)) pa_nil)))) rfl))))
        (pss_one (ps_ret (pe_makeS T.mk_Rulebook (ok_Rulebook_init T) hr rfl T.g_Rulebook T.b_Rulebook_init (passAt_of (passK (takesK_of rfl rfl rfl rfl))) (pa_cons (pe_call (ok_read_strengths T) hr rfl T.m_read_strengths T.F_read_strengths.kp T.b_read_strengths .nil (passK (takesK_of rfl rfl rfl rfl)) (pa_cons (pv 1) pa_nil)) (pa_cons (pv 3) pa_nil)))))))), ?_⟩
    have b2 : ∀ {s : Str}, s.length ≤ 100000 → s.length + 2 ≤ sizeLine := fun h => Nat.le_trans (Nat.add_le_add_right h 2) (by show 100002 ≤ sizeLine; decide)
    obtain ⟨first, lines, ew⟩ := nl_cons t
    obtain ⟨wok, wlen⟩ := split_ok split_nl ht
    unfold progR at k1 k2
    rw [ew] at wok wlen k1 k2
    have fok := wok first List.mem_cons_self
    have lok : ∀ l ∈ lines, tOk l := fun l hl => wok l (List.mem_cons_of_mem _ hl)
    rw [List.length_cons] at wlen
    refine ⟨_, rfl, ⟨t, rfl⟩, t, "\n", rfl, rfl, by decide +kernel, b2 ht.1, fun l0 hl0 => ?_⟩
    rw [ew]
    have s0 := same_new (o := .lst ((first :: lines).map V.str)) hl0
    refine ⟨l0, _, rfl, SqL.of upd_same, by simp, fun q hq => ?_⟩
    have s1 := s0.trans (same_new (o := .lst (lines.map V.str)) hq)
    have c1 : List.take ((List.map V.str (first :: lines)).length + 1 - 2) (List.drop 1 (List.map V.str (first :: lines))) = lines.map V.str := by
      rw [show (List.map V.str (first :: lines)).length + 1 - 2 = (lines.map V.str).length by simp]
      exact List.take_length
    have c2 : List.take 1 (List.map V.str (first :: lines)) ++ [V.ref q] ++ List.drop ((List.map V.str (first :: lines)).length + 1 - 2) (List.drop 1 (List.map V.str (first :: lines))) = [.str first, .ref q] := by simp
    rw [c1, c2]
    have hq2 : (upd (upd H l0 (.lst ((first :: lines).map V.str))) q (.lst (lines.map V.str))) q = some (.lst (lines.map V.str)) := upd_same
    generalize upd (upd H l0 (.lst ((first :: lines).map V.str))) q (.lst (lines.map V.str)) = H2 at s1 hq2
    refine ⟨_, _, rfl, _, _, rfl, rfl, fun pd hpd => ?_⟩
    have npd : H pd = none := s1.free hpd
    refine ⟨_, rfl, q, rfl, ⟨_, SqL.of (same_new hpd _ _ hq2)⟩, for_it walk_list (fun i σ H' => ∃ v4 v5 v6 v7 v8, σ = [some (.str t), some (.str first), some (.ref q), some (.ref pd), v4, v5, v6, v7, v8] ∧ Same H2 H' ∧ ∃ kvs, H' pd = some (.dK kvs) ∧ Ents K (but H' pd) kvs (entsP (dictR (lines.take i))))
      ⟨_, _, _, _, _, rfl, same_new hpd, [], upd_same, .nil⟩ (fun i σ H' _ ⟨_, _, _, _, _, _, s3, _⟩ => SqL.of (s3 _ _ hq2)) ?_ ?_⟩
    · rintro i y σ H3 H4 hi ⟨v4, v5, v6, v7, v8, rfl, s3, kvs, hk, en⟩ ⟨rfl, hy⟩
      rw [List.getElem?_map] at hy
      obtain ⟨l, hl, rfl⟩ := Option.map_eq_some_iff.mp hy
      have lm := lok l (List.mem_of_getElem? hl)
      obtain ⟨oh, ob⟩ := part_ok lm
      obtain ⟨tok, tlen⟩ := split_ok split_cm ob
      refine ⟨_, rfl, ⟨l, rfl⟩, l, ": ", rfl, rfl, by decide +kernel, Nat.le_trans lm.1 (by decide), fun p hp => ?_⟩
      have s4 := same_new (o := .tup [.str (Txt.partition l ": ").1, .str (Txt.partition l ": ").2.1, .str (Txt.partition l ": ").2.2]) hp
      refine ⟨p, _, rfl, SqT.of upd_same, rfl, _, _, rfl, _, _, rfl, _, _, rfl, rfl, ?_⟩
      refine ⟨_, rfl, ⟨_, rfl⟩, (Txt.partition l ": ").2.2, ", ", rfl, rfl, by decide +kernel, b2 ob.1, fun lt hlt => ⟨lt, rfl, ⟨_, SqL.of upd_same⟩, fun D hD => ?_⟩⟩
      have s5 := s4.trans (same_new (o := .lst ((Txt.split (Txt.partition l ": ").2.2 ", ").map V.str)) hlt)
      have hlt5 : (upd (upd H4 p (.tup [.str (Txt.partition l ": ").1, .str (Txt.partition l ": ").2.1, .str (Txt.partition l ": ").2.2])) lt (.lst ((Txt.split (Txt.partition l ": ").2.2 ", ").map V.str))) lt = some (.lst ((Txt.split (Txt.partition l ": ").2.2 ", ").map V.str)) := upd_same
      generalize upd (upd H4 p (.tup [.str (Txt.partition l ": ").1, .str (Txt.partition l ": ").2.1, .str (Txt.partition l ": ").2.2])) lt (.lst ((Txt.split (Txt.partition l ": ").2.2 ", ").map V.str)) = H5 at s5 hlt5 hD
      have hk5 := s5 _ _ hk
      have nDp : D ≠ pd := (ne_of_none hk5 hD).symm
      refine lc_it walk_list (fun j H' => Same H5 H' ∧ ∃ zs, H' D = some (.lst zs) ∧ DpAll K (but (but H' D) pd) zs (((Txt.split (Txt.partition l ": ").2.2 ", ").take j).map fun s => strsD (Txt.split s " "))) ⟨same_new hD, [], upd_same, .nil⟩ (fun j H' _ ⟨s, _⟩ => SqL.of (s _ _ hlt5)) ?_ ?_
      · rintro j y H6 H7 hj ⟨s6, zs, hz, dz⟩ ⟨rfl, hy⟩
        rw [List.getElem?_map] at hy
        obtain ⟨w, hw', rfl⟩ := Option.map_eq_some_iff.mp hy
        refine ⟨rfl, tyes ⟨_, rfl, ⟨w, rfl⟩, w, " ", rfl, rfl, by decide +kernel, b2 (tok w (List.mem_of_getElem? hw')).1, fun u hu => ⟨u, _, rfl, .inl ⟨SqL.of upd_same, fun tt htt => ?_⟩⟩⟩⟩
        have s7 := same_new (o := .lst ((Txt.split w " ").map V.str)) hu
        have s8 := same_new (o := .tup ((Txt.split w " ").map V.str)) htt
        have hz8 := s8 _ _ (s7 _ _ hz)
        have nt : tt ≠ D := (ne_of_none (s7 _ _ hz) htt).symm
        have np : tt ≠ pd := (ne_of_none (s7 _ _ (s6 _ _ hk5)) htt).symm
        refine ⟨zs, hz8, ?_, ?_⟩
        · have h2 := dpAll_len dz
          rw [List.length_map, List.length_take] at h2
          rw [h2]
          exact Nat.lt_of_le_of_lt (Nat.le_trans (Nat.min_le_right _ _) tlen) (by decide)
        · refine ⟨fun b u e => ?_, _, upd_same, ?_⟩
          · rw [upd_ne (ne_of_none e hD)]
            exact s8 _ _ (s7 _ _ (s6 _ _ e))
          · rw [List.take_add_one, hw', List.map_append]
            exact dpAll_snoc (dpAll_mono (but_of ((but_of (s7.trans s8)).trans (but_upd _ _ _))) dz) (.tup (SqT.of (by rw [but_ne np, but_ne nt, upd_ne nt]; exact upd_same)) (dpAll_strs _))
      · rintro H6 ⟨s6, zs, hz, dz⟩
        rw [List.length_map, List.take_length] at dz
        have dlen := (dictR_ok _ (lines.take i) rfl fun z hz => lok z (List.mem_of_mem_take hz)).2.2
        refine ⟨_, rfl, _, rfl, pd, _, rfl, .inl ⟨kvs, .inr (Txt.partition l ": ").1, s6 _ _ hk5, rfl, ?_, rfl⟩, _, _, _, _, _, rfl, fun b u e => ?_, _, upd_same, ?_⟩
        · have h2 := en.len
          rw [show (entsP (dictR (lines.take i))).length = (dictR (lines.take i)).length from List.length_map ..] at h2
          have h3 := List.length_take_le' i lines
          rw [h2]
          exact Nat.lt_of_le_of_lt (Nat.le_trans dlen (Nat.le_trans h3 (Nat.le_of_succ_le wlen))) (by decide)
        · rw [upd_ne (ne_of_none e hpd)]
          exact s6 _ _ (s5 _ _ (s3 _ _ e))
        · rw [List.take_add_one, hl, Option.toList_some, dictR_snoc]
          refine ents_put (r := lineP l) (en.mono ((but_of (s5.trans s6)).trans (but_upd _ _ _))) (.lst (SqL.of (by rw [but_ne nDp, upd_ne nDp]; exact hz)) ?_) (prg_shaped (line_good lm))
          show DpAll K _ zs (((Txt.split (Txt.partition l ": ").2.2 ", ").map fun s => Txt.split s " ").map strsD)
          rw [List.map_map]
          exact dpAll_mono ((but_of (but_le H6 D)).trans (but_upd _ _ _)) dz
    · rintro σ H3 ⟨v4, v5, v6, v7, v8, rfl, s3, kvs, hk, en⟩
      rw [List.length_map, List.take_length] at en
      have s03 := s1.trans s3
      obtain ⟨dgood, dnd, _⟩ := dictR_ok _ lines rfl lok
      refine ⟨_, rfl, .str first, some (.str first), rfl, .inl (tOk_vd fok), fun t' ms ps e er H4 a s4 st => ⟨_, rfl, fun x dx hx hdx ne => ?_⟩, fun non => ?_⟩
      · injection e with e
        injection e with e
        subst e
        have sH : Same H4 (upd (upd H4 dx (.own x)) x (.ins T.C_Rulebook dx [])) := fun b u e => by
          rw [upd_ne (ne_of_none e hx), upd_ne (ne_of_none e hdx)]
          exact e
        have sB : Same H4 (but (upd (upd H4 dx (.own x)) x (.ins T.C_Rulebook dx [])) x) := fun b u e => by
          rw [but_ne (ne_of_none e hx)]
          exact sH _ _ e
        have s04 := s03.trans s4
        refine ⟨x, dx, a, pd, kvs, dictR lines, ms, ag ms ps, rfl, upd_same, st.mono sB, sH _ _ (s4 _ _ hk), en.mono ((but_le H3 pd).trans (s4.trans sB)), dgood, dnd, fun bad => ?_, fun ok H5 hk5 rb => ⟨rfl, k2 ms ps (canon (dictR lines)) ?_ H5 x (fun b u e => hk5 b u (sH _ _ (s04 _ _ e)) (ne_of_none (s04 _ _ e) hx)) rb⟩⟩
        · refine Rb3.new (k1 ?_).1 (s04.trans sH) npd
          show ((readT first).bind fun r => if rbOk r.1 (dictR lines) = true then some (r.1, r.2, canon (dictR lines)) else none) = none
          rw [er, Option.bind_some, if_neg (by rw [bad]; decide)]
        · show ((readT first).bind fun r => if rbOk r.1 (dictR lines) = true then some (r.1, r.2, canon (dictR lines)) else none) = _
          rw [er, Option.bind_some, if_pos ok]
      · refine ((k1 ?_).2 _).back s03
        show ((readT first).bind fun r => if rbOk r.1 (dictR lines) = true then some (r.1, r.2, canon (dictR lines)) else none) = none
        rw [non first rfl]
        rfl
theorem ok_read_protocol (T : Txt K mg w) : FnOk P w K mg base (L2.CX P w) 10 T.f_read_protocol T.fd_read_protocol ["text"] (sp_readR K T.C_Strengths T.C_Rulebook T.C_InvalidText) := by
  refine T.F_read_protocol.okX sc_read_protocol (fun vs H Q E h => ?_) (fun cdv A outer s H vs Q E hr h => ?_)
  · obtain ⟨v, o, rfl, _⟩ := h
    rfl
  · obtain ⟨v, o, rfl, hv, k1, k2⟩ := h
    refine ⟨_, (pss_cons (ps_if (pt_not (pt_val (pe_callB (id := "isinstance") call_isi (by rfl) T.z_isinstance (by decide +kernel) (pa_cons (pv 0) (pa_cons (pe_bltn (v := .ty "str") (u := .type "str") (by rfl) T.z_str (by decide +kernel) rfl) pa_nil))))) (pss_one (ps_raise rfl (takes_of rfl rfl rfl rfl) (pmk_oex T.x_InvalidText T.i_InvalidText T.t_InvalidText (ok_InvalidText_init T) (hr.mono (by decide)) T.b_InvalidText_init .nil pass0 rfl T.g_InvalidText (pa_cons (pv 0) pa_nil)))) pss_nil)
        (pss_cons (ps_try_onlyK rfl rfl ⟨rfl, by decide, Or.inl T.g_PartsError⟩ (fun _ => PySem.PassesOwnAt.leaving) (TakesK.of (takes_of rfl rfl rfl rfl)) (fun W pn xe tk _ => by exact (pss_one (ps_set (i := 1) sc_read_protocol.nd rfl (Or.inl rfl) (pe_callS (ok_parsed_protocol T) hr rfl T.m_parsed_protocol T.F_parsed_protocol.kp T.b_parsed_protocol (fun σ => passAtK tk σ) (pa_cons (pv 0) pa_nil)))))
          (fun a cls d pn wt hot => by exact (pss_one (ps_raiseK hot wt (pmk5_oexD T.x_InvalidText T.i_InvalidText T.t_InvalidText (ok_hotD_InvalidText_init T) (L2H.roomH_mark (hr.mono (by decide)) _) hot T.b_InvalidText_init pass0 rfl T.g_InvalidText (pa_cons (pv 0) pa_nil))))))
        (pss_cons (ps_if (pt_cmpR op_ne (pe_callTy (T := "str") (call_strI (ok_Rulebook_str T) (hr.mono (by decide)) T.b_Rulebook_str T.me_Rulebook_str.at_ T.me_Rulebook_str.fn pass0) (by rfl) T.z_str (by decide +kernel) (pa_cons (pv 1) pa_nil)) (pv 0) (nomark _)) (pss_one (ps_raise rfl (takes_of rfl rfl rfl rfl) (pmk_oex T.x_InvalidText T.i_InvalidText T.t_InvalidText (ok_InvalidText_init T) (hr.mono (by decide)) T.b_InvalidText_init .nil pass0 rfl T.g_InvalidText (pa_cons (pv 0) pa_nil)))) pss_nil)
        (pss_one (ps_ret (pv 1)))))), ?_⟩
    have ic := T.ic_Rulebook
    rcases hv with hv | ⟨rfl, a, dx, fs, rfl, ha⟩
    · refine ⟨_, rfl, _, _, _, _, _, rfl, .ty _, hv.ty, kit_o o (.inr (.inr (.inl rfl))), _, rfl, ?_⟩
      cases e : isT "str" o with
      | false => exact iteT ⟨_, rfl, raise_x T.x_InvalidText T.n_InvalidText (k2 fun t z => by rw [z] at e; cases e)⟩
      | true =>
        obtain ⟨t, rfl, rfl, hs, hok⟩ := hv.str_of e
        refine iteF ⟨_, rfl, t, rfl, ⟨hs, hok⟩, fun non => ?_, fun ms ps rows e2 H1 x s1 st => ?_⟩
        · have k3 := k2 fun t' z => by
            injection z with z
            injection z with z
            rw [← z]
            unfold readR
            rw [non]
            rfl
          refine ⟨fun v d H' nd sx => ?_, fun v d H' nd hd sm => ⟨true, T.e_InvalidText_PartsError, fun _ a ha => ⟨_, rfl, raise_x T.x_InvalidText T.n_InvalidText (k3.back sm)⟩, fun z => nomatch z⟩⟩
          have sm : Same H H' := fun b o e => sx b o (List.not_mem_nil) e
          exact ⟨fun _ => ⟨true, T.e_NoProgram_PartsError, fun _ a ha => ⟨_, rfl, raise_x T.x_InvalidText T.n_InvalidText (k3.back sm)⟩, fun z => nomatch z⟩,
            fun _ => ⟨true, T.e_InvalidProgram_PartsError, fun _ a ha => ⟨_, rfl, raise_x T.x_InvalidText T.n_InvalidText (k3.back sm)⟩, fun z => nomatch z⟩,
            fun _ => ⟨true, T.e_UnknownMode_PartsError, fun _ a ha => ⟨_, rfl, raise_x T.x_InvalidText T.n_InvalidText (k3.back sm)⟩, fun z => nomatch z⟩⟩
        · obtain ⟨⟨okm, l1⟩, hrk, hnd⟩ := progR_ok e2
          have hn := okM_names okm
          have l8 := okM_len okm
          obtain ⟨dx, ax, dd, kv, hx, _⟩ := id st
          refine ⟨_, rfl, x, dx, _, rfl, hx, x, ms, _, rows, rfl, st, hn, ⟨l1, l8⟩, (nd_len hnd hrk), hnd, fun r hr => row_short (hrk r hr).1 (hrk r hr).2, fun H2 s2 => ⟨_, rfl, _, rfl, rfl, _, rfl, ?_⟩⟩
          by_cases c : textR ms (prsOf (ag ms ps) ms) rows = t
          · exact iteFe (by rw [c]; simp) ⟨_, rfl, k1 t ms ps rows rfl (by
              unfold readR
              rw [e2]
              exact if_pos c) _ x (s1.trans s2) (st.mono s2)⟩
          · have k3 := k2 fun t' z => by
              injection z with z
              injection z with z
              rw [← z]
              unfold readR
              rw [e2]
              exact if_neg c
            exact iteTe (by rw [decide_eq_false fun z => c (by injection z)]; rfl) ⟨_, rfl, raise_x T.x_InvalidText T.n_InvalidText (k3.back (s1.trans s2))⟩
    · exact ⟨_, rfl, _, _, _, _, _, rfl, .ty _, .base (.ins ha ic.cl ic.ha ic.hn ic.htk ic.hm), T.io_own_Rulebook_str, _, rfl, iteT ⟨_, rfl, raise_x T.x_InvalidText T.n_InvalidText (k2 fun t z => nomatch z)⟩⟩
theorem ok_law_count (T : Txt K mg w) : FnOk P w K mg base CX0 1 T.f_law_count T.fd_law_count ["_law_words", "_law_some"] (sp_count K) := by
  refine T.F_law_count.ok sc_law_count (fun vs H Q E h => ?_) (fun cdv A outer s H vs Q E hr h => ?_)
  · obtain ⟨l, m, ws, g, rfl, _⟩ := h
    rfl
  · obtain ⟨l, m, ws, g, rfl, hl, hm, h12, k⟩ := h
    refine ⟨_, (pss_one (ps_ret (pe_callB (id := "len") call_len_seq (by rfl) T.z_len (by decide +kernel) (pa_cons (pe_lc (own := [("_law_word", 2)]) (g := gName 2) rfl sc_law_count.nd (pi_list (pv 0)) (blkOk_by (own := [("_law_word", 2)]) (N := ["_law_words", "_law_some", "_law_word"]) (sc := defScope s_law_count) (by decide +kernel)) (fun _ _ _ _ _ => (pg_name (i := 2) sc_law_count.nd rfl (Or.inl rfl))) (fun _ _ _ _ _ => (pts_one (pt_cmpR (r := rIn K false) op_in_seq (pv 2) (pv 1) (by rfl)))) (fun _ _ _ _ _ => (pv 2))) pa_nil)))), ?_⟩
    refine ⟨_, rfl, l, rfl, ⟨_, SqL.of hl⟩, fun D2 hD2 => ?_⟩
    refine lc_acc walk_list hD2 (fun H' s' => SqL.of (s' _ _ hl)) (fun j => ((ws.take j).filter fun w => decide (w ∈ g)).map V.str) rfl (fun j hj => ?_) ?_ ?_
    · rw [List.length_map]
      refine Nat.lt_of_le_of_lt (List.length_filter_le _ _) ?_
      rw [List.length_take]
      exact Nat.lt_of_le_of_lt (Nat.le_trans (Nat.min_le_right _ _) h12) (by decide)
    · rintro j y H3 hj hy s2 R2 S2 q1 q2
      rw [List.getElem?_map] at hy
      obtain ⟨w0, hw0, rfl⟩ := Option.map_eq_some_iff.mp hy
      refine ⟨rfl, _, rfl, _, rfl, m, _, rfl, .inl (SqL.of (s2 _ _ hm)), rfl, flat_strs g, _, rfl, ?_⟩
      rw [in_strs]
      cases eq : decide (w0 ∈ g) with
      | false => exact iteFe rfl (q2 _ (by rw [List.take_add_one, hw0]; simp [eq]) (Same.refl _))
      | true => exact iteTe rfl ⟨_, rfl, q1 _ _ (by rw [List.take_add_one, hw0]; simp [eq]) (Same.refl _)⟩
    · intro H3 s2 hl3
      have hl3 : H3 D2 = some (.lst (((ws.take (ws.map V.str).length).filter fun w => decide (w ∈ g)).map V.str)) := hl3
      rw [List.length_map, List.take_length] at hl3
      refine ⟨D2, _, rfl, .inl (SqL.of hl3), ?_⟩
      rw [List.length_map]
      exact k _ s2
theorem ok_law_order (T : Txt K mg w) : FnOk P w K mg base CX0 1 T.f_law_order T.fd_law_order ["_law_words", "_law_first", "_law_later"] (sp_order K) := by
  refine T.F_law_order.ok sc_law_order (fun vs H Q E h => ?_) (fun cdv A outer s H vs Q E hr h => ?_)
  · obtain ⟨l, e, f, ws, E', L', rfl, _⟩ := h
    rfl
  · obtain ⟨l, e, f, ws, E', L', rfl, hl, he, hf, h12, k⟩ := h
    refine ⟨_, (pss_cons (ps_set (i := 3) sc_law_order.nd rfl (Or.inr rfl) (pe_lc (own := [("_law_at", 4)]) (g := gName 4) rfl sc_law_order.nd (pi_range1 rfl T.z_range (pa_cons (pe_callB (id := "len") call_len_seq (by rfl) T.z_len (by decide +kernel) (pa_cons (pv 0) pa_nil)) pa_nil)) (blkOk_by (own := [("_law_at", 4)]) (N := ["_law_words", "_law_first", "_law_later", "_law_ends", "_law_at"]) (sc := defScope s_law_order) (by decide +kernel)) (fun _ _ _ _ _ => (pg_name (i := 4) sc_law_order.nd rfl (Or.inl rfl))) (fun _ _ _ _ _ => (pts_one (pt_cmpR (r := rIn K false) op_in_seq (pe_ix (r := rIxL K) ix_list (pv 0) (pv 4) (fun _ _ => rfl)) (pv 1) (by rfl)))) (fun _ _ _ _ _ => (pv 4))))
        (pss_one (ps_ret (pe_cmpR (op_eqD hr.units) (pe_lc (own := [("_law_at", 4)]) (g := gName 4) rfl sc_law_order.nd (pi_range1 rfl T.z_range (pa_cons (pe_callB (id := "len") call_len_seq (by rfl) T.z_len (by decide +kernel) (pa_cons (pv 0) pa_nil)) pa_nil)) (blkOk_by (own := [("_law_at", 4)]) (N := ["_law_words", "_law_first", "_law_later", "_law_ends", "_law_at"]) (sc := defScope s_law_order) (by decide +kernel)) (fun _ _ _ _ _ => (pg_name (i := 4) sc_law_order.nd rfl (Or.inl rfl))) (fun _ _ _ _ _ => (pts_one (PW.pt (pw_and (pt_cmpR (r := rIn K false) op_in_seq (pe_ix (r := rIxL K) ix_list (pv 0) (pv 4) (fun _ _ => rfl)) (pv 2) (by rfl)) (pw_and (pt_cmpR (r := rNeD K) (op_neD hr.units) (pv 3) (pe_lst pa_nil) (nomark _)) (pw_and1 (pt_cmpR op_lt (pv 4) (pe_callB (id := "max") (r := rMax K) (cr_max rfl) (by rfl) T.z_max (by decide +kernel) (pa_cons (pv 3) pa_nil)) (nomark _)))))))) (fun _ _ _ _ _ => (pv 4))) (pe_lst pa_nil) (nomark _))))), ?_⟩
    have at0 : ∀ {i : Nat} {w0 : Str}, ws[i]? = some w0 → atI (ws.map V.str) (0 + (i : Int)) = some (.str w0) := fun {i w0} h => by
      rw [Int.zero_add]
      exact atI_nat (by rw [List.getElem?_map, h]; rfl)
    refine ⟨_, rfl, l, _, rfl, .inl (SqL.of hl), ((ws.map V.str).length : Nat), rfl, by omega, by rw [List.length_map]; omega, fun D hD => ?_⟩
    have en : (((ws.map V.str).length : Nat) : Int).toNat = ws.length := by rw [List.length_map]; omega
    refine lc_acc (n := (((ws.map V.str).length : Nat) : Int).toNat) (item := fun i x => x = V.int (0 + (i : Int))) walk_range hD (fun _ _ => trivial) (fun i => ((poss (fun w => decide (w ∈ E')) ws i).map Int.ofNat).map V.int) rfl (fun i hi => ?_) ?_ ?_
    · rw [List.length_map, List.length_map]
      rw [en] at hi
      have := poss_len (fun w => decide (w ∈ E')) ws i
      exact Nat.lt_of_le_of_lt this (Nat.lt_of_lt_of_le (show i < 100 by omega) (by decide))
    · rintro i x H2 hi rfl s1 R S r1 r2
      rw [en] at hi
      obtain ⟨w0, hw0⟩ : ∃ w0, ws[i]? = some w0 := ⟨_, List.getElem?_eq_getElem hi⟩
      have hp : pAt (fun w => decide (w ∈ E')) ws i = decide (w0 ∈ E') := by
        unfold pAt
        rw [hw0]
      have step := poss_step (fun w => decide (w ∈ E')) ws i
      rw [hp] at step
      refine ⟨rfl, _, rfl, _, rfl, l, _, _, _, rfl, rfl, SqL.of (s1 _ _ hl), at0 hw0, _, rfl, e, _, rfl, .inl (SqL.of (s1 _ _ he)), rfl, flat_strs _, _, rfl, ?_⟩
      rw [in_strs]
      cases eq : decide (w0 ∈ E') with
      | false =>
        rw [eq, if_neg (by decide)] at step
        exact iteFe rfl (r2 _ (by rw [step]) (Same.refl _))
      | true =>
        rw [eq, if_pos rfl] at step
        refine iteTe rfl ⟨_, rfl, r1 _ _ ?_ (Same.refl _)⟩
        rw [step, List.map_append, List.map_append, Int.zero_add]
        rfl
    intro H2 s1 hl2
    have hl2 : H2 D = some (.lst (((poss (fun w => decide (w ∈ E')) ws (((ws.map V.str).length : Nat) : Int).toNat).map Int.ofNat).map V.int)) := hl2
    rw [en] at hl2
    have hl := s1 _ _ hl
    have hf := s1 _ _ hf
    generalize hE : poss (fun w => decide (w ∈ E')) ws ws.length = pe at hl2
    let c : Nat → Bool := fun j => pAt (fun w => decide (w ∈ L')) ws j && decide (∃ i ∈ pe, j < i)
    refine ⟨_, rfl, l, _, rfl, .inl (SqL.of hl), ((ws.map V.str).length : Nat), rfl, by omega, by rw [List.length_map]; omega, fun D2 hD2 => ?_⟩
    refine lc_acc (n := (((ws.map V.str).length : Nat) : Int).toNat) (item := fun i x => x = V.int (0 + (i : Int))) walk_range hD2 (fun _ _ => trivial) (fun i => (((List.range i).filter c).map Int.ofNat).map V.int) rfl (fun i hi => ?_) ?_ ?_
    · rw [List.length_map, List.length_map]
      rw [en] at hi
      have := List.length_filter_le c (List.range i)
      rw [List.length_range] at this
      exact Nat.lt_of_le_of_lt this (Nat.lt_of_lt_of_le (show i < 100 by omega) (by decide))
    · rintro i x H3 hi rfl s2 R S r1 r2
      rw [en] at hi
      obtain ⟨w0, hw0⟩ : ∃ w0, ws[i]? = some w0 := ⟨_, List.getElem?_eq_getElem hi⟩
      have hp : pAt (fun w => decide (w ∈ L')) ws i = decide (w0 ∈ L') := by
        unfold pAt
        rw [hw0]
      have step : (List.range (i + 1)).filter c = if c i = true then (List.range i).filter c ++ [i] else (List.range i).filter c := by
        rw [List.range_succ, List.filter_append]
        cases h : c i with
        | true => simp [h]
        | false => simp [h]
      have hc : c i = (decide (w0 ∈ L') && decide (∃ j ∈ pe, i < j)) := by
        show (pAt (fun w => decide (w ∈ L')) ws i && _) = _
        rw [hp]
      rw [hc] at step
      refine ⟨rfl, _, rfl, _, rfl, l, _, _, _, rfl, rfl, SqL.of (s2 _ _ hl), at0 hw0, _, rfl, f, _, rfl, .inl (SqL.of (s2 _ _ hf)), rfl, flat_strs _, _, rfl, ?_⟩
      rw [in_strs]
      cases eq : decide (w0 ∈ L') with
      | false =>
        rw [eq, Bool.false_and, if_neg (by decide)] at step
        exact iteFe rfl (iteF (r2 _ (by rw [step]) (Same.refl _)))
      | true =>
        rw [eq, Bool.true_and] at step
        refine iteTe rfl ⟨_, rfl, Nat.zero_le _, fun q hq => ?_⟩
        have s3 := same_new (o := .lst []) hq
        have hl3 := s3 _ _ (s2 _ _ hl2)
        refine ⟨_, _, .lst (SqL.of hl3) (dpAll_ints _), .lst (SqL.of upd_same) .nil, ints_shaped _, shaped_nil, _, rfl, ?_⟩
        rw [eqv_nil]
        cases pe with
        | nil =>
          rw [if_neg (by simp)] at step
          exact iteFe rfl (iteF (r2 _ (by rw [step]) s3))
        | cons p0 pr =>
          refine iteTe rfl ⟨_, rfl, _, rfl, D, _, rfl, SqL.of hl3, by simp, fun m hm hmax => ⟨_, _, rfl, rfl, _, rfl, ?_⟩⟩
          have hc2 : decide ((0 : Int) + (i : Int) < m) = decide (∃ j ∈ p0 :: pr, i < j) := by
            rw [Bool.eq_iff_iff, decide_eq_true_iff, decide_eq_true_iff]
            obtain ⟨a, ha, rfl⟩ := List.mem_map.mp hm
            constructor
            · intro h
              refine ⟨a, ha, ?_⟩
              have h' : (0 : Int) + (i : Int) < (a : Int) := h
              omega
            · rintro ⟨j, hj, h⟩
              have := hmax (Int.ofNat j) (List.mem_map.mpr ⟨j, hj, rfl⟩)
              have h' : (j : Int) ≤ (a : Int) := this
              show (0 : Int) + (i : Int) < (a : Int)
              omega
          rw [hc2]
          cases e5 : decide (∃ j ∈ p0 :: pr, i < j) with
          | false =>
            rw [e5, if_neg (by decide)] at step
            exact iteF (r2 _ (by rw [step]) s3)
          | true =>
            rw [e5, if_pos rfl] at step
            refine iteT ⟨_, rfl, r1 _ _ ?_ s3⟩
            rw [step, List.map_append, List.map_append, Int.zero_add]
            rfl
    · intro H3 s2 hl3
      have hl3 : H3 D2 = some (.lst ((((List.range (((ws.map V.str).length : Nat) : Int).toNat).filter c).map Int.ofNat).map V.int)) := hl3
      rw [en] at hl3
      refine ⟨Nat.zero_le _, fun q hq => ?_⟩
      have s3 := same_new (o := .lst []) hq
      refine ⟨_, _, .lst (SqL.of (s3 _ _ hl3)) (dpAll_ints _), .lst (SqL.of upd_same) .nil, ints_shaped _, shaped_nil, ?_⟩
      rw [eqv_nil]
      have eb : ((((List.range ws.length).filter c).map Int.ofNat).map PyData.int).isEmpty = befL ws E' L' := by
        rw [List.isEmpty_map, List.isEmpty_map]
        unfold befL
        rw [hE, Bool.eq_iff_iff, List.isEmpty_iff, List.filter_eq_nil_iff, decide_eq_true_iff]
        constructor
        · intro h i hi j hj
          have hj' : j ∈ List.range ws.length ∧ pAt (fun w => decide (w ∈ L')) ws j = true := List.mem_filter.mp hj
          have := h j hj'.1
          have h2 : ¬ (pAt (fun w => decide (w ∈ L')) ws j && decide (∃ i ∈ pe, j < i)) = true := this
          rw [hj'.2, Bool.true_and, decide_eq_true_iff] at h2
          exact Nat.le_of_not_lt fun q => h2 ⟨i, hi, q⟩
        · intro h j hj hc
          have hc : (pAt (fun w => decide (w ∈ L')) ws j && decide (∃ i ∈ pe, j < i)) = true := hc
          rw [Bool.and_eq_true, decide_eq_true_iff] at hc
          obtain ⟨h1, i, hi, hlt⟩ := hc
          have := h i hi j (List.mem_filter.mpr ⟨hj, h1⟩)
          omega
      rw [eb]
      exact k _ (s1.trans (s2.trans s3))
theorem ok_law_is_program (T : Txt K mg w) : FnOk P w K mg base CX0 3 T.f_law_is_program T.fd_law_is_program ["_law_value", "_law_kind"] (sp_law_is_program K) := by
  refine T.F_law_is_program.ok sc_law_is_program (fun vs H Q E h => ?_) (fun cdv A outer s H vs Q E hr h => ?_)
  · obtain ⟨v, o, kd, rfl, _⟩ := h
    rfl
  · obtain ⟨v, o, kd, rfl, hv, hok, hk, k⟩ := h
    refine ⟨_, (pss_cons (ps_if (PW.pt (pw_or (pt_not (pt_val (pe_callB (id := "isinstance") call_isi (by rfl) T.z_isinstance (by decide +kernel) (pa_cons (pv 0) (pa_cons (pe_bltn (v := .ty "list") (u := .type "list") (by rfl) T.z_list (by decide +kernel) rfl) pa_nil))))) (pw_or (pt_cmpR op_lt (pe_callB (id := "len") call_len_seq (by rfl) T.z_len (by decide +kernel) (pa_cons (pv 0) pa_nil)) pe_int (nomark _)) (pw_or1 (pt_cmpR op_gt (pe_callB (id := "len") call_len_seq (by rfl) T.z_len (by decide +kernel) (pa_cons (pv 0) pa_nil)) pe_int (nomark _)))))) (pss_one (ps_ret pe_bl)) pss_nil)
        (pss_cons (ps_if (pt_cmpR (op_neD hr.units) (pe_lc (own := [("_law_step", 6)]) (g := gName 6) rfl sc_law_is_program.nd (pi_list (pv 0)) (blkOk_by (own := [("_law_step", 6)]) (N := ["_law_value", "_law_kind", "_law_words", "_law_last", "_law_deeds", "_law_scans", "_law_step", "_law_at"]) (sc := defScope s_law_is_program) (by decide +kernel)) (fun _ _ _ _ _ => (pg_name (i := 6) sc_law_is_program.nd rfl (Or.inl rfl))) (fun _ _ _ _ _ => (pts_one (pt_not (pt_val (pe_call (ok_law_is_step T) hr rfl T.m_law_is_step T.F_law_is_step.kp T.b_law_is_step .nil pass0 (pa_cons (pv 6) (pa_cons (pv 1) pa_nil))))))) (fun _ _ _ _ _ => (pv 6))) (pe_lst pa_nil) (nomark _)) (pss_one (ps_ret pe_bl)) pss_nil)
        (pss_cons (ps_setLc (i := 2) (own := [("_law_step", 6)]) (g := gName 6) (tt := tYes) rfl sc_law_is_program.nd rfl rfl (sw_true rfl rfl rfl (by decide +kernel)) (pi_list (pv 0)) (blkOk_by (own := [("_law_step", 6)]) (N := ["_law_value", "_law_kind", "_law_words", "_law_last", "_law_deeds", "_law_scans", "_law_step", "_law_at"]) (sc := defScope s_law_is_program) (by decide +kernel)) (fun _ _ _ _ _ => (pg_name (i := 6) sc_law_is_program.nd rfl (Or.inl rfl))) (fun _ _ _ _ _ => pts_nil) (fun _ _ _ _ _ => (pe_ifExp (pt_cmpR (r := rEqD K) (op_eqD hr.units) (pe_slice (r := rSlA K) sl_tupA (pv 6) po_none (po_some pe_int)) (pe_tup (pa_cons pe_str (pa_cons pe_str pa_nil))) (nomark _)) pe_str (pe_ix (r := rIxT K) ix_tup (pv 6) pe_int (fun _ _ => rfl)))))
        (C8.pss_cut (ps_set (i := 3) sc_law_is_program.nd rfl (Or.inl rfl) (pe_ifExp (pt_cmpR op_in_seq (pv 1) (pe_slice sl_list (pe_call0 (ok_law_kinds T) (hr.mono (by decide)) rfl T.m_law_kinds T.F_law_kinds.kp T.b_law_kinds .nil pass0) po_none (po_some pe_int)) (by rfl)) (pe_lst (pa_cons pe_str pa_nil)) (pe_lst (pa_cons pe_str (pa_cons pe_str pa_nil)))))
        (pss_cons (ps_if (PW.pt (pw_or (pt_cmpR op_notIn_seq (pe_ix ix_list (pv 2) (pe_un un_neg pe_int) (fun _ _ => rfl)) (pv 3) (by rfl)) (pw_or1 (pt_cmpR op_gt (pe_call (ok_law_count T) (hr.mono (by decide)) rfl T.m_law_count T.F_law_count.kp T.b_law_count .nil pass0 (pa_cons (pe_slice sl_list (pv 2) po_none (po_some (pe_un un_neg pe_int))) (pa_cons (pe_lst (pa_cons pe_str (pa_cons pe_str pa_nil))) pa_nil))) pe_int (nomark _))))) (pss_one (ps_ret pe_bl)) pss_nil)
        (pss_cons (ps_set (i := 4) sc_law_is_program.nd rfl (Or.inl rfl) (pe_lst (pa_cons pe_str (pa_cons pe_str (pa_cons pe_str (pa_cons pe_str pa_nil))))))
        (pss_cons (ps_if (pt_cmpR op_in_seq (pv 1) (pe_slice sl_list (pe_call0 (ok_law_kinds T) (hr.mono (by decide)) rfl T.m_law_kinds T.F_law_kinds.kp T.b_law_kinds .nil pass0) po_none (po_some pe_int)) (by rfl)) (pss_cons (ps_if (PW.pt (pw_or (pt_cmpR op_ne (pe_call (ok_law_count T) (hr.mono (by decide)) rfl T.m_law_count T.F_law_count.kp T.b_law_count .nil pass0 (pa_cons (pv 2) (pa_cons (pv 4) pa_nil))) pe_int (nomark _)) (pw_or (pt_cmpR op_gt (pe_call (ok_law_count T) (hr.mono (by decide)) rfl T.m_law_count T.F_law_count.kp T.b_law_count .nil pass0 (pa_cons (pv 2) (pa_cons (pe_lst (pa_cons pe_str pa_nil)) pa_nil))) pe_int (nomark _)) (pw_or1 (pt_cmpR op_gt (pe_call (ok_law_count T) (hr.mono (by decide)) rfl T.m_law_count T.F_law_count.kp T.b_law_count .nil pass0 (pa_cons (pv 2) (pa_cons (pe_lst (pa_cons pe_str pa_nil)) pa_nil))) pe_int (nomark _)))))) (pss_one (ps_ret pe_bl)) pss_nil)
        (pss_cons (ps_if (pt_not (pt_val (pe_call (ok_law_order T) (hr.mono (by decide)) rfl T.m_law_order T.F_law_order.kp T.b_law_order .nil pass0 (pa_cons (pv 2) (pa_cons (pe_lst (pa_cons pe_str (pa_cons pe_str (pa_cons pe_str (pa_cons pe_str pa_nil))))) (pa_cons (pv 4) pa_nil)))))) (pss_one (ps_ret pe_bl)) pss_nil)
        (pss_cons (ps_if (pt_cmpR op_eq (pv 1) pe_str (nomark _)) (pss_one (ps_ret pe_bl)) pss_nil)
        (pss_cons (ps_if (PW.pt (pw_or (pt_cmpR op_ne (pe_call (ok_law_count T) (hr.mono (by decide)) rfl T.m_law_count T.F_law_count.kp T.b_law_count .nil pass0 (pa_cons (pv 2) (pa_cons (pe_lst (pa_cons pe_str pa_nil)) pa_nil))) pe_int (nomark _)) (pw_or1 (PW.pt (pw_and (pt_cmpR op_eq (pv 1) pe_str (nomark _)) (pw_and1 (pt_cmpR op_ne (pe_call (ok_law_count T) (hr.mono (by decide)) rfl T.m_law_count T.F_law_count.kp T.b_law_count .nil pass0 (pa_cons (pv 2) (pa_cons (pe_lst (pa_cons pe_str pa_nil)) pa_nil))) pe_int (nomark _)))))))) (pss_one (ps_ret pe_bl)) pss_nil)
        (pss_one (ps_ret (pe_call (ok_law_order T) (hr.mono (by decide)) rfl T.m_law_order T.F_law_order.kp T.b_law_order .nil pass0 (pa_cons (pv 2) (pa_cons (pe_lst (pa_cons pe_str pa_nil)) (pa_cons (pe_op op_cat (pe_lst (pa_cons pe_str (pa_cons pe_str (pa_cons pe_str pa_nil)))) (pv 4)) pa_nil)))))))))) pss_nil)
        (pss_cons (ps_if (PW.pt (pw_or (pt_cmpR op_ne (pe_call (ok_law_count T) (hr.mono (by decide)) rfl T.m_law_count T.F_law_count.kp T.b_law_count .nil pass0 (pa_cons (pv 2) (pa_cons (pe_lst (pa_cons pe_str (pa_cons pe_str pa_nil))) pa_nil))) pe_int (nomark _)) (pw_or1 (pt_not (pt_val (pe_call (ok_law_order T) (hr.mono (by decide)) rfl T.m_law_order T.F_law_order.kp T.b_law_order .nil pass0 (pa_cons (pv 2) (pa_cons (pe_lst (pa_cons pe_str (pa_cons pe_str pa_nil))) (pa_cons (pe_lst (pa_cons pe_str (pa_cons pe_str pa_nil))) pa_nil))))))))) (pss_one (ps_ret pe_bl)) pss_nil)
        (C8.pss_cut (ps_if (PW.pt (pw_or (pt_not (pt_val (pe_call (ok_law_order T) (hr.mono (by decide)) rfl T.m_law_order T.F_law_order.kp T.b_law_order .nil pass0 (pa_cons (pv 2) (pa_cons (pe_lst (pa_cons pe_str (pa_cons pe_str pa_nil))) (pa_cons (pe_lst (pa_cons pe_str pa_nil)) pa_nil)))))) (pw_or1 (PW.pt (pw_and (pt_cmpR op_in_seq pe_str (pv 2) (by rfl)) (pw_and1 (pt_cmpR op_in_seq pe_str (pv 2) (by rfl)))))))) (pss_one (ps_ret pe_bl)) pss_nil)
        (C8.pss_cut (ps_if (PW.pt (pw_and (pt_cmpR op_in_seq (pv 1) (pe_lst (pa_cons pe_str (pa_cons pe_str pa_nil))) (by rfl)) (pw_and1 (pt_cmpR op_ne (pe_call (ok_law_count T) (hr.mono (by decide)) rfl T.m_law_count T.F_law_count.kp T.b_law_count .nil pass0 (pa_cons (pv 2) (pa_cons (pe_lst (pa_cons pe_str pa_nil)) pa_nil))) pe_int (nomark _))))) (pss_one (ps_ret pe_bl)) pss_nil)
        (pss_cons (ps_set (i := 5) sc_law_is_program.nd rfl (Or.inr rfl) (pe_lc (own := [("_law_step", 6)]) (g := gName 6) rfl sc_law_is_program.nd (pi_list (pv 0)) (blkOk_by (own := [("_law_step", 6)]) (N := ["_law_value", "_law_kind", "_law_words", "_law_last", "_law_deeds", "_law_scans", "_law_step", "_law_at"]) (sc := defScope s_law_is_program) (by decide +kernel)) (fun _ _ _ _ _ => (pg_name (i := 6) sc_law_is_program.nd rfl (Or.inl rfl))) (fun _ _ _ _ _ => (pts_one (pt_cmpR op_eq (pe_ix (r := rIxT K) ix_tup (pv 6) pe_int (fun _ _ => rfl)) pe_str (nomark _)))) (fun _ _ _ _ _ => (pv 6))))
        (pss_one (ps_ret (pe_cmpR (op_eqD hr.units) (pe_lc (own := [("_law_at", 7)]) (g := gName 7) rfl sc_law_is_program.nd (pi_range1 rfl T.z_range (pa_cons (pe_callB (id := "len") call_len_seq (by rfl) T.z_len (by decide +kernel) (pa_cons (pv 5) pa_nil)) pa_nil)) (blkOk_by (own := [("_law_at", 7)]) (N := ["_law_value", "_law_kind", "_law_words", "_law_last", "_law_deeds", "_law_scans", "_law_step", "_law_at"]) (sc := defScope s_law_is_program) (by decide +kernel)) (fun _ _ _ _ _ => (pg_name (i := 7) sc_law_is_program.nd rfl (Or.inl rfl))) (fun _ _ _ _ _ => (pts_one (pt_cmpR (r := rInD K) (op_inD (u65 hr)) (pe_ix (r := rIxL K) ix_list (pv 5) (pv 7) (fun _ _ => rfl)) (pe_slice (r := rSlL K) sl_list (pv 5) po_none (po_some (pv 7))) (by rfl)))) (fun _ _ _ _ _ => (pv 7))) (pe_lst pa_nil) (nomark _))))))))))))))), ?_⟩
    have ty := hv.ty
    refine ⟨_, rfl, _, _, _, _, _, rfl, .ty _, ty, kit_oL o, _, rfl, ?_⟩
    cases e : isT "list" o with
    | false =>
      rw [progO_ty e] at k
      exact iteT (iteT (k H (Same.refl H)))
    | true =>
    obtain ⟨a, xs, ds, rfl, rfl, hL, hD, hsh⟩ := hv.lst_of e
    have hlen := dpAll_len hD
    have hb := hok _ rfl
    have k : ∀ H', Same H H' → Q (.bl (progD kd ds)) H' := k
    refine iteF ⟨_, rfl, _, _, rfl, .inl hL, _, _, rfl, rfl, _, rfl, ?_⟩
    by_cases c1 : 1 ≤ ds.length
    rotate_left
    · have k : ∀ H', Same H H' → Q (.bl false) H' := fun H' s' => by
        have := k H' s'
        unfold progD at this
        rw [decide_eq_false (fun q => c1 q.1)] at this
        exact this
      exact iteTe (decide_eq_true (by rw [hlen]; omega)) (iteT (k H (Same.refl H)))
    refine iteFe (decide_eq_false (by rw [hlen]; omega)) ⟨_, rfl, _, _, rfl, .inl hL, _, _, rfl, rfl, _, rfl, ?_⟩
    by_cases c2 : ds.length ≤ 12
    rotate_left
    · have k : ∀ H', Same H H' → Q (.bl false) H' := fun H' s' => by
        have := k H' s'
        unfold progD at this
        rw [decide_eq_false (fun q => c2 q.2)] at this
        exact this
      exact iteTe (decide_eq_true (by rw [hlen]; omega)) (k H (Same.refl H))
    refine iteFe (decide_eq_false (by rw [hlen]; omega)) ?_
    have k : ∀ H', Same H H' → Q (.bl ((ds.all fun d => stepO kd (some d)) && wordsB kd (ds.map wD))) H' := fun H' s' => by
      have := k H' s'
      unfold progD at this
      rw [decide_eq_true (⟨c1, c2⟩ : 1 ≤ ds.length ∧ ds.length ≤ 12)] at this
      exact this
    refine ⟨_, rfl, a, rfl, ⟨_, hL⟩, fun D hD1 => ?_⟩
    refine lc_acc walk_list hD1 (fun H' s' => s'.seq hL) (fun i => filtG (fun d => !stepO kd (some d)) (xs.take i) (ds.take i)) rfl (fun i hi => Nat.lt_of_le_of_lt (filtG_len _ _ _) ?_) ?_ ?_
    · rw [List.length_take]
      exact Nat.lt_of_le_of_lt (Nat.le_trans (Nat.min_le_right _ _) (by rw [hlen]; exact c2)) (by decide)
    · rintro i x H2 hi hx s1 R S r1 r2
      obtain ⟨dx, hdx, vx⟩ := dpAll_get hD hx
      have hm := List.mem_of_getElem? hdx
      have step := filtG_step (f := fun d => !stepO kd (some d)) hx hdx
      refine ⟨rfl, _, rfl, _, rfl, x, some dx, kd, rfl, .dat (dp_mono s1 vx) (shaped_item (shaped_of_list hsh hm)) (hb.2 _ hm).2, (hb.2 _ hm).1, hk, fun H3 s3 => ⟨_, rfl, ?_⟩⟩
      cases q : stepO kd (some dx) with
      | true =>
        rw [q, if_neg (by decide)] at step
        exact iteF (r2 _ step s3)
      | false =>
        rw [q, if_pos (by decide)] at step
        exact iteT ⟨_, rfl, r1 _ _ step s3⟩
    intro H2 s1 hl2
    have hl2 : H2 D = some (.lst (filtG (fun d => !stepO kd (some d)) (xs.take xs.length) (ds.take xs.length))) := hl2
    rw [List.take_length, hlen, List.take_length] at hl2
    refine ⟨Nat.zero_le _, fun q hq => ?_⟩
    have s2 := same_new (o := .lst []) hq
    have sC := s1.trans s2
    refine ⟨_, _, .lst (SqL.of (s2 _ _ hl2)) (filtG_dp (dpAll_mono sC hD)), .lst (SqL.of upd_same) .nil, shaped_list (n := 63) (by decide) (fun d hd => shaped_of_list hsh (List.mem_filter.mp hd).1), shaped_nil, _, rfl, ?_⟩
    rw [eqv_nil]
    cases e1 : ds.all fun d => stepO kd (some d) with
    | false =>
      rw [e1] at k
      have ne : (ds.filter fun d => !stepO kd (some d)).isEmpty = false := by
        rw [Bool.eq_false_iff]
        intro h
        rw [List.isEmpty_iff, List.filter_eq_nil_iff] at h
        have : (ds.all fun d => stepO kd (some d)) = true := List.all_eq_true.mpr fun d hd => by simpa using h d hd
        rw [this] at e1
        cases e1
      rw [ne]
      exact iteT (k _ sC)
    | true =>
    rw [e1] at k
    have em : (ds.filter fun d => !stepO kd (some d)).isEmpty = true := by
      rw [List.isEmpty_iff, List.filter_eq_nil_iff]
      intro d hd
      simpa using List.all_eq_true.mp e1 d hd
    rw [em]
    refine iteF ?_
    obtain ⟨sss, rfl, hval⟩ := valid_strs fun d hd => List.all_eq_true.mp e1 d hd
    rw [List.length_map] at c1 c2 hlen
    have h0 : sss ≠ [] := fun e => by rw [e] at c1; cases c1
    have ew : (sss.map strsD).map wD = sss.map fun ss => w1 (ss.take 2) := by
      rw [List.map_map]
      exact List.map_congr_left fun ss _ => wD_strs ss
    rw [ew, words_law hk hval h0] at k
    have k : ∀ H', Same (upd H2 q (.lst [])) H' → Q (.bl (lawE kd sss)) H' := fun H' s' => k H' (sC.trans s')
    have hL := sC.seq hL
    have hD := dpAll_mono sC hD
    clear hv ty em ew e1 e hl2 hD1 s1 s2 hok
    generalize upd H2 q (.lst []) = G at k hL hD ⊢
    -- words
    refine ⟨_, rfl, a, rfl, ⟨_, hL⟩, fun D2 hD2 => ?_⟩
    refine lc_acc walk_list hD2 (fun H' s' => s'.seq hL) (fun i => (sss.take i).map fun ss => V.str (w2 (ss.take 2))) rfl (fun i hi => ?_) ?_ ?_
    · rw [List.length_map, List.length_take]
      exact Nat.lt_of_le_of_lt (Nat.le_trans (Nat.min_le_right _ _) c2) (by decide)
    · rintro i x H3 hi hx s2 R S r1 r2
      obtain ⟨dx, hdx, vx⟩ := dpAll_get hD hx
      rw [List.getElem?_map] at hdx
      obtain ⟨ss, hss, rfl⟩ := Option.map_eq_some_iff.mp hdx
      have hms := List.mem_of_getElem? hss
      obtain ⟨b, rfl, hb'⟩ := dp_strsT (dp_mono s2 vx)
      have hm : strsD ss ∈ sss.map strsD := List.mem_map.mpr ⟨ss, hms, rfl⟩
      have hne := step_ne hk (hval ss hms)
      have hsp := shaped_of_list hsh hm
      have sht : SeqAt.shaped (strsD (ss.take 2)) = true := strsD_shaped fun s hs => shaped_item (shaped_of_tuple (shaped_item hsp) (List.mem_map.mpr ⟨s, List.mem_of_mem_take hs, rfl⟩))
      have nx : (sss.take (i + 1)).map (fun ss => V.str (w2 (ss.take 2))) = ((sss.take i).map fun ss => V.str (w2 (ss.take 2))) ++ [V.str (w2 (ss.take 2))] := by
        rw [List.take_add_one, hss]
        show List.map _ (_ ++ [ss]) = _
        rw [List.map_append]
        rfl
      have hd0 : atI (ss.map V.str) 0 = some (.str ((ss.take 2).headD "")) := by
        cases ss with
        | nil => exact absurd rfl hne
        | cons w r => exact atI_nat (j := 0) rfl
      have lp : (["lock", "part"] : List Str).map V.str = [.str "lock", .str "part"] := rfl
      refine ⟨rfl, tyes ⟨_, rfl, 2, rfl, b, _, rfl, hb', fun wh => ?_, fun nw p hp => ?_⟩⟩
      · have e2 := whole2 wh.2
        refine ⟨(by show 2 ≤ sizeLine; decide), fun t ht => ?_⟩
        have s3 := same_new (o := .tup [.str "lock", .str "part"]) ht
        refine ⟨strsD (ss.take 2), strsD ["lock", "part"], .tup (by rw [e2]; exact same_t s3 hb') (dpAll_strs _), .tup (SqT.of upd_same) (dpAll_strs ["lock", "part"]), sht, by decide +kernel, _, rfl, ?_⟩
        rw [eqv_strsD]
        by_cases c : ss.take 2 = (["lock", "part"] : List Str)
        · refine iteTe (decide_eq_true c) (r1 _ _ ?_ s3)
          rw [nx, show w2 (ss.take 2) = "part" from if_pos c]
        · refine iteFe (decide_eq_false c) ⟨_, rfl, b, _, _, _, rfl, rfl, same_t s3 hb', hd0, r1 _ _ ?_ s3⟩
          rw [nx, show w2 (ss.take 2) = (ss.take 2).headD "" from if_neg c]
      · rw [cut_take2]
        have s4 := same_new (o := .tup ((ss.take 2).map V.str)) hp
        refine ⟨(by show 2 ≤ sizeLine; decide), fun t ht => ?_⟩
        have s3 := same_new (o := .tup [.str "lock", .str "part"]) ht
        refine ⟨strsD (ss.take 2), strsD ["lock", "part"], .tup (SqT.of (s3 _ _ upd_same)) (dpAll_strs _), .tup (SqT.of upd_same) (dpAll_strs ["lock", "part"]), sht, by decide +kernel, _, rfl, ?_⟩
        rw [eqv_strsD]
        by_cases c : ss.take 2 = (["lock", "part"] : List Str)
        · refine iteTe (decide_eq_true c) (r1 _ _ ?_ (s4.trans s3))
          rw [nx, show w2 (ss.take 2) = "part" from if_pos c]
        · refine iteFe (decide_eq_false c) ⟨_, rfl, b, _, _, _, rfl, rfl, same_t (s4.trans s3) hb', hd0, r1 _ _ ?_ (s4.trans s3)⟩
          rw [nx, show w2 (ss.take 2) = (ss.take 2).headD "" from if_neg c]
    intro H3 s2 hl3
    have hl3 : H3 D2 = some (.lst ((sss.take xs.length).map fun ss => V.str (w2 (ss.take 2)))) := hl3
    rw [hlen, List.take_length] at hl3
    have hW : H3 D2 = some (.lst ((lawW sss).map V.str)) := by
      rw [hl3]
      unfold lawW
      rw [List.map_map]
      rfl
    have k : ∀ H', Same H3 H' → Q (.bl (lawE kd sss)) H' := fun H' s' => k H' (s2.trans s')
    have hL := s2.seq hL
    have hD := dpAll_mono s2 hD
    have W1 : 1 ≤ (lawW sss).length := by unfold lawW; rw [List.length_map]; exact c1
    have W12 : (lawW sss).length ≤ 12 := by unfold lawW; rw [List.length_map]; exact c2
    have Wne : lawW sss ≠ [] := fun e => by rw [e] at W1; cases W1
    -- last
    refine ⟨fun σ H' => ∃ la : Addr, σ = [some (.ref a), some (.str kd), some (.ref D2), some (.ref la), none, none, none, none] ∧ Same H3 H' ∧ H' la = some (.lst ((lastL kd).map V.str)), ?_, ?_⟩
    · refine ⟨_, rfl, rfl, fun l4 hl4 => ?_⟩
      have s4 := same_new (o := .lst (kindsL.map V.str)) hl4
      refine ⟨4, rfl, l4, _, rfl, SqL.of upd_same, fun l5 hl5 => ?_⟩
      have s5 := same_new (o := .lst (cutV (kindsL.map V.str) none (some 4))) hl5
      refine ⟨l5, _, rfl, .inl (SqL.of upd_same), rfl, rfl, _, rfl, ?_⟩
      rw [kinds4]
      by_cases c : kd ∈ firstK
      · refine iteTe (decide_eq_true c) ⟨(by show 1 ≤ sizeLine; decide), fun la hla => ?_⟩
        exact ⟨la, rfl, s4.trans (s5.trans (same_new hla)), by rw [upd_same]; unfold lastL; rw [if_pos c]; rfl⟩
      · refine iteFe (decide_eq_false c) ⟨(by show 2 ≤ sizeLine; decide), fun la hla => ?_⟩
        exact ⟨la, rfl, s4.trans (s5.trans (same_new hla)), by rw [upd_same]; unfold lastL; rw [if_neg c]; rfl⟩
    rintro σ H4 ⟨la, rfl, s4, hla⟩
    have hW := s4 _ _ hW
    have k : ∀ H', Same H4 H' → Q (.bl (lawE kd sss)) H' := fun H' s' => k H' (s4.trans s')
    have hL := s4.seq hL
    have hD := dpAll_mono s4 hD
    unfold lawE at k
    refine ⟨_, rfl, _, rfl, D2, _, -1, _, rfl, rfl, SqL.of hW, at_last Wne, _, rfl, la, _, rfl, .inl (SqL.of hla), rfl, flat_strs _, _, rfl, ?_⟩
    rw [in_strs]
    have k : ∀ H', Same H4 H' → Q (.bl (decide ((lawW sss).getLastD "" ∈ lastL kd) && _)) H' := k
    by_cases q0 : (lawW sss).getLastD "" ∈ lastL kd
    rotate_left
    · rw [decide_eq_false q0] at k
      exact iteTe (by rw [decide_eq_false q0]; rfl) (iteT (k _ (Same.refl _)))
    rw [decide_eq_true q0] at k
    refine iteFe (by rw [decide_eq_true q0]; rfl) ⟨_, rfl, _, rfl, _, rfl, D2, _, rfl, SqL.of hW, fun l5 hl5 => ?_⟩
    have s5 := same_new (o := .lst (cutV ((lawW sss).map V.str) none (some (-1)))) hl5
    refine ⟨(by show 2 ≤ sizeLine; decide), fun m6 hm6 => ⟨l5, m6, (lawW sss).dropLast, (["end", "close"] : List Str), rfl, same_new hm6 _ _ (by rw [upd_same, cut_last]), upd_same, by rw [List.length_dropLast]; omega, fun H6 s6 => ⟨_, _, rfl, rfl, _, rfl, ?_⟩⟩⟩
    have s6 := s5.trans ((same_new hm6).trans s6)
    have hW := s6 _ _ hW
    have hL := s6.seq hL
    have hD := dpAll_mono s6 hD
    have k := fun H' (s' : Same H6 H') => k H' (s6.trans s')
    by_cases q1 : cntG ["end", "close"] (lawW sss).dropLast = 0
    rotate_left
    · rw [decide_eq_false q1] at k
      exact iteTe (decide_eq_true (by omega)) (k _ (Same.refl _))
    rw [decide_eq_true q1] at k
    refine iteFe (decide_eq_false (by omega)) ⟨(by show 4 ≤ sizeLine; decide), fun ld hm7 => ?_⟩
    have s7 := same_new (o := .lst (deedsL.map V.str)) hm7
    have hld : _ = some (HO.lst (deedsL.map V.str)) := upd_same (H := H6) (a := ld) (o := .lst (deedsL.map V.str))
    have hW := s7 _ _ hW
    have hL := s7.seq hL
    have hD := dpAll_mono s7 hD
    have k := fun H' (s' : Same (upd H6 ld (.lst (deedsL.map V.str))) H') => k H' (s7.trans s')
    refine ⟨_, rfl, rfl, fun l8 hl8 => ⟨4, rfl, l8, _, rfl, SqL.of upd_same, fun l9 hl9 => ⟨l9, _, rfl, .inl (SqL.of upd_same), rfl, rfl, _, rfl, ?_⟩⟩⟩
    have s9 := (same_new (o := .lst (kindsL.map V.str)) hl8).trans (same_new (o := .lst (cutV (kindsL.map V.str) none (some 4))) hl9)
    have hld := s9 _ _ hld
    have hW := s9 _ _ hW
    have hL := s9.seq hL
    have hD := dpAll_mono s9 hD
    have k := fun H' s' => k H' (s9.trans s')
    rw [kinds4]
    by_cases c : kd ∈ firstK
    · rw [if_pos c] at k
      refine iteTe (decide_eq_true c) ⟨_, rfl, _, rfl, D2, ld, lawW sss, deedsL, rfl, hW, hld, W12, fun H10 s10 => ⟨rfl, _, rfl, ?_⟩⟩
      have s10 := s10
      have hW := s10 _ _ hW
      have hld := s10 _ _ hld
      have hL := s10.seq hL
      have hD := dpAll_mono s10 hD
      have k := fun H' (s' : Same H10 H') => k H' (s10.trans s')
      rw [ne1]
      by_cases q2 : cntG deedsL (lawW sss) = 1
      rotate_left
      · rw [decide_eq_false q2] at k
        exact iteTe (by rw [decide_eq_false q2]; rfl) (iteT (k _ (Same.refl _)))
      rw [decide_eq_true q2] at k
      refine iteFe (by rw [decide_eq_true q2]; rfl) ⟨_, rfl, (by show 1 ≤ sizeLine; decide), fun m11 hm11 => ⟨D2, m11, lawW sss, (["border"] : List Str), rfl, same_new hm11 _ _ hW, upd_same, W12, fun H11 s11 => ⟨_, _, rfl, rfl, _, rfl, ?_⟩⟩⟩
      have s11 := (same_new hm11).trans s11
      have hW := s11 _ _ hW
      have hld := s11 _ _ hld
      have hL := s11.seq hL
      have hD := dpAll_mono s11 hD
      have k := fun H' (s' : Same H11 H') => k H' (s11.trans s')
      by_cases q3 : cntG ["border"] (lawW sss) ≤ 1
      rotate_left
      · rw [decide_eq_false q3] at k
        exact iteTe (decide_eq_true (by omega)) (iteT (k _ (Same.refl _)))
      rw [decide_eq_true q3] at k
      refine iteFe (decide_eq_false (by omega)) ⟨_, rfl, (by show 1 ≤ sizeLine; decide), fun m12 hm12 => ⟨D2, m12, lawW sss, (["key"] : List Str), rfl, same_new hm12 _ _ hW, upd_same, W12, fun H12 s12 => ⟨_, _, rfl, rfl, _, rfl, ?_⟩⟩⟩
      have s12 := (same_new hm12).trans s12
      have hW := s12 _ _ hW
      have hld := s12 _ _ hld
      have hL := s12.seq hL
      have hD := dpAll_mono s12 hD
      have k := fun H' (s' : Same H12 H') => k H' (s12.trans s')
      by_cases q4 : cntG ["key"] (lawW sss) ≤ 1
      rotate_left
      · rw [decide_eq_false q4] at k
        exact iteTe (decide_eq_true (by omega)) (k _ (Same.refl _))
      rw [decide_eq_true q4] at k
      refine iteFe (decide_eq_false (by omega)) ⟨_, rfl, (by show 4 ≤ sizeLine; decide), fun m13 hm13 => ⟨_, rfl, D2, m13, ld, lawW sss, (["border", "key", "again", "view"] : List Str), deedsL, rfl, same_new hm13 _ _ hW, upd_same, same_new hm13 _ _ hld, W12, fun H13 s13 => ⟨_, rfl, ?_⟩⟩⟩
      have s13 := (same_new hm13).trans s13
      have hW := s13 _ _ hW
      have hld := s13 _ _ hld
      have hL := s13.seq hL
      have hD := dpAll_mono s13 hD
      have k := fun H' (s' : Same H13 H') => k H' (s13.trans s')
      cases q5 : befL (lawW sss) ["border", "key", "again", "view"] deedsL with
      | false =>
        rw [q5] at k
        exact iteT (k _ (Same.refl _))
      | true =>
      rw [q5] at k
      refine iteF ⟨_, rfl, rfl, _, rfl, ?_⟩
      rw [dec_str]
      by_cases d1 : kd = ("direct" : Str)
      · rw [if_pos d1] at k
        refine iteTe (by rw [d1]; rfl) (k _ (Same.refl _))
      rw [if_neg d1] at k
      refine iteFe (beq_eq_false_iff_ne.mpr d1) ⟨_, rfl, (by show 1 ≤ sizeLine; decide), fun m15 hm15 => ⟨D2, m15, lawW sss, (["look"] : List Str), rfl, same_new hm15 _ _ hW, upd_same, W12, fun H15 s15 => ⟨rfl, _, rfl, ?_⟩⟩⟩
      have s15 := (same_new hm15).trans s15
      have hW := s15 _ _ hW
      have hld := s15 _ _ hld
      have hL := s15.seq hL
      have hD := dpAll_mono s15 hD
      have k := fun H' (s' : Same H15 H') => k H' (s15.trans s')
      rw [ne1]
      by_cases q6 : cntG ["look"] (lawW sss) = 1
      rotate_left
      · rw [decide_eq_false q6] at k
        exact iteTe (by rw [decide_eq_false q6]; rfl) (iteT (k _ (Same.refl _)))
      rw [decide_eq_true q6] at k
      refine iteFe (by rw [decide_eq_true q6]; rfl) ⟨_, rfl, rfl, _, rfl, ?_⟩
      rw [dec_str]
      by_cases d2 : kd = ("read" : Str)
      · rw [if_pos d2] at k
        refine iteTe (by rw [d2]; rfl) ⟨_, rfl, (by show 1 ≤ sizeLine; decide), fun m16 hm16 => ⟨D2, m16, lawW sss, (["view"] : List Str), rfl, same_new hm16 _ _ hW, upd_same, W12, fun H16 s16 => ⟨rfl, _, rfl, ?_⟩⟩⟩
        have s16 := (same_new hm16).trans s16
        have hW := s16 _ _ hW
        have hld := s16 _ _ hld
        have hL := s16.seq hL
        have hD := dpAll_mono s16 hD
        have k := fun H' (s' : Same H16 H') => k H' (s16.trans s')
        rw [ne1]
        by_cases q7 : cntG ["view"] (lawW sss) = 1
        rotate_left
        · rw [decide_eq_false q7] at k
          exact iteTe (by rw [decide_eq_false q7]; rfl) (k _ (Same.refl _))
        rw [decide_eq_true q7] at k
        refine iteFe (by rw [decide_eq_true q7]; rfl) ⟨_, rfl, (by show 1 ≤ sizeLine; decide), fun m17 hm17 => ⟨(by show 3 ≤ sizeLine; decide), fun m18 hm18 => ?_⟩⟩
        have sa := same_new (o := .lst [.str "look"]) hm17
        have sb := same_new (o := .lst [.str "part", .str "again", .str "key"]) hm18
        refine ⟨_, rfl, m18, ld, _, _, rfl, rfl, upd_same, sb _ _ (sa _ _ hld), (by show 3 + 4 ≤ sizeLine; decide), fun m19 hm19 => ?_⟩
        have scc := same_new (o := .lst (partL.map V.str)) hm19
        exact ⟨D2, m17, m19, lawW sss, (["look"] : List Str), partL, rfl, scc _ _ (sb _ _ (sa _ _ hW)), scc _ _ (sb _ _ upd_same), upd_same, W12, fun Hz sz => k _ (sa.trans (sb.trans (scc.trans sz)))⟩
      · rw [if_neg d2] at k
        refine iteFe (beq_eq_false_iff_ne.mpr d2) (iteF ?_)
        refine ⟨_, rfl, (by show 1 ≤ sizeLine; decide), fun m20 hm20 => ⟨(by show 3 ≤ sizeLine; decide), fun m21 hm21 => ?_⟩⟩
        have sa := same_new (o := .lst [.str "look"]) hm20
        have sb := same_new (o := .lst [.str "part", .str "again", .str "key"]) hm21
        refine ⟨_, rfl, m21, ld, _, _, rfl, rfl, upd_same, sb _ _ (sa _ _ hld), (by show 3 + 4 ≤ sizeLine; decide), fun m22 hm22 => ?_⟩
        have scc := same_new (o := .lst (partL.map V.str)) hm22
        exact ⟨D2, m20, m22, lawW sss, (["look"] : List Str), partL, rfl, scc _ _ (sb _ _ (sa _ _ hW)), scc _ _ (sb _ _ upd_same), upd_same, W12, fun Hz sz => k _ (sa.trans (sb.trans (scc.trans sz)))⟩
    · rw [if_neg c] at k
      refine iteFe (decide_eq_false c) ⟨_, rfl, (by show 2 ≤ sizeLine; decide), fun m23 hm23 => ⟨D2, m23, lawW sss, (["switch", "close"] : List Str), rfl, same_new hm23 _ _ hW, upd_same, W12, fun H23 s23 => ⟨rfl, _, rfl, ?_⟩⟩⟩
      have s23 := (same_new hm23).trans s23
      have hW := s23 _ _ hW
      have hL := s23.seq hL
      have hD := dpAll_mono s23 hD
      have k := fun H' (s' : Same H23 H') => k H' (s23.trans s')
      rw [ne1]
      by_cases q2 : cntG ["switch", "close"] (lawW sss) = 1
      rotate_left
      · rw [decide_eq_false q2] at k
        exact iteTe (by rw [decide_eq_false q2]; rfl) (iteT (k _ (Same.refl _)))
      rw [decide_eq_true q2] at k
      refine iteFe (by rw [decide_eq_true q2]; rfl) ⟨_, rfl, (by show 2 ≤ sizeLine; decide), fun m24 hm24 => ⟨(by show 2 ≤ sizeLine; decide), fun m25 hm25 => ⟨D2, m24, m25, lawW sss, (["move", "scan"] : List Str), (["switch", "close"] : List Str), rfl, same_new hm25 _ _ (same_new hm24 _ _ hW), same_new hm25 _ _ upd_same, upd_same, W12, fun H24 s24 => ⟨_, rfl, ?_⟩⟩⟩⟩
      have s24 := (same_new hm24).trans ((same_new hm25).trans s24)
      have hW := s24 _ _ hW
      have hL := s24.seq hL
      have hD := dpAll_mono s24 hD
      have k := fun H' (s' : Same H24 H') => k H' (s24.trans s')
      cases q3 : befL (lawW sss) ["move", "scan"] ["switch", "close"] with
      | false =>
        rw [q3] at k
        exact iteT (k _ (Same.refl _))
      | true =>
      rw [q3] at k
      have hcur := k
      refine ⟨fun σ H' => σ = [some (.ref a), some (.str kd), some (.ref D2), some (.ref la), some (.ref ld), none, none, none] ∧ Same H24 H' ∧ ∀ H'', Same H' H'' → Q (.bl ((if kd ∈ (["split", "join"] : List Str) then decide (cntG ["move"] (lawW sss) = 1) else true) && decide (scansL sss).Nodup)) H'', ?_, ?_⟩
      · refine ⟨_, rfl, (by show 2 ≤ sizeLine; decide), fun m26 hm26 => ⟨(by show 1 ≤ sizeLine; decide), fun m27 hm27 => ⟨D2, m26, m27, lawW sss, (["switch", "close"] : List Str), (["wait"] : List Str), rfl, same_new hm27 _ _ (same_new hm26 _ _ hW), same_new hm27 _ _ upd_same, upd_same, W12, fun H26 s26 => ⟨_, rfl, ?_⟩⟩⟩⟩
        have s26 := (same_new hm26).trans ((same_new hm27).trans s26)
        have hW := s26 _ _ hW
        have hL := s26.seq hL
        have hD := dpAll_mono s26 hD
        have k := fun H' (s' : Same H26 H') => k H' (s26.trans s')
        cases q4 : befL (lawW sss) ["switch", "close"] ["wait"] with
        | false =>
          rw [q4] at k
          exact iteT (iteT (k _ (Same.refl _)))
        | true =>
        rw [q4] at k
        refine iteF ⟨_, rfl, D2, _, rfl, .inl (SqL.of hW), rfl, flat_strs _, _, rfl, ?_⟩
        rw [in_strs]
        by_cases w1' : ("wait" : Str) ∈ lawW sss
        · rw [decide_eq_true w1'] at k
          refine iteTe (decide_eq_true w1') ⟨_, rfl, D2, _, rfl, .inl (SqL.of hW), rfl, flat_strs _, _, rfl, ?_⟩
          rw [in_strs]
          by_cases w2' : ("close" : Str) ∈ lawW sss
          · rw [decide_eq_true w2'] at k
            exact iteTe (by rw [decide_eq_true w2']; rfl) (k _ (Same.refl _))
          · rw [decide_eq_false w2'] at k
            exact iteFe (by rw [decide_eq_false w2']; rfl) ⟨rfl, s26, k⟩
        · rw [decide_eq_false w1'] at k
          exact iteFe (decide_eq_false w1') (iteF ⟨rfl, s26, k⟩)
      rintro σ Ha ⟨rfl, sa, k⟩
      have hW := sa _ _ hW
      have hL := sa.seq hL
      have hD := dpAll_mono sa hD
      clear hcur
      refine ⟨fun σ H' => σ = [some (.ref a), some (.str kd), some (.ref D2), some (.ref la), some (.ref ld), none, none, none] ∧ Same Ha H' ∧ ∀ H'', Same H' H'' → Q (.bl (decide (scansL sss).Nodup)) H'', ?_, ?_⟩
      · refine ⟨_, rfl, (by show 2 ≤ sizeLine; decide), fun lx hlx => ?_⟩
        have sx := same_new (o := .lst [.str "split", .str "join"]) hlx
        refine ⟨lx, (["split", "join"] : List Str).map V.str, rfl, .inl (SqL.of upd_same), rfl, flat_strs _, _, rfl, ?_⟩
        rw [in_strs]
        have hW := sx _ _ hW
        have k := fun H'' s' => k H'' (sx.trans s')
        by_cases m1' : kd ∈ (["split", "join"] : List Str)
        · rw [if_pos m1'] at k
          refine iteTe (decide_eq_true m1') ⟨_, rfl, (by show 1 ≤ sizeLine; decide), fun m28 hm28 => ⟨D2, m28, lawW sss, (["move"] : List Str), rfl, same_new hm28 _ _ hW, upd_same, W12, fun H28 s28 => ⟨rfl, _, rfl, ?_⟩⟩⟩
          have s28 := (same_new hm28).trans s28
          have hW := s28 _ _ hW
          have hL := hL --  s28.seq hL
          have hD := hD --  dpAll_mono s28 hD
          have k := fun H' (s' : Same H28 H') => k H' (s28.trans s')
          rw [ne1]
          by_cases q8 : cntG ["move"] (lawW sss) = 1
          rotate_left
          · rw [decide_eq_false q8] at k
            exact iteTe (by rw [decide_eq_false q8]; rfl) (k _ (Same.refl _))
          rw [decide_eq_true q8] at k
          exact iteFe (by rw [decide_eq_true q8]; rfl) ⟨rfl, sx.trans s28, k⟩
        · rw [if_neg m1'] at k
          exact iteFe (decide_eq_false m1') (iteF ⟨rfl, sx, k⟩)
      rintro σ Hb ⟨rfl, sb, k⟩
      have hL := sb.seq hL
      have hD := dpAll_mono sb hD
      refine ⟨_, rfl, a, rfl, ⟨_, hL⟩, fun D3 hD3 => ?_⟩
      refine lc_acc walk_list hD3 (fun H' s' => s'.seq hL) (fun i => filtG (fun d => decide (hdD d = "scan")) (xs.take i) ((sss.map strsD).take i)) rfl (fun i hi => Nat.lt_of_le_of_lt (filtG_len _ _ _) ?_) ?_ ?_
      · rw [List.length_take]
        exact Nat.lt_of_le_of_lt (Nat.le_trans (Nat.min_le_right _ _) (by rw [hlen]; exact c2)) (by decide)
      · rintro i x Hc hi hx s1 R S r1 r2
        obtain ⟨dx, hdx, vx⟩ := dpAll_get hD hx
        have step := filtG_step (f := fun d => decide (hdD d = "scan")) hx hdx
        rw [List.getElem?_map] at hdx
        obtain ⟨ss, hss, rfl⟩ := Option.map_eq_some_iff.mp hdx
        obtain ⟨b, rfl, hb'⟩ := dp_strsT (dp_mono s1 vx)
        have hne := step_ne hk (hval ss (List.mem_of_getElem? hss))
        have hd0 : atI (ss.map V.str) 0 = some (.str (ss.headD "")) := by
          cases ss with
          | nil => exact absurd rfl hne
          | cons w r => exact atI_nat (j := 0) rfl
        refine ⟨rfl, _, rfl, b, _, _, _, rfl, rfl, hb', hd0, rfl, _, rfl, ?_⟩
        rw [dec_str]
        rw [hdD_strs] at step
        by_cases c9 : ss.headD "" = "scan"
        · rw [decide_eq_true c9, if_pos rfl] at step
          exact iteTe (beq_iff_eq.mpr c9) ⟨_, rfl, r1 _ _ step (Same.refl _)⟩
        · rw [decide_eq_false c9, if_neg (by decide)] at step
          exact iteFe (beq_eq_false_iff_ne.mpr c9) (r2 _ step (Same.refl _))
      intro Hc s1 hl9
      have hl9 : Hc D3 = some (.lst (filtG (fun d => decide (hdD d = "scan")) (xs.take xs.length) ((sss.map strsD).take xs.length))) := hl9
      have hx2 : (sss.map strsD).take xs.length = sss.map strsD := List.take_of_length_le (by rw [List.length_map, hlen]; exact Nat.le_refl _)
      rw [List.take_length, hx2] at hl9
      have hS : DpAll K Hc (filtG (fun d => decide (hdD d = "scan")) xs (sss.map strsD)) ((scansL sss).map strsD) := by
        have := filtG_dp (f := fun d => decide (hdD d = "scan")) (dpAll_mono s1 hD)
        rw [scans_ds] at this
        exact this
      have k := fun H'' s' => k H'' (s1.trans s')
      generalize filtG (fun d => decide (hdD d = "scan")) xs (sss.map strsD) = ys at hl9 hS
      have ylen := dpAll_len hS
      rw [List.length_map] at ylen
      have S12 : (scansL sss).length ≤ 12 := Nat.le_trans (List.length_filter_le _ _) c2
      have ysh : ∀ s ∈ scansL sss, (strsD s).canLay0 = true ∧ (strsD s).depth ≤ 63 := fun s hs => shaped_of_list hsh (List.mem_map.mpr ⟨s, (List.mem_filter.mp hs).1, rfl⟩)
      generalize hSS : scansL sss = S at hS ylen S12 ysh k
      refine ⟨_, rfl, D3, _, rfl, .inl (SqL.of hl9), (ys.length : Nat), rfl, by omega, by rw [ylen]; omega, fun D4 hD4 => ?_⟩
      have en : ((ys.length : Nat) : Int).toNat = S.length := by rw [ylen]; omega
      refine lc_acc (n := ((ys.length : Nat) : Int).toNat) (item := fun i x => x = V.int (0 + (i : Int))) walk_range hD4 (fun _ _ => trivial) (fun i => (((List.range i).filter (dupC S)).map Int.ofNat).map V.int) rfl (fun i hi => ?_) ?_ ?_
      · rw [List.length_map, List.length_map]
        rw [en] at hi
        have := List.length_filter_le (dupC S) (List.range i)
        rw [List.length_range] at this
        exact Nat.lt_of_le_of_lt this (Nat.lt_of_lt_of_le (show i < 100 by omega) (by decide))
      · rintro i x Hd hi rfl s3 R S' r1 r2
        rw [en] at hi
        have step := range_filter_step (dupC S) i
        have hi2 : i < ys.length := by omega
        have hd9 : ((S.map strsD))[i]? = some (strsD S[i]) := by rw [List.getElem?_map, List.getElem?_eq_getElem hi]; rfl
        obtain ⟨dy, hdy, vy⟩ := dpAll_get hS (List.getElem?_eq_getElem hi2)
        rw [hd9] at hdy
        cases hdy
        have ati : atI ys (0 + (i : Int)) = some ys[i] := by
          rw [Int.zero_add]
          exact atI_nat (List.getElem?_eq_getElem hi2)
        refine ⟨rfl, _, rfl, _, rfl, D3, _, _, _, rfl, rfl, SqL.of (s3 _ _ hl9), ati, _, rfl, _, rfl, _, rfl, D3, _, rfl, SqL.of (s3 _ _ hl9), fun q5 hq5 => ?_⟩
        rw [Int.zero_add, cut_takeV ys (by omega)]
        have s6 := same_new (o := .lst (ys.take i)) hq5
        refine ⟨strsD S[i], (S.take i).map strsD, dp_mono (s3.trans s6) vy, .lst (SqL.of upd_same) (by rw [List.map_take]; exact dpAll_take i (dpAll_mono (s3.trans s6) hS)), shaped_item (ysh _ (List.getElem_mem hi)), shaped_list (n := 63) (by decide) (fun d hd => ?_), _, rfl, ?_⟩
        · obtain ⟨s, hs, rfl⟩ := List.mem_map.mp hd
          exact ysh s (List.mem_of_mem_take hs)
        · rw [any_strsD]
          have hc : dupC S i = decide (S[i] ∈ S.take i) := by
            unfold dupC
            rw [List.getElem?_eq_getElem hi]
          rw [hc] at step
          by_cases c9 : S[i] ∈ S.take i
          · rw [decide_eq_true c9, if_pos rfl] at step
            refine iteTe (decide_eq_true c9) ⟨_, rfl, r1 _ _ ?_ s6⟩
            rw [step, List.map_append, List.map_append]
            simp
          · rw [decide_eq_false c9, if_neg (by decide)] at step
            exact iteFe (decide_eq_false c9) (r2 _ (by rw [step]) s6)
      intro Hd s3 hl10
      have hl10 : Hd D4 = some (.lst ((((List.range ((ys.length : Nat) : Int).toNat).filter (dupC S)).map Int.ofNat).map V.int)) := hl10
      rw [en] at hl10
      refine ⟨Nat.zero_le _, fun q9 hq9 => ?_⟩
      have s6 := same_new (o := .lst []) hq9
      refine ⟨_, _, .lst (SqL.of (s6 _ _ hl10)) (dpAll_ints _), .lst (SqL.of upd_same) .nil, ints_shaped _, shaped_nil, ?_⟩
      rw [eqv_nil, List.isEmpty_map, List.isEmpty_map, nodup_idx]
      exact k _ (s3.trans s6)
theorem ok_law_base (T : Txt K mg w) : FnOk P w K mg base CX0 2 T.f_law_base T.fd_law_base ["_law_box_here", "_law_kind"] (sp_base K) := by
  refine T.F_law_base.ok sc_law_base (fun vs H Q E h => ?_) (fun cdv A outer s H vs Q E hr h => ?_)
  · obtain ⟨H0, p, n, kd, rfl, _⟩ := h
    rfl
  · obtain ⟨H0, p, n, kd, rfl, hk, B, hn, k⟩ := h
    refine ⟨_, (C8.pss_cut (ps_set (i := 2) sc_law_base.nd rfl (Or.inl rfl) (pe_ifExp (pt_cmpR op_eq (pe_call (ok_law_take T) hr rfl T.m_law_take T.F_law_take.kp T.b_law_take .nil pass0 (pa_cons (pv 0) (pa_cons pe_int pa_nil))) pe_int (nomark _)) (pe_tup (pa_cons pe_str pa_nil)) (pe_tup (pa_cons pe_str pa_nil))))
        (C8.pss_cut (ps_set (i := 3) sc_law_base.nd rfl (Or.inl rfl) (pe_ix ix_list (pe_lst (pa_cons (pe_lst (pa_cons (pe_tup (pa_cons pe_str pa_nil)) pa_nil)) (pa_cons (pe_lst (pa_cons (pe_tup (pa_cons pe_str pa_nil)) (pa_cons (pe_tup (pa_cons pe_str pa_nil)) pa_nil))) (pa_cons (pe_lst (pa_cons (pe_tup (pa_cons pe_str pa_nil)) (pa_cons (pe_tup (pa_cons pe_str pa_nil)) (pa_cons (pe_tup (pa_cons pe_str pa_nil)) pa_nil)))) pa_nil)))) (pe_call (ok_law_take T) hr rfl T.m_law_take T.F_law_take.kp T.b_law_take .nil pass0 (pa_cons (pv 0) (pa_cons pe_int pa_nil))) (fun _ _ => rfl)))
        (pss_cons (ps_if (pt_cmpR op_in_seq (pv 1) (pe_lst (pa_cons pe_str (pa_cons pe_str pa_nil))) (by rfl)) (pss_one (ps_ret (pe_op op_cat (pe_ifExp (pt_cmpR op_eq (pv 1) pe_str (nomark _)) (pe_lst (pa_cons (pe_tup (pa_cons pe_str pa_nil)) pa_nil)) (pe_lst pa_nil)) (pe_lst (pa_cons (pv 2) (pa_cons (pe_tup (pa_cons pe_str pa_nil)) pa_nil)))))) pss_nil)
        (pss_cons (ps_if (pt_cmpR op_eq (pv 1) pe_str (nomark _)) (pss_one (ps_ret (pe_lst (pa_cons (pe_tup (pa_cons pe_str pa_nil)) (pa_cons (pe_tup (pa_cons pe_str pa_nil)) (pa_cons (pe_tup (pa_cons pe_str pa_nil)) pa_nil)))))) pss_nil)
        (pss_cons (ps_if (pt_cmpR op_eq (pv 1) pe_str (nomark _)) (pss_one (ps_ret (pe_op op_cat (pe_ix ix_list (pe_lst (pa_cons (pe_lst (pa_cons (pe_tup (pa_cons pe_str pa_nil)) (pa_cons (pe_tup (pa_cons pe_str pa_nil)) pa_nil))) (pa_cons (pe_lst (pa_cons (pe_tup (pa_cons pe_str pa_nil)) (pa_cons (pe_tup (pa_cons pe_str pa_nil)) pa_nil))) pa_nil))) (pe_call (ok_law_take T) hr rfl T.m_law_take T.F_law_take.kp T.b_law_take .nil pass0 (pa_cons (pv 0) (pa_cons pe_int pa_nil))) (fun _ _ => rfl)) (pe_lst (pa_cons (pe_tup (pa_cons pe_str pa_nil)) (pa_cons (pe_tup (pa_cons pe_str pa_nil)) pa_nil)))))) pss_nil)
        (pss_one (ps_ret (pe_op op_cat (pe_ifExp (pt_cmpR op_in_seq (pv 1) (pe_lst (pa_cons pe_str (pa_cons pe_str pa_nil))) (by rfl)) (pe_lst (pa_cons (pe_tup (pa_cons pe_str pa_nil)) pa_nil)) (pe_lst pa_nil)) (pv 3))))))))), ?_⟩
    refine ⟨fun σ H' => ∃ (G : Hp) (td : Addr) (d : List Str), σ = [some (.ref p), some (.str kd), some (.ref td), none] ∧ Same H0 G ∧ BoxIn G H' p (n + 1) ∧ G td = some (.tup (d.map V.str)) ∧ d ∈ ([["claim"], ["put"]] : List (List Str)), ?_, ?_⟩
    · refine ⟨_, rfl, H0, p, n, 2, rfl, B, by omega, by decide, by decide, fun z H1 z0 z1 B1 => ⟨rfl, _, rfl, ?_⟩⟩
      refine ite2 (fun c => ?_) (fun c => ?_)
      · refine ⟨(by show 1 ≤ sizeLine; decide), fun t ht => ?_⟩
        have B2 := B1.new (o := .tup [.str "claim"]) ht
        exact ⟨_, t, ["claim"], rfl, B2.2, B2.1, upd_same, List.mem_cons_self⟩
      · refine ⟨(by show 1 ≤ sizeLine; decide), fun t ht => ?_⟩
        have B2 := B1.new (o := .tup [.str "put"]) ht
        exact ⟨_, t, ["put"], rfl, B2.2, B2.1, upd_same, List.mem_cons_of_mem _ List.mem_cons_self⟩
    rintro σ H2 ⟨G, td, d, rfl, sG, B2, htd, hd⟩
    refine ⟨fun σ H' => ∃ (G2 : Hp) (ll : Addr) (lst : List (List Str)), σ = [some (.ref p), some (.str kd), some (.ref td), some (.ref ll)] ∧ Same G G2 ∧ BoxIn G2 H' p (n + 2) ∧ PL K G2 ll lst ∧ lst ∈ lastsL, ?_, ?_⟩
    · refine ⟨(by show 1 ≤ sizeLine; decide), fun t1 h1 => ⟨(by show 1 ≤ sizeLine; decide), fun l1 g1 => ⟨(by show 1 ≤ sizeLine; decide), fun t2 h2 => ⟨(by show 1 ≤ sizeLine; decide), fun t3 h3 => ⟨(by show 2 ≤ sizeLine; decide), fun l2 g2 => ?_⟩⟩⟩⟩⟩
      refine ⟨(by show 1 ≤ sizeLine; decide), fun t4 h4 => ⟨(by show 1 ≤ sizeLine; decide), fun t5 h5 => ⟨(by show 1 ≤ sizeLine; decide), fun t6 h6 => ⟨(by show 3 ≤ sizeLine; decide), fun l3 g3 => ⟨(by show 3 ≤ sizeLine; decide), fun lo go => ?_⟩⟩⟩⟩⟩
      have b1 := B2.new (o := .tup ((["close"] : List Str).map V.str)) h1
      have b2 := b1.1.new (o := .lst [.ref t1]) g1
      have b3 := b2.1.new (o := .tup ((["switch"] : List Str).map V.str)) h2
      have b4 := b3.1.new (o := .tup ((["end"] : List Str).map V.str)) h3
      have b5 := b4.1.new (o := .lst [.ref t2, .ref t3]) g2
      have b6 := b5.1.new (o := .tup ((["switch"] : List Str).map V.str)) h4
      have b7 := b6.1.new (o := .tup ((["wait"] : List Str).map V.str)) h5
      have b8 := b7.1.new (o := .tup ((["end"] : List Str).map V.str)) h6
      have b9 := b8.1.new (o := .lst [.ref t4, .ref t5, .ref t6]) g3
      have b10 := b9.1.new (o := .lst [.ref l1, .ref l2, .ref l3]) go
      have m9 := b10.2
      have m8 := b9.2.trans m9
      have m7 := b8.2.trans m8
      have m6 := b7.2.trans m7
      have m5 := b6.2.trans m6
      have m4 := b5.2.trans m5
      have m3 := b4.2.trans m4
      have m2 := b3.2.trans m3
      have m1 := b2.2.trans m2
      refine ⟨_, rfl, _, p, _, 3, rfl, b10.1, by omega, by decide, by decide, fun z H5 z0 z1 B5 => ?_⟩
      obtain ⟨v, hv, hm⟩ := atI_in (xs := [V.ref l1, .ref l2, .ref l3]) z0 z1
      refine ⟨lo, _, z, v, rfl, rfl, SqL.of (B5.same _ _ upd_same), hv, ?_⟩
      simp only [List.mem_cons, List.not_mem_nil, or_false] at hm
      rcases hm with rfl | rfl | rfl
      · exact ⟨_, l1, [["close"]], rfl, b1.2.trans m1, B5, ⟨_, m2 _ _ upd_same, .cons (dp_tup1 (m1 _ _ upd_same)) .nil⟩, by decide +kernel⟩
      · exact ⟨_, l2, [["switch"], ["end"]], rfl, b1.2.trans m1, B5, ⟨_, m5 _ _ upd_same, .cons (dp_tup1 (m3 _ _ upd_same)) (.cons (dp_tup1 (m4 _ _ upd_same)) .nil)⟩, by decide +kernel⟩
      · exact ⟨_, l3, [["switch"], ["wait"], ["end"]], rfl, b1.2.trans m1, B5, ⟨_, m9 _ _ upd_same, .cons (dp_tup1 (m6 _ _ upd_same)) (.cons (dp_tup1 (m7 _ _ upd_same)) (.cons (dp_tup1 (m8 _ _ upd_same)) .nil))⟩, by decide +kernel⟩
    rintro σ H3 ⟨G2, ll, lst, rfl, sG2, B3, hll, hlst⟩
    have htd := sG2 _ _ htd
    have sG := sG.trans sG2
    refine ⟨_, rfl, (by show 2 ≤ sizeLine; decide), fun la hla => ?_⟩
    have b1 := B3.new (o := .lst [.str "put", .str "direct"]) hla
    have htd := b1.2 _ _ htd
    have hll := hll.mono b1.2
    have sG := sG.trans b1.2
    refine ⟨la, (["put", "direct"] : List Str).map V.str, rfl, .inl (SqL.of upd_same), rfl, flat_strs _, _, rfl, ?_⟩
    rw [in_strs]
    have hd2 := base_put d hd
    have hl2 := base_change lst hlst
    simp only [kindsL, List.mem_cons, List.not_mem_nil, or_false] at hk
    rcases hk with rfl | rfl | rfl | rfl | hk
    · -- put
      refine iteTe (by decide +kernel) ⟨_, rfl, rfl, _, rfl, iteTe (by decide +kernel) ⟨(by show 1 ≤ sizeLine; decide), fun t1 h1 => ⟨(by show 1 ≤ sizeLine; decide), fun l1 g1 => ⟨_, rfl, (by show 1 ≤ sizeLine; decide), fun t2 h2 => ⟨(by show 2 ≤ sizeLine; decide), fun l2 g2 => ?_⟩⟩⟩⟩⟩
      have c1 := b1.1.new (o := .tup ((["look"] : List Str).map V.str)) h1
      have c2 := c1.1.new (o := .lst [.ref t1]) g1
      have c3 := c2.1.new (o := .tup ((["end"] : List Str).map V.str)) h2
      have c4 := c3.1.new (o := .lst [.ref td, .ref t2]) g2
      have n3 := c4.2
      have n2 := c3.2.trans n3
      have n1 := c2.2.trans n2
      refine ⟨l1, l2, _, _, rfl, rfl, c4.1.same _ _ (n2 _ _ upd_same), c4.1.same _ _ upd_same, (by show 1 + 2 ≤ sizeLine; decide), fun r hr => ?_⟩
      have c5 := c4.1.new (o := .lst [.ref t1, .ref td, .ref t2]) hr
      refine k _ _ r [["look"], d, ["end"]] (sG.trans (c1.2.trans (n1.trans c5.2))) (c5.1.mono (by omega)) ⟨_, upd_same, .cons (dp_mono c5.2 (dp_tup1 (n1 _ _ upd_same))) (.cons (dp_mono c5.2 (dp_tup1 (n1 _ _ (c1.2 _ _ htd)))) (.cons (dp_mono c5.2 (dp_tup1 (n3 _ _ upd_same))) .nil))⟩ hd2.1 (goodB_ok hd2.2.1)
    · -- strike
      refine iteFe (by decide +kernel) ⟨_, rfl, rfl, _, rfl, iteTe (by decide +kernel) ⟨(by show 1 ≤ sizeLine; decide), fun t1 h1 => ⟨(by show 1 ≤ sizeLine; decide), fun t2 h2 => ⟨(by show 1 ≤ sizeLine; decide), fun t3 h3 => ⟨(by show 3 ≤ sizeLine; decide), fun r hr => ?_⟩⟩⟩⟩⟩
      have c1 := b1.1.new (o := .tup ((["look"] : List Str).map V.str)) h1
      have c2 := c1.1.new (o := .tup ((["strike"] : List Str).map V.str)) h2
      have c3 := c2.1.new (o := .tup ((["end"] : List Str).map V.str)) h3
      have c4 := c3.1.new (o := .lst [.ref t1, .ref t2, .ref t3]) hr
      have n3 := c4.2
      have n2 := c3.2.trans n3
      have n1 := c2.2.trans n2
      refine k _ _ r [["look"], ["strike"], ["end"]] (sG.trans (c1.2.trans n1)) (c4.1.mono (by omega)) ⟨_, upd_same, .cons (dp_tup1 (n1 _ _ upd_same)) (.cons (dp_tup1 (n2 _ _ upd_same)) (.cons (dp_tup1 (n3 _ _ upd_same)) .nil))⟩ base_strike.1 (goodB_ok base_strike.2)
    · -- read
      refine iteFe (by decide +kernel) ⟨_, rfl, rfl, _, rfl, iteFe (by decide +kernel) ⟨_, rfl, rfl, _, rfl, iteTe (by decide +kernel) ⟨(by show 1 ≤ sizeLine; decide), fun t1 h1 => ⟨(by show 1 ≤ sizeLine; decide), fun t2 h2 => ⟨(by show 2 ≤ sizeLine; decide), fun l1 g1 => ⟨(by show 1 ≤ sizeLine; decide), fun t3 h3 => ⟨(by show 1 ≤ sizeLine; decide), fun t4 h4 => ⟨(by show 2 ≤ sizeLine; decide), fun l2 g2 => ⟨(by show 2 ≤ sizeLine; decide), fun lo go => ?_⟩⟩⟩⟩⟩⟩⟩⟩⟩
      have c1 := b1.1.new (o := .tup ((["look"] : List Str).map V.str)) h1
      have c2 := c1.1.new (o := .tup ((["view"] : List Str).map V.str)) h2
      have c3 := c2.1.new (o := .lst [.ref t1, .ref t2]) g1
      have c4 := c3.1.new (o := .tup ((["view"] : List Str).map V.str)) h3
      have c5 := c4.1.new (o := .tup ((["look"] : List Str).map V.str)) h4
      have c6 := c5.1.new (o := .lst [.ref t3, .ref t4]) g2
      have c7 := c6.1.new (o := .lst [.ref l1, .ref l2]) go
      have n6 := c7.2
      have n5 := c6.2.trans n6
      have n4 := c5.2.trans n5
      have n3 := c4.2.trans n4
      have n2 := c3.2.trans n3
      have n1 := c2.2.trans n2
      refine ⟨_, rfl, _, p, _, 2, rfl, c7.1, by omega, by decide, by decide, fun z H5 z0 z1 B5 => ?_⟩
      obtain ⟨v, hv, hm⟩ := atI_in (xs := [V.ref l1, .ref l2]) z0 z1
      refine ⟨lo, _, z, v, rfl, rfl, SqL.of (B5.same _ _ upd_same), hv, ?_⟩
      obtain ⟨G3, lf, a, rfl, sG3, B5, hlf, ha⟩ : ∃ (G3 : Hp) (lf : Addr) (a : List (List Str)), v = .ref lf ∧ Same H0 G3 ∧ BoxIn G3 H5 p (n + 3) ∧ PL K G3 lf a ∧ a ∈ ([[["look"], ["view"]], [["view"], ["look"]]] : List (List (List Str))) := by
        simp only [List.mem_cons, List.not_mem_nil, or_false] at hm
        rcases hm with rfl | rfl
        · exact ⟨_, l1, [["look"], ["view"]], rfl, sG.trans (c1.2.trans n1), B5, ⟨_, n3 _ _ upd_same, .cons (dp_tup1 (n1 _ _ upd_same)) (.cons (dp_tup1 (n2 _ _ upd_same)) .nil)⟩, by decide +kernel⟩
        · exact ⟨_, l2, [["view"], ["look"]], rfl, sG.trans (c1.2.trans n1), B5, ⟨_, n6 _ _ upd_same, .cons (dp_tup1 (n4 _ _ upd_same)) (.cons (dp_tup1 (n5 _ _ upd_same)) .nil)⟩, by decide +kernel⟩
      refine ⟨(by show 1 ≤ sizeLine; decide), fun t5 h5 => ⟨(by show 1 ≤ sizeLine; decide), fun t6 h6 => ⟨(by show 2 ≤ sizeLine; decide), fun l3 g3 => ?_⟩⟩⟩
      have e1 := B5.new (o := .tup ((["read"] : List Str).map V.str)) h5
      have e2 := e1.1.new (o := .tup ((["end"] : List Str).map V.str)) h6
      have e3 := e2.1.new (o := .lst [.ref t5, .ref t6]) g3
      have m2 := e3.2
      have m1 := e2.2.trans m2
      obtain ⟨xs, hx1, hx2⟩ := hlf.mono (e1.2.trans m1)
      have a2 : a.length = 2 := by
        simp only [List.mem_cons, List.not_mem_nil, or_false] at ha
        rcases ha with rfl | rfl <;> rfl
      have xl := dpAll_len hx2
      rw [List.length_map, a2] at xl
      refine ⟨lf, l3, xs, _, rfl, rfl, e3.1.same _ _ hx1, e3.1.same _ _ upd_same, (by rw [xl]; show 2 + 2 ≤ sizeLine; decide), fun r hr => ?_⟩
      have e4 := e3.1.new (o := .lst (xs ++ [.ref t5, .ref t6])) hr
      have br := base_read a ha
      refine k _ _ r (a ++ ([["read"], ["end"]] : List (List Str))) (sG3.trans (e1.2.trans (m1.trans e4.2))) (e4.1.mono (by omega)) ⟨_, upd_same, ?_⟩ br.1 (goodB_ok br.2)
      rw [List.map_append]
      exact dpAll_app (dpAll_mono e4.2 hx2) (.cons (dp_mono e4.2 (dp_tup1 (m1 _ _ upd_same))) (.cons (dp_mono e4.2 (dp_tup1 (m2 _ _ upd_same))) .nil))
    · -- direct
      refine iteTe (by decide +kernel) ⟨_, rfl, rfl, _, rfl, iteFe (by decide +kernel) ⟨(by show 0 ≤ sizeLine; decide), fun l1 g1 => ⟨_, rfl, (by show 1 ≤ sizeLine; decide), fun t2 h2 => ⟨(by show 2 ≤ sizeLine; decide), fun l2 g2 => ?_⟩⟩⟩⟩
      have c2 := b1.1.new (o := .lst []) g1
      have c3 := c2.1.new (o := .tup ((["end"] : List Str).map V.str)) h2
      have c4 := c3.1.new (o := .lst [.ref td, .ref t2]) g2
      have n3 := c4.2
      have n2 := c3.2.trans n3
      have n1 := c2.2.trans n2
      refine ⟨l1, l2, _, _, rfl, rfl, c4.1.same _ _ (n2 _ _ upd_same), c4.1.same _ _ upd_same, (by show 0 + 2 ≤ sizeLine; decide), fun r hr => ?_⟩
      have c5 := c4.1.new (o := .lst [.ref td, .ref t2]) hr
      refine k _ _ r [d, ["end"]] (sG.trans (n1.trans c5.2)) (c5.1.mono (by omega)) ⟨_, upd_same, .cons (dp_mono c5.2 (dp_tup1 (n1 _ _ htd))) (.cons (dp_mono c5.2 (dp_tup1 (n3 _ _ upd_same))) .nil)⟩ hd2.2.2.1 (goodB_ok hd2.2.2.2)
    · -- changes
      have f1 : decide (kd ∈ (["put", "direct"] : List Str)) = false := by rcases hk with rfl | rfl | rfl | rfl <;> decide +kernel
      have f2 : (kd == ("strike" : Str)) = false := by rcases hk with rfl | rfl | rfl | rfl <;> decide +kernel
      have f3 : (kd == ("read" : Str)) = false := by rcases hk with rfl | rfl | rfl | rfl <;> decide +kernel
      refine iteFe f1 ⟨_, rfl, rfl, _, rfl, iteFe (by rw [dec_str]; exact f2) ⟨_, rfl, rfl, _, rfl, iteFe (by rw [dec_str]; exact f3) ⟨_, rfl, (by show 2 ≤ sizeLine; decide), fun lx hlx => ?_⟩⟩⟩
      have c0 := b1.1.new (o := .lst [.str "split", .str "join"]) hlx
      have hll := hll.mono c0.2
      have sG := sG.trans c0.2
      refine ⟨lx, (["split", "join"] : List Str).map V.str, rfl, .inl (SqL.of upd_same), rfl, flat_strs _, _, rfl, ?_⟩
      rw [in_strs]
      by_cases m1' : kd ∈ (["split", "join"] : List Str)
      · refine iteTe (decide_eq_true m1') ⟨(by show 1 ≤ sizeLine; decide), fun t1 h1 => ⟨(by show 1 ≤ sizeLine; decide), fun l1 g1 => ?_⟩⟩
        have c1 := c0.1.new (o := .tup ((["move"] : List Str).map V.str)) h1
        have c2 := c1.1.new (o := .lst [.ref t1]) g1
        obtain ⟨xs, hx1, hx2⟩ := hll.mono (c1.2.trans c2.2)
        have a3 : lst.length ≤ 3 := by
          have all : ∀ a ∈ lastsL, a.length ≤ 3 := by decide +kernel
          exact all _ hlst
        have xl := dpAll_len hx2
        rw [List.length_map] at xl
        refine ⟨_, rfl, l1, ll, _, xs, rfl, rfl, c2.1.same _ _ upd_same, c2.1.same _ _ hx1, (by rw [xl]; exact Nat.le_trans (Nat.add_le_add_left a3 1) (by decide)), fun r hr => ?_⟩
        have e4 := c2.1.new (o := .lst ([.ref t1] ++ xs)) hr
        refine k _ _ r (([["move"]] : List (List Str)) ++ lst) (sG.trans (c1.2.trans (c2.2.trans e4.2))) (e4.1.mono (by omega)) ⟨_, upd_same, ?_⟩ (hl2.2.1 kd m1') (goodB_ok hl2.2.2.2)
        exact .cons (dp_mono e4.2 (dp_tup1 (c2.2 _ _ upd_same))) (dpAll_mono e4.2 hx2)
      · have m2' : kd ∈ (["hang", "take"] : List Str) := by
          rcases hk with rfl | rfl | rfl | rfl
          · decide +kernel
          · decide +kernel
          · exact absurd (by decide +kernel) m1'
          · exact absurd (by decide +kernel) m1'
        refine iteFe (decide_eq_false m1') ⟨(by show 0 ≤ sizeLine; decide), fun l1 g1 => ?_⟩
        have c2 := c0.1.new (o := .lst []) g1
        obtain ⟨xs, hx1, hx2⟩ := hll.mono c2.2
        have a3 : lst.length ≤ 3 := by
          have all : ∀ a ∈ lastsL, a.length ≤ 3 := by decide +kernel
          exact all _ hlst
        have xl := dpAll_len hx2
        rw [List.length_map] at xl
        refine ⟨_, rfl, l1, ll, _, xs, rfl, rfl, c2.1.same _ _ upd_same, c2.1.same _ _ hx1, (by rw [xl]; exact Nat.le_trans (Nat.add_le_add_left a3 0) (by decide)), fun r hr => ?_⟩
        have e4 := c2.1.new (o := .lst ([] ++ xs)) hr
        exact k _ _ r lst (sG.trans (c2.2.trans e4.2)) (e4.1.mono (by omega)) ⟨_, upd_same, dpAll_mono e4.2 hx2⟩ (hl2.1 kd m2') (goodB_ok hl2.2.2.1)
theorem ok_law_program (T : Txt K mg w) : FnOk P w K mg base CX0 4 T.f_law_program T.fd_law_program ["_law_box_here", "_law_kind", "_law_modes"] (sp_program K) := by
  refine T.F_law_program.ok sc_law_program (fun vs H Q E h => ?_) (fun cdv A outer s H vs Q E hr h => ?_)
  · obtain ⟨H0, p, m, n, kd, ms, rfl, _⟩ := h
    rfl
  · obtain ⟨H0, p, m, n, kd, ms, rfl, hk, B, hm, hm0, hmz, hmok, hn, k⟩ := h
    refine ⟨_, (pss_cons (ps_set (i := 3) sc_law_program.nd rfl (Or.inl rfl) (pe_call (ok_law_base T) (hr.mono (by decide)) rfl T.m_law_base T.F_law_base.kp T.b_law_base .nil pass0 (pa_cons (pv 0) (pa_cons (pv 1) pa_nil))))
        (pss_cons (ps_for PassesOwn.never rfl (pi_range1 rfl T.z_range (pa_cons (pe_call (ok_law_take T) (hr.mono (by decide)) rfl T.m_law_take T.F_law_take.kp T.b_law_take .nil pass0 (pa_cons (pv 0) (pa_cons pe_int pa_nil))) pa_nil)) (pg_name (i := 4) sc_law_program.nd rfl (Or.inl rfl))
          (pss_cons (ps_set (i := 5) sc_law_program.nd rfl (Or.inl rfl) (pe_call (ok_law_drawn_step T) (hr.mono (by decide)) rfl T.m_law_drawn_step T.F_law_drawn_step.kp T.b_law_drawn_step .nil pass0 (pa_cons (pv 0) (pa_cons (pv 2) pa_nil))))
        (pss_cons (ps_set (i := 6) sc_law_program.nd rfl (Or.inl rfl) (pe_call (ok_law_take T) (hr.mono (by decide)) rfl T.m_law_take T.F_law_take.kp T.b_law_take .nil pass0 (pa_cons (pv 0) (pa_cons (pe_callB (id := "len") call_len_seq (by rfl) T.z_len (by decide +kernel) (pa_cons (pv 3) pa_nil)) pa_nil))))
        (pss_cons (ps_set (i := 7) sc_law_program.nd rfl (Or.inl rfl) (pe_op op_cat (pe_op op_cat (pe_slice sl_list (pv 3) po_none (po_some (pv 6))) (pe_lst (pa_cons (pv 5) pa_nil))) (pe_slice sl_list (pv 3) (po_some (pv 6)) po_none)))
        (pss_one (ps_if (pt_val (pe_call (ok_law_is_program T) hr rfl T.m_law_is_program T.F_law_is_program.kp T.b_law_is_program .nil pass0 (pa_cons (pv 7) (pa_cons (pv 1) pa_nil)))) (pss_one (ps_set (i := 3) sc_law_program.nd rfl (Or.inl rfl) (pv 7))) pss_nil))))))
        (pss_one (ps_ret (pv 3))))), ?_⟩
    refine ⟨_, rfl, _, rfl, H0, p, n, kd, rfl, hk, B, by omega, fun G1 H1 l1 ss1 s1 B1 hl1 hp1 hg0 => ?_⟩
    have hg1 : ∀ ss ∈ ss1, drawS ms ss := fun ss hs => ⟨(hg0 ss hs).1, fun e => absurd ((hg0 ss hs).2 e) List.not_mem_nil⟩
    refine ⟨_, rfl, _, p, _, 12, rfl, B1, by omega, by decide, by decide, fun z H2 z0 z1 B2 => ⟨z, rfl, by omega, by omega, for_range (fun j σ H' => ∃ (G : Hp) (l : Addr) (sss : List (List Str)) (v4 v5 v6 v7 : Option V), σ = [some (.ref p), some (.str kd), some (.ref m), some (.ref l), v4, v5, v6, v7] ∧ Same H0 G ∧ BoxIn G H' p (n + 6 + 12 * j) ∧ PL K G l sss ∧ progS kd sss = true ∧ (∀ ss ∈ sss, drawS ms ss)) ⟨G1, l1, ss1, none, none, none, none, rfl, s1, B2.mono (by omega), hl1, hp1, hg1⟩ ?_ ?_⟩⟩
    · rintro j σ H3 hj ⟨G, l, sss, v4, v5, v6, v7, rfl, sG, B3, hl, hp, hg⟩
      have hj : j < 12 := by omega
      refine ⟨_, rfl, _, rfl, G, p, m, _, ms, rfl, B3, sG _ _ hm, hm0, hmz, hmok, by omega, fun G2 H4 t ss sG2 B4 ht hs3 hsok2 => ?_⟩
      obtain ⟨hsok, hsl⟩ := hsok2
      have hl := hl.mono sG2
      have sG := sG.trans sG2
      obtain ⟨xs, hx1, hx2⟩ := hl
      have xl := dpAll_len hx2
      rw [List.length_map] at xl
      have pl := progS_len hp
      refine ⟨_, rfl, _, rfl, l, _, rfl, .inl (SqL.of (B4.same _ _ hx1)), G2, p, _, (xs.length : Nat), rfl, B4, by omega, by omega, by omega, fun y H5 y0 y1 B5 => ?_⟩
      obtain ⟨i, rfl⟩ := Int.eq_ofNat_of_zero_le y0
      have hi : i ≤ xs.length := by omega
      refine ⟨_, rfl, _, rfl, (i : Int), rfl, l, xs, rfl, SqL.of (B5.same _ _ hx1), fun a1 ha1 => ?_⟩
      rw [cut_takeV xs hi]
      have c1 := B5.new (o := .lst (xs.take i)) ha1
      refine ⟨_, rfl, (by show 1 ≤ sizeLine; decide), fun a2 ha2 => ?_⟩
      have c2 := c1.1.new (o := .lst [.ref t]) ha2
      have lt : (xs.take i).length ≤ 12 := by rw [List.length_take]; omega
      refine ⟨a1, a2, _, _, rfl, rfl, c2.1.same _ _ (c2.2 _ _ upd_same), c2.1.same _ _ upd_same, Nat.le_trans (Nat.add_le_add_right lt 1) (by decide), fun a3 ha3 => ?_⟩
      have c3 := c2.1.new (o := .lst (xs.take i ++ [.ref t])) ha3
      have m12 := c1.2.trans (c2.2.trans c3.2)
      refine ⟨_, rfl, _, rfl, (i : Int), rfl, l, xs, rfl, SqL.of (c3.1.same _ _ (m12 _ _ hx1)), fun a4 ha4 => ?_⟩
      rw [cut_dropV xs hi]
      have c4 := c3.1.new (o := .lst (xs.drop i)) ha4
      have ld : (xs.drop i).length ≤ 12 := by rw [List.length_drop]; omega
      have l3 : (xs.take i ++ [V.ref t]).length ≤ 13 := by rw [List.length_append]; show _ + 1 ≤ 13; omega
      refine ⟨a3, a4, _, _, rfl, rfl, c4.1.same _ _ (c4.2 _ _ upd_same), c4.1.same _ _ upd_same, Nat.le_trans (Nat.add_le_add l3 ld) (by decide), fun a5 ha5 => ?_⟩
      have c5 := c4.1.new (o := .lst (xs.take i ++ [.ref t] ++ xs.drop i)) ha5
      have m15 := m12.trans (c4.2.trans c5.2)
      have hg2 : ∀ x ∈ sss.take i ++ [ss] ++ sss.drop i, drawS ms x := fun x hx => by
        rcases List.mem_append.mp hx with q | q
        · rcases List.mem_append.mp q with q | q
          · exact hg x (List.mem_of_mem_take q)
          · rw [List.mem_singleton.mp q]
            exact ⟨⟨hs3, hsok⟩, hsl⟩
        · exact hg x (List.mem_of_mem_drop q)
      have pl5 : PL K _ a5 (sss.take i ++ [ss] ++ sss.drop i) := ⟨_, upd_same, by
        rw [List.map_append, List.map_append, List.map_take, List.map_drop]
        exact dpAll_app (dpAll_app (dpAll_take i (dpAll_mono m15 hx2)) (.cons (dp_tup1 (m15 _ _ ht)) .nil)) (dpAll_drop i (dpAll_mono m15 hx2))⟩
      have hlen2 : (sss.take i ++ [ss] ++ sss.drop i).length ≤ 100 := by
        simp only [List.length_append, List.length_take, List.length_drop, List.length_cons, List.length_nil]
        omega
      obtain ⟨vd, pok⟩ := good_list (fun x hx => (hg2 x hx).1) hlen2 (pl5.mono c5.1.same)
      refine ⟨_, rfl, _, rfl, .ref a5, _, kd, rfl, vd, pok, hk, fun H6 s6 => ⟨_, rfl, ?_⟩⟩
      have B6 := (c5.1.keep s6)
      have sG6 := sG.trans m15
      show if progS kd (sss.take i ++ [ss] ++ sss.drop i) = true then _ else _
      cases q : progS kd (sss.take i ++ [ss] ++ sss.drop i) with
      | true => exact iteT ⟨_, rfl, _, a5, _, _, _, _, _, rfl, sG6, B6.mono (by omega), pl5, q, hg2⟩
      | false => exact iteF ⟨_, l, sss, _, _, _, _, rfl, sG6, B6.mono (by omega), ⟨xs, m15 _ _ hx1, dpAll_mono m15 hx2⟩, hp, hg⟩
    · rintro σ H3 ⟨G, l, sss, v4, v5, v6, v7, rfl, sG, B3, hl, hp, hg⟩
      exact ⟨_, rfl, k G H3 l sss sG (B3.mono (by omega)) hl hp hg⟩
theorem ok_standard (T : Txt K mg w) : FnOk P w K mg base CX0 7 T.f_standard T.fd_standard [] (sp_std K T.C_Strengths) := by
  refine T.F_standard.ok sc_standard (fun vs H Q E h => ?_) (fun cdv A outer s H vs Q E hr h => ?_)
  · obtain ⟨rfl, _⟩ := h
    rfl
  · obtain ⟨rfl, k⟩ := h
    refine ⟨_, (pss_cons (ps_set (i := 0) sc_standard.nd rfl (Or.inl rfl) (pe_lst (pa_cons (pe_tup (pa_cons pe_str (pa_cons pe_str pa_nil))) (pa_cons (pe_tup (pa_cons pe_str (pa_cons pe_str pa_nil))) (pa_cons (pe_tup (pa_cons pe_str (pa_cons pe_str pa_nil))) (pa_cons (pe_tup (pa_cons pe_str (pa_cons pe_str pa_nil))) (pa_cons (pe_tup (pa_cons pe_str (pa_cons pe_str pa_nil))) pa_nil)))))))
        (pss_one (ps_ret (pe_makeS T.mk_Strengths (ok_Strengths_init T) hr rfl T.g_Strengths T.b_Strengths_init (passAt_of passLK) (pa_cons (pe_lst (pa_cons pe_str (pa_cons pe_str (pa_cons pe_str (pa_cons pe_str pa_nil))))) (pa_cons (pv 0) pa_nil)))))), ?_⟩
    have z2 : 2 ≤ sizeLine := by decide
    refine ⟨z2, fun t1 n1 => ⟨z2, fun t2 n2 => ⟨z2, fun t3 n3 => ⟨z2, fun t4 n4 => ⟨z2, fun t5 n5 => ?_⟩⟩⟩⟩⟩
    have z5 : 5 ≤ sizeLine := by decide
    have z4 : 4 ≤ sizeLine := by decide
    have e1 := same_new (o := .tup [.str "read", .str "alone"]) n1
    have e2 := same_new (o := .tup [.str "write", .str "share"]) n2
    have e3 := same_new (o := .tup [.str "write", .str "alone"]) n3
    have e4 := same_new (o := .tup [.str "share", .str "alone"]) n4
    have e5 := same_new (o := .tup [.str "alone", .str "alone"]) n5
    refine ⟨z5, fun l hl => ⟨z4, fun m hm => ⟨_, rfl, fun x dx hx hdx ne => ?_⟩⟩⟩
    have e6 := same_new (o := .lst [.ref t1, .ref t2, .ref t3, .ref t4, .ref t5]) hl
    have e7 := same_new (o := .lst (stdMs.map V.str)) hm
    have a5 := e6.trans e7
    have a4 := e5.trans a5
    have a3 := e4.trans a4
    have a2 := e3.trans a3
    have a1 := e2.trans a2
    have a0 := e1.trans a1
    have g1 := a1 _ _ (upd_same (H := H) (a := t1) (o := .tup [.str "read", .str "alone"]))
    have g2 := a2 t2 _ upd_same
    have g3 := a3 t3 _ upd_same
    have g4 := a4 t4 _ upd_same
    have g5 := a5 t5 _ upd_same
    have gl := e7 l _ upd_same
    have sA := e1.trans (e2.trans (e3.trans (e4.trans (e5.trans a5))))
    have gm : _ = some (HO.lst (stdMs.map V.str)) := upd_same (H := upd (upd (upd (upd (upd (upd H t1 (.tup [.str "read", .str "alone"])) t2 (.tup [.str "write", .str "share"])) t3 (.tup [.str "write", .str "alone"])) t4 (.tup [.str "share", .str "alone"])) t5 (.tup [.str "alone", .str "alone"])) l (.lst [.ref t1, .ref t2, .ref t3, .ref t4, .ref t5])) (a := m)
    have hn : ∀ s ∈ stdMs, nameS s = true := by decide +kernel
    have nd : stdMs.Nodup := by decide +kernel
    have okp : okPs stdMs stdPs := ⟨by decide, by decide +kernel⟩
    have sB : Same _ (but (upd (upd _ dx (.own x)) x (.ins T.C_Strengths dx [])) x) := fun b u (e : (upd (upd (upd (upd (upd (upd (upd H t1 (.tup [.str "read", .str "alone"])) t2 (.tup [.str "write", .str "share"])) t3 (.tup [.str "write", .str "alone"])) t4 (.tup [.str "share", .str "alone"])) t5 (.tup [.str "alone", .str "alone"])) l (.lst [.ref t1, .ref t2, .ref t3, .ref t4, .ref t5])) m (.lst (stdMs.map V.str))) b = some u) => by
      rw [but_ne (ne_of_none e hx), upd_ne (ne_of_none e hx), upd_ne (ne_of_none e hdx)]
      exact e
    refine ⟨x, dx, .ref m, .ref l, none, stdMs, rfl, upd_same, .ok (SqL.of (sB _ _ gm)) hn nd (by decide), (fun q e => nomatch e), fun _ => ⟨none, stdPs, carg_ok hn (SqL.of (sB _ _ gl)) (ps := stdPs) ?_ okp, (fun q e => nomatch e), fun _ H' hk off => ⟨rfl, k H' x (fun b u e => hk b u ?_ (ne_of_none (sA _ _ e) hx)) off.at_⟩⟩⟩
    · exact .cons (.tup (SqT.of (sB _ _ g1)) (.cons (.str _) (.cons (.str _) .nil))) (.cons (.tup (SqT.of (sB _ _ g2)) (.cons (.str _) (.cons (.str _) .nil))) (.cons (.tup (SqT.of (sB _ _ g3)) (.cons (.str _) (.cons (.str _) .nil))) (.cons (.tup (SqT.of (sB _ _ g4)) (.cons (.str _) (.cons (.str _) .nil))) (.cons (.tup (SqT.of (sB _ _ g5)) (.cons (.str _) (.cons (.str _) .nil))) .nil))))
    · have e' := sA _ _ e
      rw [upd_ne (ne_of_none e' hx), upd_ne (ne_of_none e' hdx)]
      exact e'
theorem ok_law_ordered (T : Txt K mg w) : FnOk P w K mg base CX0 2 T.f_law_ordered T.fd_law_ordered ["_law_programs_here"] (sp_lordered K) := by
  refine T.F_law_ordered.ok sc_law_ordered (fun vs H Q E h => ?_) (fun cdv A outer s H vs Q E hr h => ?_)
  · obtain ⟨pd, kvs, rows, rfl, _⟩ := h
    rfl
  · obtain ⟨pd, kvs, rows, rfl, hp, en, k⟩ := h
    refine ⟨_, (pss_one (ps_ret (pe_lc (own := [("_law_kind", 1)]) (g := gName 1) rfl sc_law_ordered.nd (pi_list (pe_call0 (ok_law_kinds T) hr rfl T.m_law_kinds T.F_law_kinds.kp T.b_law_kinds .nil pass0)) (blkOk_by (own := [("_law_kind", 1)]) (N := ["_law_programs_here", "_law_kind"]) (sc := defScope s_law_ordered) (by decide +kernel)) (fun _ _ _ _ _ => (pg_name (i := 1) sc_law_ordered.nd rfl (Or.inl rfl))) (fun _ _ _ _ _ => (pts_one (pt_cmp (pc_din (hu_of hr) (pv 1) (pv 0))))) (fun _ _ _ _ _ => (pv 1))))), ?_⟩
    refine ⟨rfl, fun kq hkq => ⟨kq, rfl, ⟨_, SqL.of upd_same⟩, fun D hD => ?_⟩⟩
    have s1 := same_new (o := .lst (kindsL.map V.str)) hkq
    have hk1 : (upd H kq (.lst (kindsL.map V.str))) kq = some (.lst (kindsL.map V.str)) := upd_same
    generalize upd H kq (.lst (kindsL.map V.str)) = H1 at s1 hk1 hD
    refine lc_acc (walk_list (xs := kindsL.map V.str)) hD (fun H' s' => SqL.of (s' _ _ hk1)) (fun i => ((kindsL.take i).filter fun k => (findR rows k).isSome).map V.str) rfl (fun i hi => ?_) ?_ ?_
    · rw [List.length_map]
      exact Nat.lt_of_le_of_lt (Nat.le_trans (List.length_filter_le _ _) (List.length_take_le _ _)) (Nat.lt_of_lt_of_le hi (by decide))
    · rintro i y H2 hi hy s2 R S r1 r2
      rw [List.getElem?_map] at hy
      obtain ⟨k', hk, rfl⟩ := Option.map_eq_some_iff.mp hy
      have kin := entsP_in en k'
      refine ⟨rfl, _, rfl, _, rfl, pd, _, rfl, .inl ⟨kvs, .inr k', .inl (s2 _ _ (s1 _ _ hp)), rfl, rfl⟩, _, rfl, ?_⟩
      rw [kin]
      have nx : (kindsL.take (i + 1)).filter (fun k => (findR rows k).isSome) = (kindsL.take i).filter (fun k => (findR rows k).isSome) ++ if (findR rows k').isSome = true then [k'] else [] := by
        rw [List.take_add_one, hk, List.filter_append, Option.toList_some, List.filter_cons, List.filter_nil]
      cases f : (findR rows k').isSome with
      | false =>
        refine iteF (r2 _ ?_ (Same.refl _))
        rw [nx, f, if_neg (by decide), List.append_nil]
      | true =>
        refine iteT ⟨_, rfl, r1 _ _ ?_ (Same.refl _)⟩
        rw [nx, f, if_pos rfl, List.map_append]
        rfl
    · intro H2 s2 hD2
      rw [show ((kindsL.map V.str).length : Nat) = kindsL.length from List.length_map .., List.take_length] at hD2
      exact k _ _ (s1.trans s2) (s1.free hD) hD2
theorem ok_law_places (T : Txt K mg w) : FnOk P w K mg base CX0 1 T.f_law_places T.fd_law_places ["_law_modes", "_law_pair"] (sp_lplaces K) := by
  refine T.F_law_places.ok sc_law_places (fun vs H Q E h => ?_) (fun cdv A outer s H vs Q E hr h => ?_)
  · obtain ⟨m, t, ms, a, b, rfl, _⟩ := h
    rfl
  · obtain ⟨m, t, ms, a, b, rfl, hm, ht, ha, hb, hl, k⟩ := h
    refine ⟨_, (pss_one (ps_ret (pe_lst (pa_cons (pe_bm PySem.F.plainAttrs_list PySem.F.slot_list_index PySem.F.type_list_index mt_index (pv 0) (pa_cons (pe_ix ix_tup (pv 1) pe_int (fun _ _ => rfl)) pa_nil)) (pa_cons (pe_bm PySem.F.plainAttrs_list PySem.F.slot_list_index PySem.F.type_list_index mt_index (pv 0) (pa_cons (pe_ix ix_tup (pv 1) pe_int (fun _ _ => rfl)) pa_nil)) pa_nil))))), ?_⟩
    obtain ⟨a1, a2, a3⟩ := idx_reads ha
    obtain ⟨b1, b2, b3⟩ := idx_reads hb
    refine ⟨_, rfl, (.inl ⟨rfl, _, hm⟩), _, rfl, t, _, 0, .str a, rfl, rfl, ht, rfl, m, _, .str a, _, _, rfl, rfl, hm, rfl, flat_strs ms, a1, a2, a3, ?_⟩
    exact ⟨_, rfl, (.inl ⟨rfl, _, hm⟩), _, rfl, t, _, 1, .str b, rfl, rfl, ht, rfl, m, _, .str b, _, _, rfl, rfl, hm, rfl, flat_strs ms, b1, b2, b3, by show 2 ≤ sizeLine; decide, fun q hq => k _ q (same_new hq) hq upd_same⟩
theorem ok_law_told (T : Txt K mg w) : FnOk P w K mg base CX0 11 T.f_law_told T.fd_law_told ["_law_value"] (sp_ltold24 K T.C_Strengths T.C_Rulebook) := by
  refine T.F_law_told.ok sc_law_told (fun vs H Q E h => ?_) (fun cdv A outer s H vs Q E hr h => ?_)
  · obtain ⟨v, o, rfl, _⟩ := h
    rfl
  · obtain ⟨v, o, rfl, hv, k1, k2⟩ := h
    refine ⟨_, (pss_one (ps_try_manyAs (i := 1) (n := "e") rfl rfl sc_law_told.nd rfl rfl takes0 (fun W pn xe tk _ => by exact (pss_one (ps_ret (pe_lst (pa_cons pe_str (pa_cons (pe_callS (ok_read_protocol T) hr rfl T.m_read_protocol T.F_read_protocol.kp T.b_read_protocol (fun σ => passAt tk σ) (pa_cons (pv 0) pa_nil)) pa_nil))))))
          (HdsAs.cons ⟨rfl, by decide, Or.inl T.g_InvalidText⟩ (fun a oe cls d pn hz hf => by exact (pss_one (ps_ret (pe_lst (pa_cons pe_str (pa_cons (pe_xf T.y_InvalidText T.n_InvalidText hz hf (pv 1)) pa_nil)))))) HdsAs.nil))), ?_⟩
    have z2 : (2 : Nat) ≤ sizeLine := by decide
    have lk : List.lookup ("value" : Str) [(("value" : Str), v)] = some v := by simp [List.lookup]
    refine ⟨_, rfl, v, o, rfl, hv, fun t ms ps rows e1 e2 H' x s' st => ⟨z2, fun q hq => k1 t ms ps rows e1 e2 _ q x (s'.trans (same_new hq)) upd_same (st.mono (same_new hq))⟩, fun non => ?_⟩
    intro d H' nd hd sm
    exact ⟨true, T.e_InvalidText_InvalidText, fun _ a ha => ⟨_, rfl, rfl, rfl, d, _, v, rfl, hd, lk, z2, fun p hp => k2 non _ p (sm.trans (same_new hp)) upd_same⟩, fun q => nomatch q⟩
theorem ok_law_bent (T : Txt K mg w) : FnOk P w K mg base CX0 2 T.f_law_bent T.fd_law_bent ["_law_box_here", "_law_text_here"] sp_lbent24 := by
  refine T.F_law_bent.ok sc_law_bent (fun vs H Q E h => ?_) (fun cdv A outer s H vs Q E hr h => ?_)
  · obtain ⟨H0, p, n, t, rfl, _⟩ := h
    rfl
  · obtain ⟨H0, p, n, t, rfl, B, ht, hl, hn, k⟩ := h
    refine ⟨_, (pss_cons (ps_set (i := 2) sc_law_bent.nd rfl (Or.inl rfl) (pe_call (ok_law_take T) hr rfl T.m_law_take T.F_law_take.kp T.b_law_take .nil pass0 (pa_cons (pv 0) (pa_cons (pe_op op_add (pe_callB (id := "len") call_len_str (by rfl) T.z_len (by decide +kernel) (pa_cons (pv 1) pa_nil)) pe_int) pa_nil))))
        (pss_cons (ps_set (i := 3) sc_law_bent.nd rfl (Or.inl rfl) (pe_ix ix_list (pe_lst (pa_cons pe_str (pa_cons pe_str (pa_cons pe_str (pa_cons pe_str (pa_cons pe_str (pa_cons pe_str (pa_cons pe_str (pa_cons pe_str (pa_cons pe_str (pa_cons pe_str pa_nil))))))))))) (pe_call (ok_law_take T) hr rfl T.m_law_take T.F_law_take.kp T.b_law_take .nil pass0 (pa_cons (pv 0) (pa_cons pe_int pa_nil))) (fun _ _ => rfl)))
        (pss_cons (ps_par (i := 4) (j := 5) (by rfl) sc_law_bent.nd rfl rfl (by decide) rfl rfl (pa_cons (pe_slice sl_str (pv 1) po_none (po_some (pv 2))) (pa_cons (pe_slice sl_str (pv 1) (po_some (pe_op op_add (pv 2) pe_int)) po_none) pa_nil)) (by rfl))
        (pss_cons (ps_set (i := 6) sc_law_bent.nd rfl (Or.inl rfl) (pe_split (pv 1) pe_str))
        (pss_cons (ps_set (i := 7) sc_law_bent.nd rfl (Or.inl rfl) (pe_join pe_str (pe_op op_cat (pe_slice sl_list (pv 6) po_none (po_some pe_int)) (pe_rev (pe_slice sl_list (pv 6) (po_some pe_int) po_none) (po_some (pe_un un_neg pe_int))))))
        (pss_one (ps_ret (pe_ix ix_list (pe_lst (pa_cons (pe_op op_add_str (pe_op op_add_str (pv 4) (pv 3)) (pe_slice sl_str (pv 1) (po_some (pv 2)) po_none)) (pa_cons (pe_op op_add_str (pv 4) (pv 5)) (pa_cons (pe_op op_add_str (pe_op op_add_str (pv 4) (pv 3)) (pv 5)) (pa_cons (pv 7) pa_nil))))) (pe_call (ok_law_take T) hr rfl T.m_law_take T.F_law_take.kp T.b_law_take .nil pass0 (pa_cons (pv 0) (pa_cons pe_int pa_nil))) (fun _ _ => rfl))))))))), ?_⟩
    have hz : t.length ≤ sizeLine := Nat.le_trans hl (by decide)
    refine ⟨_, rfl, _, rfl, t, rfl, hz, _, _, rfl, rfl, H0, p, n, _, rfl, B, by omega, by omega, by omega, fun z1 H1 z10 z11 B1 => ?_⟩
    obtain ⟨i, rfl⟩ := Int.eq_ofNat_of_zero_le z10
    refine ⟨(by show 10 ≤ sizeLine; decide), fun l hl1 => ?_⟩
    have b1 := B1.new (o := .lst (([" ", "a", ", ", "\n", ": ", "look, ", "end", ", end", "\nput: ", "zzz"] : List Str).map V.str)) hl1
    refine ⟨_, rfl, _, p, _, 10, rfl, b1.1, by omega, by decide, by decide, fun z2 H2 z20 z21 B2 => ?_⟩
    obtain ⟨mv, hv, hmv⟩ := atI_in (xs := ([" ", "a", ", ", "\n", ": ", "look, ", "end", ", end", "\nput: ", "zzz"] : List Str).map V.str) z20 z21
    obtain ⟨mo, hmo, rfl⟩ := List.mem_map.mp hmv
    have all : ∀ s ∈ ([" ", "a", ", ", "\n", ": ", "look, ", "end", ", end", "\nput: ", "zzz"] : List Str), sOk 6 s := by
      unfold sOk
      decide +kernel
    have ok5 := all mo hmo
    refine ⟨l, _, z2, .str mo, rfl, rfl, SqL.of (B2.same _ _ upd_same), hv, ?_⟩
    have B3 := B2.low b1.2
    have e1 : (i : Int) + 1 = ((i + 1 : Nat) : Int) := by omega
    refine ⟨_, rfl, _, rfl, _, rfl, t, rfl, hz, _, rfl, _, rfl, _, _, rfl, rfl, _, rfl, t, rfl, hz, _, _, rfl, ?_⟩
    refine ⟨_, rfl, ⟨t, rfl⟩, t, "\n", rfl, rfl, by decide +kernel, Nat.le_trans (Nat.add_le_add_right ht.1 2) (by show 100002 ≤ sizeLine; decide), fun l6 h6 => ?_⟩
    have c6 := B3.new (o := .lst ((Txt.split t "\n").map V.str)) h6
    have g6 : (upd H2 l6 (.lst ((Txt.split t "\n").map V.str))) l6 = some (.lst ((Txt.split t "\n").map V.str)) := upd_same
    generalize upd H2 l6 (.lst ((Txt.split t "\n").map V.str)) = H6 at c6 g6
    refine ⟨⟨_, rfl⟩, _, rfl, _, rfl, l6, _, rfl, SqL.of g6, fun q1 h1 => ?_⟩
    have c7 := c6.1.new (o := .lst (cutV ((Txt.split t "\n").map V.str) none (some 1))) h1
    have g61 := same_new (o := .lst (cutV ((Txt.split t "\n").map V.str) none (some 1))) h1 _ _ g6
    have g7 : (upd H6 q1 (.lst (cutV ((Txt.split t "\n").map V.str) none (some 1)))) q1 = some (.lst (cutV ((Txt.split t "\n").map V.str) none (some 1))) := upd_same
    generalize upd H6 q1 (.lst (cutV ((Txt.split t "\n").map V.str) none (some 1))) = H7 at c7 g61 g7
    refine ⟨_, rfl, _, rfl, l6, _, rfl, SqL.of g61, fun q2 h2 => ?_⟩
    have c8 := c7.1.new (o := .lst (cutV ((Txt.split t "\n").map V.str) (some 1) none)) h2
    have s8 := same_new (o := .lst (cutV ((Txt.split t "\n").map V.str) (some 1) none)) h2
    have g8 : (upd H7 q2 (.lst (cutV ((Txt.split t "\n").map V.str) (some 1) none))) q2 = some (.lst (cutV ((Txt.split t "\n").map V.str) (some 1) none)) := upd_same
    generalize upd H7 q2 (.lst (cutV ((Txt.split t "\n").map V.str) (some 1) none)) = H8 at c8 s8 g8
    obtain ⟨first, lines, ew⟩ := nl_cons t
    obtain ⟨ao, al, as⟩ := about_ok ht ew
    rw [ew] at g7 g8
    have k7 : cutV ((first :: lines).map V.str) none (some 1) = [.str first] := cut_takeV _ (i := 1) (by simp)
    have k8 : cutV ((first :: lines).map V.str) (some 1) none = lines.map V.str := cut_drop1 _
    rw [k7] at g7
    rw [k8] at g8
    have wl := (split_ok split_nl ht).2
    rw [ew, List.length_cons] at wl
    refine ⟨_, rfl, _, rfl, q2, _, rfl, rfl, SqL.of g8, fun q3 h3 => ?_⟩
    have c9 := c8.1.new (o := .lst (lines.map V.str).reverse) h3
    have g79 := same_new (o := .lst (lines.map V.str).reverse) h3 _ _ (s8 _ _ g7)
    have g9 : (upd H8 q3 (.lst (lines.map V.str).reverse)) q3 = some (.lst (lines.map V.str).reverse) := upd_same
    generalize upd H8 q3 (.lst (lines.map V.str).reverse) = H9 at c9 g79 g9
    refine ⟨q1, q3, _, _, rfl, rfl, g79, g9, by rw [List.length_reverse, List.length_map]; exact Nat.le_trans (by simp; omega) (show 100001 ≤ sizeLine by decide), fun q4 h4 => ?_⟩
    have c10 := c9.1.new (o := .lst ([.str first] ++ (lines.map V.str).reverse)) h4
    have g10 : (upd H9 q4 (.lst ([.str first] ++ (lines.map V.str).reverse))) q4 = some (.lst ([.str first] ++ (lines.map V.str).reverse)) := upd_same
    generalize upd H9 q4 (.lst ([.str first] ++ (lines.map V.str).reverse)) = H10 at c10 g10
    have ey : [.str first] ++ (lines.map V.str).reverse = (first :: lines.reverse).map V.str := by
      rw [List.map_cons, List.map_reverse]
      rfl
    rw [ey] at g10
    refine ⟨"\n", q4, first :: lines.reverse, rfl, rfl, .inl (SqL.of g10), as, ?_⟩
    generalize Txt.join "\n" (first :: lines.reverse) = ab at ao al
    rw [e1]
    have lh := cutl t i
    have lt := cutr t (i + 1)
    have lr := cutr t i
    have tok : sOk t.length t := ⟨Nat.le_refl _, ht.2⟩
    have oh := (tok.cut none (some (i : Int))).2
    have ot := (tok.cut (some ((i + 1 : Nat) : Int)) none).2
    have orr := (tok.cut (some (i : Int)) none).2
    have lm := ok5.1
    have hm := ok5.2
    generalize hH : cutS t none (some (i : Int)) = hd at lh oh
    generalize hT : cutS t (some ((i + 1 : Nat) : Int)) none = tl at lt ot
    generalize hR : cutS t (some (i : Int)) none = rs at lr orr
    have z9 : 1000000 ≤ sizeLine := by decide
    have il : i ≤ t.length := by omega
    have f1 : (hd ++ mo).length = hd.length + mo.length := Str.length_append _ _
    refine ⟨_, rfl, _, rfl, _, _, rfl, rfl, by omega, _, rfl, _, rfl, _, rfl, t, rfl, hz, _, _, rfl, rfl, ?_, _, rfl, _, rfl, _, _, rfl, rfl, by omega, _, rfl, _, rfl, _, _, rfl, rfl, by omega, _, rfl, _, _, rfl, rfl, by omega, _, rfl, (by show 4 ≤ sizeLine; decide), fun l2 hl2 => ?_⟩
    · rw [hR]
      omega
    rw [hR]
    have b4 := c10.1.new (o := .lst (([(hd ++ mo) ++ rs, hd ++ tl, (hd ++ mo) ++ tl, ab] : List Str).map V.str)) hl2
    refine ⟨_, rfl, _, p, _, 4, rfl, b4.1, by omega, by decide, by decide, fun z3 H3 z30 z31 B5 => ?_⟩
    obtain ⟨uv, hu, hmu⟩ := atI_in (xs := ([(hd ++ mo) ++ rs, hd ++ tl, (hd ++ mo) ++ tl, ab] : List Str).map V.str) z30 z31
    obtain ⟨u, hu2, rfl⟩ := List.mem_map.mp hmu
    refine ⟨l2, _, z3, .str u, rfl, rfl, SqL.of (B5.same _ _ upd_same), hu, ?_⟩
    have o1 : sOk hd.length hd := ⟨Nat.le_refl _, oh⟩
    have o2 : sOk mo.length mo := ⟨Nat.le_refl _, hm⟩
    have o3 : sOk tl.length tl := ⟨Nat.le_refl _, ot⟩
    have o4 : sOk rs.length rs := ⟨Nat.le_refl _, orr⟩
    have fin : sOk (t.length + 10) u := by
      simp only [List.mem_cons, List.not_mem_nil, or_false] at hu2
      rcases hu2 with rfl | rfl | rfl | rfl
      · exact ((o1.app o2).app o4).mono (by omega)
      · exact (o1.app o3).mono (by omega)
      · exact ((o1.app o2).app o3).mono (by omega)
      · exact ⟨by omega, ao.2⟩
    have all := ((((B5.low b4.2).low c10.2).low c9.2).low c8.2).low c7.2
    exact k _ u ((all.low c6.2).mono (by omega)) ⟨Nat.le_trans fin.1 (by omega), fin.2⟩ fin.1
theorem ok_law_text (T : Txt K mg w) : FnOk P w K mg base CX0 3 T.f_law_text T.fd_law_text ["_law_model"] (sp_ltext24 K) := by
  refine T.F_law_text.ok sc_law_text (fun vs H Q E h => ?_) (fun cdv A outer s H vs Q E hr h => ?_)
  · obtain ⟨g, l1, l2, pd, ms, ps, rows, rfl, _⟩ := h
    rfl
  · obtain ⟨g, l1, l2, pd, ms, ps, rows, rfl, ⟨hg, h1, ⟨xs, h2, dx⟩, kvs, hp, en⟩, hn, hl, pm, p40, rk, k⟩ := h
    refine ⟨_, (pss_cons (ps_asg (pv 0) (pg_lst rfl (pgs_cons (pg_name (i := 1) sc_law_text.nd rfl (Or.inl rfl)) (pgs_cons (pg_name (i := 2) sc_law_text.nd rfl (Or.inl rfl)) (pgs_cons (pg_name (i := 3) sc_law_text.nd rfl (Or.inl rfl)) pgs_nil)))))
        (pss_cons (ps_set (i := 4) sc_law_text.nd rfl (Or.inl rfl) (pe_join pe_str (pv 1)))
        (pss_cons (ps_set (i := 5) sc_law_text.nd rfl (Or.inl rfl) (pe_join pe_str (pe_lc (own := [("_law_one", 7), ("_law_other", 8)]) (g := gTup K 2 (gCons (gName 7) (gCons (gName 8) gNil))) (tt := tYes) rfl sc_law_text.nd (pi_list (pv 2)) (blkOk_by (own := [("_law_one", 7), ("_law_other", 8)]) (N := ["_law_model", "_law_modes", "_law_pairs", "_law_programs_here", "_law_text_here", "_law_told_here", "_law_kind", "_law_one", "_law_other", "_law_step"]) (sc := defScope s_law_text) (by decide +kernel)) (fun _ _ _ _ _ => (pg_tup rfl (pgs_cons (pg_name (i := 7) sc_law_text.nd rfl (Or.inl rfl)) (pgs_cons (pg_name (i := 8) sc_law_text.nd rfl (Or.inl rfl)) pgs_nil)))) (fun _ _ _ _ _ => pts_nil) (fun _ _ _ _ _ => (pe_op op_add_str (pe_op op_add_str (pv 7) pe_str) (pv 8))))))
        (pss_cons (ps_set (i := 4) sc_law_text.nd rfl (Or.inl rfl) (pe_op op_add_str (pv 4) (pe_ifExp (pt_cmpR op_ne (pv 5) pe_str (nomark _)) (pe_op op_add_str pe_str (pv 5)) pe_str)))
        (pss_cons (ps_for PassesOwn.never rfl (pi_list (pe_call (ok_law_ordered T) hr rfl T.m_law_ordered T.F_law_ordered.kp T.b_law_ordered .nil pass0 (pa_cons (pv 3) pa_nil))) (pg_name (i := 6) sc_law_text.nd rfl (Or.inl rfl))
          (pss_one (ps_set (i := 4) sc_law_text.nd rfl (Or.inl rfl) (pe_op op_add_str (pe_op op_add_str (pe_op op_add_str (pe_op op_add_str (pv 4) pe_str) (pv 6)) pe_str) (pe_join pe_str (pe_lc (own := [("_law_step", 9)]) (g := gName 9) (tt := tYes) rfl sc_law_text.nd (pi_list (pe_dget (hu_of hr) (pv 3) (pv 6) (fun _ _ => rfl))) (blkOk_by (own := [("_law_step", 9)]) (N := ["_law_model", "_law_modes", "_law_pairs", "_law_programs_here", "_law_text_here", "_law_told_here", "_law_kind", "_law_one", "_law_other", "_law_step"]) (sc := defScope s_law_text) (by decide +kernel)) (fun _ _ _ _ _ => (pg_name (i := 9) sc_law_text.nd rfl (Or.inl rfl))) (fun _ _ _ _ _ => pts_nil) (fun _ _ _ _ _ => (show PE _ _ (tM1 (rJoinK K) _ _) from (pe_join pe_str (pv 9))))))))))
        (pss_one (ps_ret (pv 4)))))))), ?_⟩
    have z1 : ("!" : Str).length = 1 := by decide +kernel
    have zs : (" " : Str).length = 1 := by decide +kernel
    have zc : (": " : Str).length = 2 := by decide +kernel
    have z4 : 100000 ≤ sizeLine := by decide
    have p1 : ∀ y ∈ ms, y.length ≤ 17 := fun y hy => Nat.le_trans (nameS_len (hn y hy)) (by decide)
    have tl : ∀ p ∈ ps, (prT p).length ≤ 17 := fun p hp => by
      have h1 := nameS_len (hn _ (pm p hp).1)
      have h2 := nameS_len (hn _ (pm p hp).2)
      rw [prT_eq, Str.length_append, Str.length_append]
      omega
    have p2 : ∀ y ∈ ps.map prT, y.length ≤ 17 := fun y hy => by
      obtain ⟨p, hp, rfl⟩ := List.mem_map.mp hy
      exact tl p hp
    have b1 := join_le (a := " ") (m := 64) p1 (by omega) (by omega)
    have b2 := join_le (a := " ") (m := 64) p2 (by rw [List.length_map]; omega) (by omega)
    have j1 := join_len (" " : Str) ms
    have j2 := join_len (" " : Str) (ps.map prT)
    have xl := dpAll_len dx
    rw [List.length_map] at xl
    refine ⟨_, rfl, g, _, rfl, hg, rfl, _, _, rfl, _, _, rfl, _, _, rfl, rfl, ?_⟩
    refine ⟨⟨_, rfl⟩, _, rfl, " ", l1, ms, rfl, rfl, .inl h1, Nat.le_trans b1 (by decide), ?_⟩
    refine ⟨⟨_, rfl⟩, _, rfl, l2, rfl, ⟨_, h2⟩, fun D hD => ?_⟩
    refine lc_acc walk_list hD (fun H' s' => s'.seq h2) (fun i => ((ps.take i).map prT).map V.str) rfl (fun i hi => ?_) ?_ ?_
    · rw [List.length_map, List.length_map, List.length_take]
      exact Nat.lt_of_le_of_lt (Nat.le_trans (Nat.min_le_right _ _) p40) (by decide)
    · rintro i y H2 hi hy s2 R S r1 r2
      obtain ⟨t, p, rfl, hp, ht⟩ := prs_at dx hy
      have hpm := List.mem_of_getElem? hp
      have h1 := nameS_len (hn _ (pm p hpm).1)
      have h2 := nameS_len (hn _ (pm p hpm).2)
      refine ⟨t, _, rfl, same_t s2 ht, rfl, _, _, rfl, _, _, rfl, rfl, rfl, tyes ⟨_, rfl, _, _, rfl, rfl, by omega, _, rfl, _, _, rfl, rfl, by rw [Str.length_append]; omega, r1 _ _ ?_ (Same.refl _)⟩⟩
      rw [List.take_add_one, hp, List.map_append, List.map_append, ← prT_eq]
      rfl
    intro H2 s2 hD2
    have hD2 : H2 D = some (.lst (((ps.take xs.length).map prT).map V.str)) := hD2
    rw [xl, List.take_length] at hD2
    refine ⟨" ", D, _, rfl, rfl, .inl (SqL.of hD2), Nat.le_trans b2 (by decide), ?_⟩
    have ee : ("" : Str) = Str.empty := by decide +kernel
    have tlen := told_len hn hl.2 hl.1 pm p40
    refine ⟨_, rfl, _, rfl, rfl, _, rfl, ?_⟩
    by_cases c : ps = []
    · subst c
      refine iteFe (by rw [ee, show Txt.join " " (([] : List Pr).map prT) = Str.empty from join_nil _]; decide +kernel) ⟨_, _, rfl, rfl, ?_, ?_⟩
      · rw [ee]
        exact Nat.le_trans (show (Txt.join " " ms).length + 0 ≤ 100000 by omega) z4
      · rw [ee, text_none]
        have zn : ("\n" : Str).length = 1 := by decide +kernel
        have cshort : ∀ r ∈ canon rows, shortR r := fun r hr => by
          have hm := findR_mem (canon_mem hr).2
          exact row_short (rk _ hm).1 (rk _ hm).2
        refine ⟨_, rfl, pd, kvs, rows, rfl, s2 _ _ hp, en.mono s2, fun H3 qo s3 no ho => ⟨qo, rfl, ⟨_, SqL.of ho⟩, for_it walk_list (fun i σ H' => ∃ v6 v9 : Option V, σ = [some (.ref g), some (.ref l1), some (.ref l2), some (.ref pd), some (.str (Txt.join "\n" (textM ms [] :: ((canon rows).take i).map lineT))), some (.str (Txt.join " " (List.map prT []))), v6, none, none, v9] ∧ Same H3 H')
          ⟨none, none, by rw [List.take_zero, show List.map lineT ([] : List Row) = [] from rfl, join_one]; rfl, Same.refl _⟩ (fun i σ H' _ ⟨_, _, _, s4⟩ => SqL.of (s4 _ _ ho)) ?_ ?_⟩⟩
        · rintro i y σ H4 H5 hi ⟨v6, v9, rfl, s4⟩ ⟨rfl, hy⟩
          rw [List.getElem?_map] at hy
          obtain ⟨k', hk, rfl⟩ := Option.map_eq_some_iff.mp hy
          obtain ⟨r, hr1, rfl, hf, hm⟩ := canon_at hk
          obtain ⟨q1, q2, q3⟩ := cshort r (List.mem_of_getElem? hr1)
          have tlp := progT_len q2 q3
          have s23 := s2.trans (s3.trans s4)
          obtain ⟨l, hval, dl⟩ := entsP_val (en.mono s23) hf
          have tlen2 := text_len tlen.2 (rs := (canon rows).take i) (Nat.le_trans (List.length_take_le' _ _) (nd_len (canon_nd rows) fun r hr => rk _ (findR_mem (canon_mem hr).2))) (fun r hr => cshort r (List.mem_of_mem_take hr))
          have nx : Txt.join "\n" (textM ms [] :: ((canon rows).take (i + 1)).map lineT) = ((((Txt.join "\n" (textM ms [] :: ((canon rows).take i).map lineT) ++ ("\n" : Str)) ++ r.1) ++ (": " : Str)) ++ progT r.2) := by
            rw [List.take_add_one, hr1, List.map_append]
            show Txt.join "\n" ((textM ms [] :: ((canon rows).take i).map lineT) ++ [lineT r]) = _
            rw [join_snoc]
            unfold lineT
            rw [emp_app, app_as, app_as]
          generalize Txt.join "\n" (textM ms [] :: ((canon rows).take i).map lineT) = tx at tlen2 nx
          cases dl with
          | lst sq da =>
          rename_i ws
          refine ⟨_, rfl, _, _, rfl, rfl, by omega, _, rfl, _, _, rfl, rfl, by rw [Str.length_append]; omega, _, _, rfl, rfl, by rw [Str.length_append, Str.length_append]; omega, ⟨_, rfl⟩, _, rfl, _, rfl, pd, .ref l, rfl, .inl ⟨kvs, .inr r.1, .inl (s23 _ _ hp), rfl, hval.symm⟩, l, rfl, ⟨_, sq⟩, fun D2 hD3 => ?_⟩
          have wl := dpAll_len da
          rw [List.length_map] at wl
          have jb : ∀ ss ∈ r.2, (ss.map (·.length)).sum + ss.length * (" " : Str).length ≤ 30 := fun ss hs => join_le (q3 ss hs).2 (q3 ss hs).1 (by omega)
          refine lc_acc walk_list hD3 (fun H' s' => s'.seq sq) (fun j => ((r.2.take j).map (Txt.join " ")).map V.str) rfl (fun j hj => ?_) ?_ ?_
          · rw [List.length_map, List.length_map, List.length_take]
            exact Nat.lt_of_le_of_lt (Nat.le_trans (Nat.min_le_right _ _) q2) (by decide)
          · rintro j y H6 hj hy s6 R S r1 r2
            obtain ⟨d, hd, dy⟩ := dpAll_get da hy
            rw [List.getElem?_map] at hd
            obtain ⟨ss, hss, rfl⟩ := Option.map_eq_some_iff.mp hd
            have hmm := List.mem_of_getElem? hss
            obtain ⟨b, rfl, hb⟩ := dp_strsT (dp_mono s6 dy)
            refine ⟨rfl, tyes ⟨⟨_, rfl⟩, _, rfl, " ", b, ss, rfl, rfl, .inr hb, Nat.le_trans (jb ss hmm) (by decide), r1 _ _ ?_ (Same.refl _)⟩⟩
            rw [List.take_add_one, hss, List.map_append, List.map_append]
            rfl
          · intro H6 s6 hD6
            rw [wl, List.take_length] at hD6
            have hj : ∀ y ∈ r.2.map (Txt.join " "), y.length ≤ 30 := fun y hy => by
              obtain ⟨ss, hs, rfl⟩ := List.mem_map.mp hy
              have h1 := join_len " " ss
              have h2 := jb ss hs
              omega
            have h3 := join_le (a := (", " : Str)) hj (m := 12) (by rw [List.length_map]; exact q2) (by decide +kernel)
            refine ⟨", ", D2, _, rfl, rfl, .inl (SqL.of hD6), Nat.le_trans h3 (by decide), _, _, rfl, rfl, ?_, _, _, by rw [nx]; rfl, s4.trans s6⟩
            rw [Str.length_append, Str.length_append, Str.length_append]
            show _ + (progT r.2).length ≤ _
            omega
        · rintro σ H4 ⟨v6, v9, rfl, s4⟩
          have el : (canon rows).take ((gvR rows).map V.str).length = canon rows := by
            have h := congrArg List.length (canon_keys rows)
            rw [List.length_map] at h
            rw [List.length_map, show (gvR rows).length = (canon rows).length from h.symm, List.take_length]
          rw [el]
          exact ⟨_, rfl, k _ (s2.trans (s3.trans s4))⟩
    · have ne := prs_text c
      refine iteTe (by rw [ee, decide_eq_false fun z => ne (by injection z)]; rfl) ⟨_, rfl, _, _, rfl, rfl, ?_, _, _, rfl, rfl, ?_, ?_⟩
      · rw [zc]
        omega
      · rw [Str.length_append, zc]
        omega
      · rw [text_some hl.1 c]
        have zn : ("\n" : Str).length = 1 := by decide +kernel
        have cshort : ∀ r ∈ canon rows, shortR r := fun r hr => by
          have hm := findR_mem (canon_mem hr).2
          exact row_short (rk _ hm).1 (rk _ hm).2
        refine ⟨_, rfl, pd, kvs, rows, rfl, s2 _ _ hp, en.mono s2, fun H3 qo s3 no ho => ⟨qo, rfl, ⟨_, SqL.of ho⟩, for_it walk_list (fun i σ H' => ∃ v6 v9 : Option V, σ = [some (.ref g), some (.ref l1), some (.ref l2), some (.ref pd), some (.str (Txt.join "\n" (textM ms ps :: ((canon rows).take i).map lineT))), some (.str (Txt.join " " (List.map prT ps))), v6, none, none, v9] ∧ Same H3 H')
          ⟨none, none, by rw [List.take_zero, show List.map lineT ([] : List Row) = [] from rfl, join_one]; rfl, Same.refl _⟩ (fun i σ H' _ ⟨_, _, _, s4⟩ => SqL.of (s4 _ _ ho)) ?_ ?_⟩⟩
        · rintro i y σ H4 H5 hi ⟨v6, v9, rfl, s4⟩ ⟨rfl, hy⟩
          rw [List.getElem?_map] at hy
          obtain ⟨k', hk, rfl⟩ := Option.map_eq_some_iff.mp hy
          obtain ⟨r, hr1, rfl, hf, hm⟩ := canon_at hk
          obtain ⟨q1, q2, q3⟩ := cshort r (List.mem_of_getElem? hr1)
          have tlp := progT_len q2 q3
          have s23 := s2.trans (s3.trans s4)
          obtain ⟨l, hval, dl⟩ := entsP_val (en.mono s23) hf
          have tlen2 := text_len tlen.2 (rs := (canon rows).take i) (Nat.le_trans (List.length_take_le' _ _) (nd_len (canon_nd rows) fun r hr => rk _ (findR_mem (canon_mem hr).2))) (fun r hr => cshort r (List.mem_of_mem_take hr))
          have nx : Txt.join "\n" (textM ms ps :: ((canon rows).take (i + 1)).map lineT) = ((((Txt.join "\n" (textM ms ps :: ((canon rows).take i).map lineT) ++ ("\n" : Str)) ++ r.1) ++ (": " : Str)) ++ progT r.2) := by
            rw [List.take_add_one, hr1, List.map_append]
            show Txt.join "\n" ((textM ms ps :: ((canon rows).take i).map lineT) ++ [lineT r]) = _
            rw [join_snoc]
            unfold lineT
            rw [emp_app, app_as, app_as]
          generalize Txt.join "\n" (textM ms ps :: ((canon rows).take i).map lineT) = tx at tlen2 nx
          cases dl with
          | lst sq da =>
          rename_i ws
          refine ⟨_, rfl, _, _, rfl, rfl, by omega, _, rfl, _, _, rfl, rfl, by rw [Str.length_append]; omega, _, _, rfl, rfl, by rw [Str.length_append, Str.length_append]; omega, ⟨_, rfl⟩, _, rfl, _, rfl, pd, .ref l, rfl, .inl ⟨kvs, .inr r.1, .inl (s23 _ _ hp), rfl, hval.symm⟩, l, rfl, ⟨_, sq⟩, fun D2 hD3 => ?_⟩
          have wl := dpAll_len da
          rw [List.length_map] at wl
          have jb : ∀ ss ∈ r.2, (ss.map (·.length)).sum + ss.length * (" " : Str).length ≤ 30 := fun ss hs => join_le (q3 ss hs).2 (q3 ss hs).1 (by omega)
          refine lc_acc walk_list hD3 (fun H' s' => s'.seq sq) (fun j => ((r.2.take j).map (Txt.join " ")).map V.str) rfl (fun j hj => ?_) ?_ ?_
          · rw [List.length_map, List.length_map, List.length_take]
            exact Nat.lt_of_le_of_lt (Nat.le_trans (Nat.min_le_right _ _) q2) (by decide)
          · rintro j y H6 hj hy s6 R S r1 r2
            obtain ⟨d, hd, dy⟩ := dpAll_get da hy
            rw [List.getElem?_map] at hd
            obtain ⟨ss, hss, rfl⟩ := Option.map_eq_some_iff.mp hd
            have hmm := List.mem_of_getElem? hss
            obtain ⟨b, rfl, hb⟩ := dp_strsT (dp_mono s6 dy)
            refine ⟨rfl, tyes ⟨⟨_, rfl⟩, _, rfl, " ", b, ss, rfl, rfl, .inr hb, Nat.le_trans (jb ss hmm) (by decide), r1 _ _ ?_ (Same.refl _)⟩⟩
            rw [List.take_add_one, hss, List.map_append, List.map_append]
            rfl
          · intro H6 s6 hD6
            rw [wl, List.take_length] at hD6
            have hj : ∀ y ∈ r.2.map (Txt.join " "), y.length ≤ 30 := fun y hy => by
              obtain ⟨ss, hs, rfl⟩ := List.mem_map.mp hy
              have h1 := join_len " " ss
              have h2 := jb ss hs
              omega
            have h3 := join_le (a := (", " : Str)) hj (m := 12) (by rw [List.length_map]; exact q2) (by decide +kernel)
            refine ⟨", ", D2, _, rfl, rfl, .inl (SqL.of hD6), Nat.le_trans h3 (by decide), _, _, rfl, rfl, ?_, _, _, by rw [nx]; rfl, s4.trans s6⟩
            rw [Str.length_append, Str.length_append, Str.length_append]
            show _ + (progT r.2).length ≤ _
            omega
        · rintro σ H4 ⟨v6, v9, rfl, s4⟩
          have el : (canon rows).take ((gvR rows).map V.str).length = canon rows := by
            have h := congrArg List.length (canon_keys rows)
            rw [List.length_map] at h
            rw [List.length_map, show (gvR rows).length = (canon rows).length from h.symm, List.take_length]
          rw [el]
          exact ⟨_, rfl, k _ (s2.trans (s3.trans s4))⟩
theorem ok_law_read_head (T : Txt K mg w) : FnOk P w K mg base CX0 2 T.f_law_read_head T.fd_law_read_head ["_law_line"] (sp_lhead K) := by
  refine T.F_law_read_head.ok sc_law_read_head (fun vs H Q E h => ?_) (fun cdv A outer s H vs Q E hr h => ?_)
  · obtain ⟨t, rfl, _⟩ := h
    rfl
  · obtain ⟨t, rfl, ht, k1, k2⟩ := h
    refine ⟨_, (pss_cons (ps_set (i := 1) sc_law_read_head.nd rfl (Or.inl rfl) (pe_split (pv 0) pe_str))
        (pss_cons (ps_set (i := 2) sc_law_read_head.nd rfl (Or.inr rfl) (pe_split (pe_ix ix_list (pv 1) pe_int (fun _ _ => rfl)) pe_str))
        (pss_cons (ps_setLc (i := 3) (own := [("_law_k", 8)]) (g := gName 8) rfl sc_law_read_head.nd rfl rfl (sw_true rfl rfl rfl (by decide +kernel)) (pi_range1 rfl T.z_range (pa_cons (pe_callB (id := "len") call_len_seq (by rfl) T.z_len (by decide +kernel) (pa_cons (pv 2) pa_nil)) pa_nil)) (blkOk_by (own := [("_law_k", 8)]) (N := ["_law_line", "_law_halves", "_law_modes", "_law_bad", "_law_pairs", "_law_word", "_law_parts", "_law_pair", "_law_k"]) (sc := defScope s_law_read_head) (by decide +kernel)) (fun _ _ _ _ _ => (pg_name (i := 8) sc_law_read_head.nd rfl (Or.inl rfl))) (fun _ _ _ _ _ => (pts_one (PW.pt (pw_or (pt_not (pt_val (pe_call (ok_law_is_name T) hr rfl T.m_law_is_name T.F_law_is_name.kp T.b_law_is_name .nil pass0 (pa_cons (pe_ix (r := rIxL K) ix_list (pv 2) (pv 8) (fun _ _ => rfl)) pa_nil)))) (pw_or1 (pt_cmpR (r := rIn K false) op_in_seq (pe_ix (r := rIxL K) ix_list (pv 2) (pv 8) (fun _ _ => rfl)) (pe_slice (r := rSlL K) sl_list (pv 2) po_none (po_some (pv 8))) (by rfl))))))) (fun _ _ _ _ _ => (pv 8)))
        (pss_cons (ps_if (PW.pt (pw_or (pt_cmpR op_gt (pe_callB (id := "len") call_len_seq (by rfl) T.z_len (by decide +kernel) (pa_cons (pv 1) pa_nil)) pe_int (nomark _)) (pw_or (pt_cmpR (op_neD hr.units) (pv 3) (pe_lst pa_nil) (nomark _)) (pw_or1 (pt_cmpR op_gt (pe_callB (id := "len") call_len_seq (by rfl) T.z_len (by decide +kernel) (pa_cons (pv 2) pa_nil)) pe_int (nomark _)))))) (pss_one (ps_ret pe_non)) pss_nil)
        (pss_cons (ps_set (i := 4) sc_law_read_head.nd rfl (Or.inl rfl) (pe_lst pa_nil))
        (pss_cons (ps_for PassesOwn.never rfl (pi_list (pe_ifExp (pt_cmpR op_eq (pe_callB (id := "len") call_len_seq (by rfl) T.z_len (by decide +kernel) (pa_cons (pv 1) pa_nil)) pe_int (nomark _)) (pe_split (pe_ix ix_list (pv 1) pe_int (fun _ _ => rfl)) pe_str) (pe_lst pa_nil))) (pg_name (i := 5) sc_law_read_head.nd rfl (Or.inl rfl))
          (pss_cons (ps_set (i := 6) sc_law_read_head.nd rfl (Or.inl rfl) (pe_split (pv 5) pe_str))
        (pss_cons (ps_if (PW.pt (pw_or (pt_cmpR op_ne (pe_callB (id := "len") call_len_seq (by rfl) T.z_len (by decide +kernel) (pa_cons (pv 6) pa_nil)) pe_int (nomark _)) (pw_or (pt_cmpR op_notIn_seq (pe_ix ix_list (pv 6) pe_int (fun _ _ => rfl)) (pv 2) (by rfl)) (pw_or1 (pt_cmpR op_notIn_seq (pe_ix ix_list (pv 6) pe_int (fun _ _ => rfl)) (pv 2) (by rfl)))))) (pss_one (ps_ret pe_non)) pss_nil)
        (pss_cons (ps_set (i := 7) sc_law_read_head.nd rfl (Or.inl rfl) (pe_tup (pa_cons (pe_ix ix_list (pv 6) pe_int (fun _ _ => rfl)) (pa_cons (pe_ix ix_list (pv 6) pe_int (fun _ _ => rfl)) pa_nil))))
        (pss_cons (ps_if (pt_cmpR op_gt (pe_bm PySem.F.plainAttrs_list PySem.F.slot_list_index PySem.F.type_list_index mt_index (pv 2) (pa_cons (pe_ix ix_tup (pv 7) pe_int (fun _ _ => rfl)) pa_nil)) (pe_bm PySem.F.plainAttrs_list PySem.F.slot_list_index PySem.F.type_list_index mt_index (pv 2) (pa_cons (pe_ix ix_tup (pv 7) pe_int (fun _ _ => rfl)) pa_nil)) (nomark _)) (pss_one (ps_ret pe_non)) pss_nil)
        (pss_cons (ps_if (PW.pt (pw_and (pt_cmpR (op_neD hr.units) (pv 4) (pe_lst pa_nil) (nomark _)) (pw_and1 (pt_cmpR (op_geLI (u65 hr)) (pe_call (ok_law_places T) hr rfl T.m_law_places T.F_law_places.kp T.b_law_places .nil pass0 (pa_cons (pv 2) (pa_cons (pe_ix ix_list (pv 4) (pe_un un_neg pe_int) (fun _ _ => rfl)) pa_nil))) (pe_call (ok_law_places T) hr rfl T.m_law_places T.F_law_places.kp T.b_law_places .nil pass0 (pa_cons (pv 2) (pa_cons (pv 7) pa_nil))) (nomark _))))) (pss_one (ps_ret pe_non)) pss_nil)
        (pss_one (ps_expr (pe_bm PySem.F.plainAttrs_list PySem.F.slot_list_append PySem.F.type_list_append mt_append (pv 4) (pa_cons (pv 7) pa_nil))))))))))
        (pss_one (ps_ret (pe_ifExp (PW.pt (pw_or (pt_cmpR op_eq (pe_callB (id := "len") call_len_seq (by rfl) T.z_len (by decide +kernel) (pa_cons (pv 1) pa_nil)) pe_int (nomark _)) (pw_or1 (pt_cmpR (op_neD hr.units) (pv 4) (pe_lst pa_nil) (nomark _))))) (pe_lst (pa_cons (pv 2) (pa_cons (pv 4) pa_nil))) pe_non))))))))), ?_⟩
    have b2 : ∀ {s : Str}, s.length ≤ 100000 → s.length + 2 ≤ sizeLine := fun h => Nat.le_trans (Nat.add_le_add_right h 2) (by show 100002 ≤ sizeLine; decide)
    have z2 : (2 : Nat) ≤ sizeLine := by decide
    obtain ⟨aok, alen⟩ := split_ok split_sep ht
    refine ⟨_, rfl, ⟨t, rfl⟩, t, ": ", rfl, rfl, by decide +kernel, b2 ht.1, fun q1 hq1 => ?_⟩
    obtain ⟨h, r, eh⟩ : ∃ h r, Txt.split t ": " = h :: r := by
      rw [← SX.S_tl t, split_sep, spl_par [58, 32] (by decide)]
      cases TL.par [58, 32] [] t.cps.toList with
      | none => exact ⟨_, _, rfl⟩
      | some p => exact ⟨_, _, rfl⟩
    rw [lawH_eq eh] at k1 k2
    rw [eh] at aok alen
    rw [eh]
    have s1 := same_new (o := .lst ((h :: r).map V.str)) hq1
    have f1 : (upd H q1 (.lst ((h :: r).map V.str))) q1 = some (.lst ((h :: r).map V.str)) := upd_same
    clear eh
    generalize upd H q1 (.lst ((h :: r).map V.str)) = H1 at s1 f1
    have hok := aok h List.mem_cons_self
    refine ⟨_, rfl, q1, _, 0, .str h, rfl, rfl, SqL.of f1, atI_nat (j := 0) rfl, ⟨h, rfl⟩, h, " ", rfl, rfl, by decide +kernel, b2 hok.1, fun q2 hq2 => ?_⟩
    obtain ⟨mok, mlen⟩ := split_ok split_sp hok
    have m1 : 1 ≤ (Txt.split h " ").length := by
      rw [← SX.S_tl h, split_sp, List.length_map]
      exact List.length_pos_iff.mpr (spl_ne 32 _ _)
    have s2 := s1.trans (same_new (o := .lst ((Txt.split h " ").map V.str)) hq2)
    have g1 := (same_new (o := .lst ((Txt.split h " ").map V.str)) hq2) _ _ f1
    have f2 : (upd H1 q2 (.lst ((Txt.split h " ").map V.str))) q2 = some (.lst ((Txt.split h " ").map V.str)) := upd_same
    clear f1 s1
    generalize upd H1 q2 (.lst ((Txt.split h " ").map V.str)) = H2 at s2 g1 f2
    generalize Txt.split h " " = ms at mok mlen m1 f2 k1 k2
    refine ⟨_, rfl, q2, _, rfl, .inl (SqL.of f2), ((ms.map V.str).length : Nat), rfl, by omega, by rw [List.length_map]; omega, fun D hD => ?_⟩
    have en : (((ms.map V.str).length : Nat) : Int).toNat = ms.length := by rw [List.length_map]; omega
    refine lc_acc (n := (((ms.map V.str).length : Nat) : Int).toNat) (item := fun i x => x = V.int (0 + (i : Int))) walk_range hD (fun _ _ => trivial) (fun i => (((List.range i).filter (badI ms)).map Int.ofNat).map V.int) rfl (fun i hi => ?_) ?_ ?_
    · rw [List.length_map, List.length_map]
      rw [en] at hi
      have := List.length_filter_le (badI ms) (List.range i)
      rw [List.length_range] at this
      exact Nat.lt_of_le_of_lt this (Nat.lt_of_lt_of_le (show i < 100002 by omega) (by decide))
    · rintro i x H3 hi rfl s3 R S r1 r2
      rw [en] at hi
      have step := range_filter_step (badI ms) i
      obtain ⟨w0, hw0⟩ : ∃ w0, ms[i]? = some w0 := ⟨_, List.getElem?_eq_getElem hi⟩
      have ati : atI (ms.map V.str) (0 + (i : Int)) = some (.str w0) := by
        rw [Int.zero_add]
        exact atI_nat (by rw [List.getElem?_map, hw0]; rfl)
      rw [badI_at hw0] at step
      refine ⟨rfl, _, rfl, _, rfl, q2, _, _, _, rfl, rfl, SqL.of (s3 _ _ f2), ati, .str w0, some (.str w0), rfl, tOk_vd (mok w0 (List.mem_of_getElem? hw0)), fun H5 s5 => ⟨_, rfl, ?_⟩⟩
      rw [show nameO (some (PyData.str w0)) = nameS w0 from rfl]
      cases e : nameS w0 with
      | false =>
        rw [e, Bool.not_false, Bool.true_or, if_pos rfl] at step
        refine iteT (iteT ⟨_, rfl, r1 _ _ ?_ s5⟩)
        rw [step, List.map_append, List.map_append]
        simp
      | true =>
        rw [e, Bool.not_true, Bool.false_or] at step
        refine iteF ⟨_, rfl, _, rfl, q2, _, _, _, rfl, rfl, SqL.of (s5 _ _ (s3 _ _ f2)), ati, _, rfl, _, rfl, _, rfl, q2, _, rfl, SqL.of (s5 _ _ (s3 _ _ f2)), fun q5 hq5 => ?_⟩
        rw [Int.zero_add, cut_takeV (ms.map V.str) (by rw [List.length_map]; omega), ← List.map_take]
        have s6 := same_new (o := .lst ((ms.take i).map V.str)) hq5
        refine ⟨q5, (ms.take i).map V.str, rfl, .inl (SqL.of upd_same), rfl, flat_strs _, _, rfl, ?_⟩
        show (if (inV (.str w0) ((ms.take i).map V.str)) = true then _ else _)
        rw [in_strs]
        cases c : decide (w0 ∈ ms.take i) with
        | true =>
          rw [c, if_pos rfl] at step
          refine iteT ⟨_, rfl, r1 _ _ ?_ (s5.trans s6)⟩
          rw [step, List.map_append, List.map_append]
          simp
        | false =>
          rw [c, if_neg (by decide)] at step
          exact iteF (r2 _ (by rw [step]) (s5.trans s6))
    intro H3 s3 hl3
    have hl3 : H3 D = some (.lst ((((List.range (((ms.map V.str).length : Nat) : Int).toNat).filter (badI ms)).map Int.ofNat).map V.int)) := hl3
    rw [en] at hl3
    have nb := names_bad ms
    generalize (List.range ms.length).filter (badI ms) = bad at hl3 nb
    have g1 := s3 _ _ g1
    have f2 := s3 _ _ f2
    have s3 := s2.trans s3
    clear hD
    refine ⟨_, rfl, q1, _, rfl, .inl (SqL.of g1), _, _, rfl, rfl, _, rfl, ?_⟩
    have okparts : okMB ms = true → (ms.all nameS && decide ms.Nodup) = true ∧ ms.length ≤ 8 := fun z => by
      unfold okMB at z
      rw [Bool.and_eq_true, Bool.and_eq_true, decide_eq_true_iff (p := ms.length ≤ 8)] at z
      exact ⟨by rw [Bool.and_eq_true]; exact ⟨z.1, z.2.1⟩, z.2.2⟩
    by_cases c1 : (2 : Int) < (((h :: r).map V.str).length : Nat)
    · refine iteTe (decide_eq_true c1) (iteT (k1 (if_neg fun z => ?_) _ s3))
      rw [List.length_map, List.length_cons] at c1
      omega
    refine iteFe (decide_eq_false c1) ⟨_, rfl, Nat.zero_le _, fun q hq => ?_⟩
    have u := same_new (o := .lst []) hq
    have s4 := s3.trans u
    refine ⟨_, _, .lst (SqL.of (u _ _ hl3)) (dpAll_ints _), .lst (SqL.of upd_same) .nil, ints_shaped _, shaped_nil, _, rfl, ?_⟩
    rw [eqv_nil, List.isEmpty_map, List.isEmpty_map, nb]
    have g1 := u _ _ g1
    have f2 := u _ _ f2
    cases good : (ms.all nameS && decide ms.Nodup) with
    | false =>
      refine iteT (iteT (k1 (if_neg fun z => ?_) _ s4))
      rw [(okparts z.2).1] at good
      cases good
    | true =>
    refine iteF ⟨_, rfl, q2, _, rfl, .inl (SqL.of f2), _, _, rfl, rfl, _, rfl, ?_⟩
    by_cases c2 : (8 : Int) < ((ms.map V.str).length : Nat)
    · refine iteTe (decide_eq_true c2) (k1 (if_neg fun z => ?_) _ s4)
      have := (okparts z.2).2
      rw [List.length_map] at c2
      omega
    refine iteFe (decide_eq_false c2) ?_
    rw [List.length_map] at c2
    have ms8 : ms.length ≤ 8 := by omega
    have okm : okMB ms = true := by
      unfold okMB
      rw [Bool.and_eq_true] at good ⊢
      rw [Bool.and_eq_true, decide_eq_true_iff (p := ms.length ≤ 8)]
      exact ⟨good.1, good.2, ms8⟩
    have hn := okM_names okm
    have nd : ms.Nodup := by
      rw [Bool.and_eq_true, decide_eq_true_iff] at good
      exact good.2
    have r1 : r.length ≤ 1 := by
      rw [List.length_map, List.length_cons] at c1
      omega
    rw [if_pos ⟨r1, okm⟩] at k1 k2
    refine ⟨Nat.zero_le _, fun D2 hD2 => ?_⟩
    have n1 : q1 ≠ D2 := ne_of_none g1 hD2
    have u2 := same_new (o := .lst []) hD2
    have e2 : (upd (upd H3 q (.lst [])) D2 (.lst [])) D2 = some (.lst []) := upd_same
    have g1 := u2 _ _ g1
    have n2 : q2 ≠ D2 := ne_of_none f2 hD2
    have f2 := u2 _ _ f2
    have s5 := s4.trans u2
    have hD20 : H D2 = none := s4.free hD2
    clear u u2 hD2 hq hl3 s3 s4
    generalize upd (upd H3 q (.lst [])) D2 (.lst []) = H5 at e2 g1 f2 s5
    refine ⟨_, rfl, q1, _, rfl, .inl (SqL.of g1), rfl, _, rfl, ?_⟩
    have wok : (∀ w ∈ wsR r, tOk w) ∧ (wsR r).length ≤ 100001 := by
      cases r with
      | nil => exact ⟨fun w hw => (List.not_mem_nil hw).elim, Nat.zero_le _⟩
      | cons b r2 => exact split_ok split_sp (aok b (List.mem_cons_of_mem _ List.mem_cons_self))
    refine split_or_list (ws := wsR r) rfl (SqL.of g1) (fun c => ?_) (fun c => ?_) fun pl H6 s6 npl hpl => ?_
    · match r, r1, aok with
      | [b], _, aok => exact ⟨b, atI_nat (j := 1) rfl, (aok b (by simp)).1, rfl⟩
      | [], _, _ => exact absurd (of_decide_eq_true c) (by simp)
    · match r, r1 with
      | [], _ => rfl
      | [b], _ => exact absurd rfl (of_decide_eq_false c)
    have np : pl ≠ D2 := (ne_of_none e2 npl).symm
    have sb : Same H (but H6 D2) := fun b u e => by
      rw [but_ne (ne_of_none e hD20)]
      exact s6 _ _ (s5 _ _ e)
    have p2 : but H6 D2 pl = some (.lst ((wsR r).map V.str)) := by rw [but_ne np]; exact hpl
    have f2 : but H6 D2 q2 = some (.lst (ms.map V.str)) := by rw [but_ne n2]; exact s6 _ _ f2
    have e6 := s6 _ _ e2
    have g1 : but H6 D2 q1 = some (.lst ((h :: r).map V.str)) := by rw [but_ne n1]; exact s6 _ _ g1
    clear s6 npl hpl s5 e2 c1 c2 good nb
    refine ⟨pl, rfl, ⟨_, SqL.of (but_le _ _ _ _ p2)⟩, for_list (K := K) (a := pl) (xs := (wsR r).map V.str) (fun i σ H' => ∃ (v5 v6 v7 : Option V) (zs : List V) (ps : List Pr), σ = [some (.str t), some (.ref q1), some (.ref q2), some (.ref D), some (.ref D2), v5, v6, v7, none] ∧ Same (but H6 D2) H' ∧ H' D2 = some (.lst zs) ∧ DpAll K (but H' D2) zs (ps.map prD) ∧ ps.length ≤ i ∧ (∀ p ∈ ps, p.1 ∈ ms ∧ p.2 ∈ ms) ∧ prsO ms (wsR r) = (prsO ms ((wsR r).drop i)).map (ps ++ ·) ∧ okRise ms ps) ⟨none, none, none, [], [], rfl, but_le _ _, e6, .nil, Nat.le_refl _, fun p h => (List.not_mem_nil h).elim, (by rw [List.drop_zero]; cases prsO ms (wsR r) <;> rfl), ⟨fun p h => (List.not_mem_nil h).elim, List.Pairwise.nil⟩⟩ (fun i σ H' _ ⟨_, _, _, _, _, _, s, _⟩ => SqL.of (s _ _ p2)) ?_ ?_⟩
    · rintro i x σ H7 hx ⟨v5, v6, v7, zs, ps, rfl, s7, hz, dz, pl1, pm, ep, rise⟩
      rw [List.getElem?_map] at hx
      obtain ⟨w, hw, rfl⟩ := Option.map_eq_some_iff.mp hx
      have hi := (List.getElem?_eq_some_iff.mp hw).1
      have wk := wok.1 w (List.mem_of_getElem? hw)
      rw [drop_cons hw] at ep
      refine ⟨_, rfl, ⟨w, rfl⟩, w, "!", rfl, rfl, by decide +kernel, b2 wk.1, fun q3 hq3 => ?_⟩
      have s8 := same_new (o := .lst ((Txt.split w "!").map V.str)) hq3
      have f3 : (upd H7 q3 (.lst ((Txt.split w "!").map V.str))) q3 = some (.lst ((Txt.split w "!").map V.str)) := upd_same
      have hz8 := s8 _ _ hz
      have dz8 := dpAll_mono (but_of (x := D2) s8) dz
      have t8 := s7.trans s8
      have bad : prO ms w = none → ∀ H', Same H H' → Q .non H' := fun e H' s' => by
        refine k1 ?_ H' s'
        have ep2 : prsO ms (wsR r) = none := by
          rw [ep]
          unfold prsO
          rw [e]
          rfl
        rw [ep2]
        rfl
      have prw : prO ms w = match Txt.split w "!" with
        | [a, b] => if a ∈ ms ∧ b ∈ ms then some (a, b) else none
        | _ => none := rfl
      clear s8 hz dz s7 hq3
      generalize upd H7 q3 (.lst ((Txt.split w "!").map V.str)) = H8 at f3 hz8 dz8 t8
      have sH8 := sb.trans t8
      generalize Txt.split w "!" = parts at f3 prw
      refine ⟨_, rfl, q3, _, rfl, .inl (SqL.of f3), rfl, _, rfl, ?_⟩
      by_cases c2 : parts.length = 2
      · match parts, c2 with
        | [a, b], _ =>
        have prw : prO ms w = if a ∈ ms ∧ b ∈ ms then some (a, b) else none := prw
        have ia : atI (([a, b] : List Str).map V.str) 0 = some (.str a) := atI_nat (j := 0) rfl
        have ib : atI (([a, b] : List Str).map V.str) 1 = some (.str b) := atI_nat (j := 1) rfl
        have inm : ∀ z : Str, inV (.str z) (ms.map V.str) = decide (z ∈ ms) := fun z => in_strs z ms
        refine iteFe (by simp) ⟨_, rfl, q3, _, 0, .str a, rfl, rfl, SqL.of f3, ia, _, rfl, q2, _, rfl, .inl (SqL.of (t8 _ _ f2)), rfl, flat_strs _, _, rfl, ?_⟩
        show (if (!inV (.str a) (ms.map V.str)) = true then _ else _)
        rw [inm]
        by_cases ca : a ∈ ms
        · refine iteFe (by rw [decide_eq_true ca]; rfl) ⟨_, rfl, q3, _, 1, .str b, rfl, rfl, SqL.of f3, ib, _, rfl, q2, _, rfl, .inl (SqL.of (t8 _ _ f2)), rfl, flat_strs _, _, rfl, ?_⟩
          show (if (!inV (.str b) (ms.map V.str)) = true then _ else _)
          rw [inm]
          by_cases cb : b ∈ ms
          · rw [if_pos ⟨ca, cb⟩] at prw
            have ep3 : prsO ms (wsR r) = (prsO ms ((wsR r).drop (i + 1))).map fun y => ps ++ (a, b) :: y := by
              rw [ep]
              conv => lhs; unfold prsO
              rw [prw]
              cases prsO ms ((wsR r).drop (i + 1)) <;> rfl
            have bad2 : ¬ okRise ms (ps ++ [(a, b)]) → ∀ H', Same H H' → Q .non H' := fun e H' s' => by
              refine k1 (head_none nd fun full ef z => e ?_) H' s'
              rw [ep3] at ef
              cases e9 : prsO ms ((wsR r).drop (i + 1)) with
              | none => rw [e9] at ef; cases ef
              | some y =>
                rw [e9] at ef
                have ef : ps ++ (a, b) :: y = full := by injection ef
                subst ef
                have esub : (ps ++ [(a, b)]).Sublist (ps ++ (a, b) :: y) := (List.Sublist.refl ps).append (List.Sublist.cons₂ _ (List.nil_sublist y))
                exact ⟨fun p hp => z.1 p (esub.subset hp), z.2.sublist esub⟩
            obtain ⟨a1, a2, a3⟩ := idx_reads ca
            obtain ⟨b1, b2', b3⟩ := idx_reads cb
            refine iteFe (by rw [decide_eq_true cb]; rfl) ⟨_, rfl, q3, _, 0, .str a, rfl, rfl, SqL.of f3, ia, _, rfl, q3, _, 1, .str b, rfl, rfl, SqL.of f3, ib, z2, fun tt htt => ?_⟩
            have s9 := same_new (o := .tup [.str a, .str b]) htt
            have nt : tt ≠ D2 := (ne_of_none hz8 htt).symm
            have ht9 : (upd H8 tt (.tup [.str a, .str b])) tt = some (.tup [.str a, .str b]) := upd_same
            have hz9 := s9 _ _ hz8
            have f9 := s9 _ _ (t8 _ _ f2)
            have dz9 := dpAll_mono (but_of (x := D2) s9) dz8
            have t9 := t8.trans s9
            have sH9 := sb.trans t9
            have dt9 : SqT K (but (upd H8 tt (.tup [.str a, .str b])) D2) tt [.str a, .str b] := SqT.of (by rw [but_ne nt]; exact upd_same)
            generalize upd H8 tt (.tup [.str a, .str b]) = H9 at ht9 hz9 f9 dz9 t9 sH9 dt9
            refine ⟨_, rfl, (.inl ⟨rfl, _, SqL.of f9⟩), _, rfl, tt, _, 0, .str a, rfl, rfl, SqT.of ht9, rfl, q2, _, .str a, _, _, rfl, rfl, SqL.of f9, rfl, flat_strs ms, a1, a2, a3, ?_⟩
            refine ⟨_, rfl, (.inl ⟨rfl, _, SqL.of f9⟩), _, rfl, tt, _, 1, .str b, rfl, rfl, SqT.of ht9, rfl, q2, _, .str b, _, _, rfl, rfl, SqL.of f9, rfl, flat_strs ms, b1, b2', b3, ?_⟩
            have fin : okRise ms (ps ++ [(a, b)]) → ∀ (H' : Hp), Same H9 H' → zs.length < sizeLine ∧ ∃ (v5 v6 v7 : Option V) (zs2 : List V) (ps2 : List Pr), [some (.str t), some (.ref q1), some (.ref q2), some (.ref D), some (.ref D2), some (.str w), some (.ref q3), some (.ref tt), none] = [some (V.str t), some (.ref q1), some (.ref q2), some (.ref D), some (.ref D2), v5, v6, v7, none] ∧
                Same (but H6 D2) (upd H' D2 (.lst (zs ++ [.ref tt]))) ∧ (upd H' D2 (.lst (zs ++ [.ref tt]))) D2 = some (.lst zs2) ∧ DpAll K (but (upd H' D2 (.lst (zs ++ [.ref tt]))) D2) zs2 (ps2.map prD) ∧ ps2.length ≤ i + 1 ∧ (∀ p ∈ ps2, p.1 ∈ ms ∧ p.2 ∈ ms) ∧ prsO ms (wsR r) = (prsO ms ((wsR r).drop (i + 1))).map (ps2 ++ ·) ∧ okRise ms ps2 := fun ok H' s' => by
              refine ⟨?_, _, _, _, zs ++ [.ref tt], ps ++ [(a, b)], rfl, but_mut (x := D2) fun b u e => s' _ _ (t9 _ _ e), upd_same, ?_, ?_, ?_, ?_, ok⟩
              · have := dpAll_len dz8
                rw [List.length_map] at this
                exact Nat.lt_of_le_of_lt (show zs.length ≤ 100001 by have := wok.2; omega) (by decide)
              · rw [List.map_append]
                exact dpAll_snoc (dpAll_mono ((but_of s').trans (but_upd _ _ _)) dz9) (dp_mono ((but_of s').trans (but_upd _ _ _)) (.tup dt9 (.cons (.str _) (.cons (.str _) .nil))))
              · rw [List.length_append, List.length_singleton]
                omega
              · intro p hp
                rcases List.mem_append.mp hp with z | z
                · exact pm p z
                · rw [List.mem_singleton.mp z]
                  exact ⟨ca, cb⟩
              · rw [ep3]
                cases prsO ms ((wsR r).drop (i + 1)) with
                | none => rfl
                | some y => simp
            refine ⟨_, _, rfl, rfl, _, rfl, ?_⟩
            by_cases hx2 : ms.idxOf b < ms.idxOf a
            · refine iteTe (decide_eq_true (by omega)) (bad2 (fun z => ?_) _ sH9)
              have := z.1 (a, b) (by simp)
              exact Nat.not_lt.mpr this hx2
            refine iteFe (decide_eq_false (by omega)) ?_
            refine ⟨_, rfl, Nat.zero_le _, fun q5 hq5 => ?_⟩
            have u5 := same_new (o := .lst []) hq5
            refine ⟨_, _, .lst (SqL.of (u5 _ _ hz9)) (dpAll_mono ((but_le _ _).trans u5) dz9), .lst (SqL.of upd_same) .nil, prs_sh hn pm, shaped_nil, _, rfl, ?_⟩
            rw [eqv_nil, List.isEmpty_map]
            have orient : ∀ p ∈ ps ++ [(a, b)], ms.idxOf p.1 ≤ ms.idxOf p.2 := fun p hp => by
              rcases List.mem_append.mp hp with z | z
              · exact rise.1 p z
              · rw [List.mem_singleton.mp z]
                exact Nat.le_of_not_lt hx2
            have s10 := u5
            by_cases hp0 : ps = []
            · obtain ⟨fl, ff⟩ := fin ⟨orient, by rw [hp0]; exact List.pairwise_singleton _ _⟩ _ s10
              exact iteFe (by rw [hp0]; rfl) (iteF ⟨_, rfl, (.inl ⟨rfl, _, SqL.of (s10 _ _ hz9)⟩), _, rfl, D2, zs, .ref tt, rfl, rfl, s10 _ _ hz9, fl, ff⟩)
            · have zne : zs ≠ [] := fun z => hp0 (by
                have := dpAll_len dz9
                rw [List.length_map, z] at this
                exact List.length_eq_zero_iff.mp this.symm)
              have zl : zs[zs.length - 1]? = some (zs.getLast zne) := by rw [← List.getLast?_eq_getElem?, List.getLast?_eq_getLast zne]
              obtain ⟨t', p', e', hp', ht'⟩ := prs_at (dpAll_mono ((but_le _ _).trans u5) dz9) zl
              have pl' : ps[ps.length - 1]? = some p' := by
                have := dpAll_len dz9
                rw [List.length_map] at this
                rw [← this]
                exact hp'
              have pm' := pm p' (List.mem_of_getElem? hp')
              refine iteTe (by cases ps with | nil => exact absurd rfl hp0 | cons _ _ => rfl) ?_
              refine ⟨_, rfl, _, rfl, _, rfl, D2, zs, -1, zs.getLast zne, rfl, rfl, SqL.of (s10 _ _ hz9), last_at zne, q2, t', ms, p'.1, p'.2, by rw [e']; rfl, SqL.of (s10 _ _ f9), ht', pm'.1, pm'.2, by omega, fun H11 g1 s11 n11 h11 => ?_⟩
              have s12 := s10.trans s11
              refine ⟨_, rfl, _, rfl, q2, tt, ms, a, b, rfl, SqL.of (s12 _ _ f9), SqT.of (s12 _ _ ht9), ca, cb, by omega, fun H12 g2 s13 n13 h13 => ?_⟩
              have s14 := s12.trans s13
              refine ⟨[(ms.idxOf p'.1 : Nat), (ms.idxOf p'.2 : Nat)], [(ms.idxOf a : Nat), (ms.idxOf b : Nat)], .lst (SqL.of (s13 _ _ h11)) (.cons (.int _) (.cons (.int _) .nil)), .lst (SqL.of h13) (.cons (.int _) (.cons (.int _) .nil)), _, rfl, ?_⟩
              rw [lt_places ms p' (a, b)]
              by_cases hlt : ltG ms.idxOf p' (a, b)
              · obtain ⟨fl, ff⟩ := fin ⟨orient, rise_snoc rise.2 pl' hlt⟩ _ s14
                exact iteFe (by rw [decide_eq_true hlt]; rfl) ⟨_, rfl, (.inl ⟨rfl, _, SqL.of (s14 _ _ hz9)⟩), _, rfl, D2, zs, .ref tt, rfl, rfl, s14 _ _ hz9, fl, ff⟩
              · refine iteTe (by rw [decide_eq_false hlt]; rfl) (bad2 (fun z => hlt ?_) _ (sH9.trans s14))
                exact (List.pairwise_append.mp z.2).2.2 p' (List.mem_of_getElem? pl') (a, b) (List.mem_singleton.mpr rfl)
          · rw [if_neg fun z => cb z.2] at prw
            exact iteTe (by rw [decide_eq_false cb]; rfl) (bad prw _ sH8)
        · rw [if_neg fun z => ca z.1] at prw
          exact iteTe (by rw [decide_eq_false ca]; rfl) (iteT (bad prw _ sH8))
      · have pn : prO ms w = none := by
          rw [prw]
          split
          · exact absurd rfl c2
          · rfl
        refine iteTe ?_ (iteT (bad pn _ sH8))
        rw [decide_eq_false fun z => c2 (by injection z with z; rw [List.length_map] at z; omega)]
        rfl
    · rintro σ H7 ⟨v5, v6, v7, zs, ps, rfl, s7, hz, dz, pl1, pm, ep, rise⟩
      rw [List.length_map] at pl1 ep
      rw [List.drop_length] at ep
      have ep : prsO ms (wsR r) = some ps := by
        rw [ep]
        simp [prsO]
      rw [ep] at k2
      have can := (okRise_iff nd pm).mp rise
      have k2 := k2 ms ps (by rw [Option.bind_some, if_pos can])
      have sH := sb.trans s7
      have f7 := s7 _ _ f2
      have dz := dpAll_mono (but_le _ _) dz
      have g7 := s7 _ _ g1
      have mk : ∀ (H' : Hp), Same H7 H' → ∀ g, H' g = none → Q (.ref g) (upd H' g (.lst [.ref q2, .ref D2])) := fun H' s' g hg => by
        have s9 := s'.trans (same_new (o := .lst [.ref q2, .ref D2]) hg)
        exact k2 _ g q2 D2 (sH.trans s9) upd_same ⟨SqL.of upd_same, SqL.of (s9 _ _ f7), _, SqL.of (s9 _ _ hz), dpAll_mono s9 dz⟩
      refine ⟨_, rfl, q1, _, rfl, .inl (SqL.of g7), rfl, _, rfl, ?_⟩
      match r, r1, ep with
      | [], _, ep => exact iteTe rfl (iteT ⟨_, rfl, _, rfl, z2, fun g hg => mk _ (Same.refl _) g hg⟩)
      | [b], _, ep =>
        have ne : ps ≠ [] := fun z => by
          have h1 := (prsO_some ep).1
          rw [z] at h1
          exact split_ne b h1.symm
        refine iteFe rfl ⟨_, rfl, Nat.zero_le _, fun q6 hq6 => ?_⟩
        have u6 := same_new (o := .lst []) hq6
        refine ⟨_, _, .lst (SqL.of (u6 _ _ hz)) (dpAll_mono u6 dz), .lst (SqL.of upd_same) .nil, prs_sh hn pm, shaped_nil, _, rfl, ?_⟩
        rw [eqv_nil, List.isEmpty_map]
        refine iteTe (by cases ps with | nil => exact absurd rfl ne | cons _ _ => rfl) ?_
        exact ⟨_, rfl, _, rfl, z2, fun g hg => mk _ u6 g hg⟩
theorem ok_law_read (T : Txt K mg w) : FnOk P w K mg base CX0 4 T.f_law_read T.fd_law_read ["_law_text_here"] (sp_lread24 K) := by
  refine T.F_law_read.ok sc_law_read (fun vs H Q E h => ?_) (fun cdv A outer s H vs Q E hr h => ?_)
  · obtain ⟨t, rfl, _⟩ := h
    rfl
  · obtain ⟨t, rfl, ht, k1, k2⟩ := h
    refine ⟨_, (pss_cons (ps_set (i := 1) sc_law_read.nd rfl (Or.inl rfl) (pe_split (pv 0) pe_str))
        (pss_cons (ps_set (i := 2) sc_law_read.nd rfl (Or.inr rfl) (pe_call (ok_law_read_head T) (hr.mono (by decide)) rfl T.m_law_read_head T.F_law_read_head.kp T.b_law_read_head .nil pass0 (pa_cons (pe_ix ix_list (pv 1) pe_int (fun _ _ => rfl)) pa_nil)))
        (pss_cons (ps_if (pt_cmpR op_isN (pv 2) pe_non (nomark _)) (pss_one (ps_ret pe_non)) pss_nil)
        (pss_cons (ps_set (i := 3) sc_law_read.nd rfl (Or.inl rfl) pe_dnewK)
        (pss_cons (ps_for PassesOwn.never rfl (pi_list (pe_slice sl_list (pv 1) (po_some pe_int) po_none)) (pg_name (i := 4) sc_law_read.nd rfl (Or.inl rfl))
          (pss_cons (ps_set (i := 5) sc_law_read.nd rfl (Or.inl rfl) (pe_split (pv 4) pe_str))
        (pss_cons (ps_if (PW.pt (pw_or (pt_cmpR op_ne (pe_callB (id := "len") call_len_seq (by rfl) T.z_len (by decide +kernel) (pa_cons (pv 5) pa_nil)) pe_int (nomark _)) (pw_or (pt_cmp (pc_din (hu_of hr) (pe_ix ix_list (pv 5) pe_int (fun _ _ => rfl)) (pv 3))) (pw_or1 (pt_cmpR op_notIn_seq (pe_ix ix_list (pv 5) pe_int (fun _ _ => rfl)) (pe_call0 (ok_law_kinds T) (hr.mono (by decide)) rfl T.m_law_kinds T.F_law_kinds.kp T.b_law_kinds .nil pass0) (by rfl)))))) (pss_one (ps_ret pe_non)) pss_nil)
        (pss_cons (ps_setLc (i := 6) (own := [("_law_part", 7)]) (g := gName 7) (tt := tYes) rfl sc_law_read.nd rfl rfl (sw_true rfl rfl rfl (by decide +kernel)) (pi_list (pe_split (pe_ix ix_list (pv 5) pe_int (fun _ _ => rfl)) pe_str)) (blkOk_by (own := [("_law_part", 7)]) (N := ["_law_text_here", "_law_lines", "_law_head", "_law_programs_here", "_law_line", "_law_halves", "_law_program_here", "_law_part", "_law_step"]) (sc := defScope s_law_read) (by decide +kernel)) (fun _ _ _ _ _ => (pg_name (i := 7) sc_law_read.nd rfl (Or.inl rfl))) (fun _ _ _ _ _ => pts_nil) (fun _ _ _ _ _ => (pe_callTy (T := "tuple") (r := rTupOfN K) call_tuple_of (by rfl) T.z_tuple (by decide +kernel) (pa_cons (show PE _ _ (tM1 rSplitN _ _) from (pe_split (pv 7) pe_str)) pa_nil))))
        (pss_cons (ps_if (pt_not (pt_val (pe_call (ok_law_is_program T) hr rfl T.m_law_is_program T.F_law_is_program.kp T.b_law_is_program .nil pass0 (pa_cons (pv 6) (pa_cons (pe_ix ix_list (pv 5) pe_int (fun _ _ => rfl)) pa_nil))))) (pss_one (ps_ret pe_non)) pss_nil)
        (pss_cons (ps_if (pt_cmpR (op_neD hr.units) (pe_lc (own := [("_law_step", 8)]) (g := gName 8) rfl sc_law_read.nd (pi_list (pv 6)) (blkOk_by (own := [("_law_step", 8)]) (N := ["_law_text_here", "_law_lines", "_law_head", "_law_programs_here", "_law_line", "_law_halves", "_law_program_here", "_law_part", "_law_step"]) (sc := defScope s_law_read) (by decide +kernel)) (fun _ _ _ _ _ => (pg_name (i := 8) sc_law_read.nd rfl (Or.inl rfl))) (fun _ _ _ _ _ => (pts_one (PW.pt (pw_and (pt_cmpR op_eq (pe_ix (r := rIxT K) ix_tup (pv 8) pe_int (fun _ _ => rfl)) pe_str (nomark _)) (pw_and1 (pt_cmpR (r := rIn K true) op_notIn_seq (pe_ix (r := rIxT K) ix_tup (pv 8) pe_int (fun _ _ => rfl)) (pe_ix (r := rIxL K) ix_list (pv 2) pe_int (fun _ _ => rfl)) (by rfl))))))) (fun _ _ _ _ _ => (pv 8))) (pe_lst pa_nil) (nomark _)) (pss_one (ps_ret pe_non)) pss_nil)
        (pss_one (ps_dput (hu_of hr) (pv 3) (pe_ix ix_list (pv 5) pe_int (fun _ _ => rfl)) (pv 6) rfl))))))))
        (pss_one (ps_ret (pe_ifExp (pt_cmpR (op_eqD hr.units) (pe_callTy (T := "list") (call_listD rfl) (by rfl) T.z_list (by decide +kernel) (pa_cons (pv 3) pa_nil)) (pe_call (ok_law_ordered T) (hr.mono (by decide)) rfl T.m_law_ordered T.F_law_ordered.kp T.b_law_ordered .nil pass0 (pa_cons (pv 3) pa_nil)) (nomark _)) (pe_op op_cat (pv 2) (pe_lst (pa_cons (pv 3) pa_nil))) pe_non)))))))), ?_⟩
    have b2 : ∀ {s : Str}, s.length ≤ 100000 → s.length + 2 ≤ sizeLine := fun h => Nat.le_trans (Nat.add_le_add_right h 2) (by show 100002 ≤ sizeLine; decide)
    obtain ⟨first, lines, ew⟩ := nl_cons t
    obtain ⟨wok, wlen⟩ := split_ok split_nl ht
    unfold lawR at k1 k2
    rw [ew] at wok wlen k1 k2
    have fok := wok first List.mem_cons_self
    have lok : ∀ l ∈ lines, tOk l := fun l hl => wok l (List.mem_cons_of_mem _ hl)
    rw [List.length_cons] at wlen
    refine ⟨_, rfl, ⟨t, rfl⟩, t, "\n", rfl, rfl, by decide +kernel, b2 ht.1, fun l0 hl0 => ?_⟩
    rw [ew]
    have s0 := same_new (o := .lst ((first :: lines).map V.str)) hl0
    have g0 : (upd H l0 (.lst ((first :: lines).map V.str))) l0 = some (.lst ((first :: lines).map V.str)) := upd_same
    generalize upd H l0 (.lst ((first :: lines).map V.str)) = H1 at s0 g0
    refine ⟨_, rfl, l0, _, 0, .str first, rfl, rfl, SqL.of g0, atI_nat (j := 0) rfl, first, rfl, fok, fun non H2 s2 => ?_, fun ms ps ok H2 g l1 l2 s2 hg md => ?_⟩
    · refine ⟨_, rfl, rfl, _, rfl, iteTe (decide_eq_true rfl) (k1 ?_ H2 (s0.trans s2))⟩
      show ((lawH first).bind _) = none
      rw [non]
      rfl
    · have k1 : ((lawRows ms [] lines).bind fun rows => if rows.map (·.1) = gvR rows then some (ms, ps, rows) else none) = none → ∀ H', Same H H' → Q .non H' := fun e => k1 (by
        show ((lawH first).bind _) = none
        rw [ok]
        exact e)
      have k2 : ∀ rows, ((lawRows ms [] lines).bind fun rows => if rows.map (·.1) = gvR rows then some (ms, ps, rows) else none) = some (ms, ps, rows) → ∀ H' g l1 l2 pd, Same H H' → M24 K H' g l1 l2 pd ms ps rows → Q (.ref g) H' := fun rows e => k2 ms ps rows (by
        show ((lawH first).bind _) = _
        rw [ok]
        exact e)
      have s02 := s0.trans s2
      have g2 := s2 _ _ g0
      refine ⟨_, rfl, rfl, _, rfl, iteFe (decide_eq_false fun z => nomatch z) ?_⟩
      refine fun pd hpd => ?_
      have npd : H pd = none := s02.free hpd
      have s3 := same_new (o := .dK []) hpd
      have d3 : (upd H2 pd (.dK [])) pd = some (.dK []) := upd_same
      have md0 : Model K (but (upd H2 pd (.dK [])) pd) g l1 l2 ms ps := md.mono fun b u e => by
        rw [but_ne (ne_of_none e hpd)]
        exact s3 _ _ e
      have s03 := s02.trans s3
      have sb0 : Same H (but (upd H2 pd (.dK [])) pd) := fun b u e => by
        rw [but_ne (ne_of_none e npd)]
        exact s03 _ _ e
      have g3 := s3 _ _ g2
      have hg3 : but (upd H2 pd (.dK [])) pd g = some (.lst [.ref l1, .ref l2]) := by
        rw [but_ne (ne_of_none hg hpd).symm.symm]
        exact s3 _ _ hg
      generalize upd H2 pd (.dK []) = H3 at s3 d3 md0 s03 sb0 g3 hg3
      refine ⟨_, rfl, _, rfl, l0, _, rfl, SqL.of g3, fun q hq => ?_⟩
      rw [cut_drop1]
      have s4 := same_new (o := .lst (List.drop 1 (List.map V.str (first :: lines)))) hq
      have q4 : (upd H3 q (.lst (List.drop 1 (List.map V.str (first :: lines))))) q = some (.lst (lines.map V.str)) := upd_same
      have d4 := s4 _ _ d3
      have npq : q ≠ pd := (ne_of_none d3 hq).symm
      have md1 := md0.mono (but_of (x := pd) s4)
      have hg4 := but_of (x := pd) s4 _ _ hg3
      have sb1 := sb0.trans (but_of (x := pd) s4)
      generalize upd H3 q (.lst (List.drop 1 (List.map V.str (first :: lines)))) = H4 at q4 d4 md1 sb1 hg4
      have qB : but H4 pd q = some (.lst (lines.map V.str)) := by rw [but_ne npq]; exact q4
      refine ⟨q, rfl, ⟨_, SqL.of q4⟩, for_it walk_list (fun i σ H' => ∃ (v4 v5 v6 : Option V) (kvs : List (Key × V)) (acc : List Row), σ = [some (.str t), some (.ref l0), some (.ref g), some (.ref pd), v4, v5, v6, none, none] ∧ Same (but H4 pd) H' ∧ H' pd = some (.dK kvs) ∧ Ents K (but H' pd) kvs (entsP acc) ∧ lawRows ms [] lines = lawRows ms acc (lines.drop i) ∧ acc.length ≤ i ∧ ∀ r ∈ acc, r.1 ∈ kindsL)
        ⟨none, none, none, [], [], rfl, but_le _ _, d4, .nil, rfl, Nat.le_refl _, fun r hr => (List.not_mem_nil hr).elim⟩ (fun i σ H' _ ⟨_, _, _, _, _, _, s5, _⟩ => SqL.of (s5 _ _ qB)) ?_ ?_⟩
      · rintro i y σ H5 H6 hi ⟨v4, v5, v6, kvs, acc, rfl, s5, hk, en, el, al, ak⟩ ⟨rfl, hy⟩
        rw [List.getElem?_map] at hy
        obtain ⟨l, hl, rfl⟩ := Option.map_eq_some_iff.mp hy
        have lm := lok l (List.mem_of_getElem? hl)
        have hil := (List.getElem?_eq_some_iff.mp hl).1
        rw [drop_cons hl] at el
        obtain ⟨hok, hlen⟩ := split_ok split_sep lm
        refine ⟨_, rfl, ⟨l, rfl⟩, l, ": ", rfl, rfl, by decide +kernel, b2 lm.1, fun q3 hq3 => ?_⟩
        have s6 := same_new (o := .lst ((Txt.split l ": ").map V.str)) hq3
        have f3 : (upd H6 q3 (.lst ((Txt.split l ": ").map V.str))) q3 = some (.lst ((Txt.split l ": ").map V.str)) := upd_same
        have hk6 := s6 _ _ hk
        have sH6 := sb1.trans (s5.trans s6)
        have bad : lawRows ms acc (l :: lines.drop (i + 1)) = none → ∀ H', Same H H' → Q .non H' := fun e => k1 (by
          rw [el, e]
          rfl)
        refine ⟨_, rfl, q3, _, rfl, .inl (SqL.of f3), rfl, _, rfl, ?_⟩
        by_cases c2 : (Txt.split l ": ").length = 2
        · obtain ⟨k, w, ekw⟩ : ∃ k w, Txt.split l ": " = [k, w] := by
            match Txt.split l ": ", c2 with
            | [k, w], _ => exact ⟨k, w, rfl⟩
          have elr : lineL l = some (k, (Txt.split w ", ").map fun s => Txt.split s " ") := by
            unfold lineL
            rw [ekw]
          rw [ekw] at hok f3 s6 hk6 sH6
          rw [ekw]
          have kok := hok k (by simp)
          have wk := hok w (by simp)
          generalize upd H6 q3 (.lst (([k, w] : List Str).map V.str)) = H7 at f3 s6 hk6 sH6
          have i0 : atI (([k, w] : List Str).map V.str) 0 = some (.str k) := atI_nat (j := 0) rfl
          have i1 : atI (([k, w] : List Str).map V.str) 1 = some (.str w) := atI_nat (j := 1) rfl
          have kin := entsP_in en k
          rw [findR_has] at kin
          refine iteFe rfl ⟨_, rfl, q3, _, 0, .str k, rfl, rfl, SqL.of f3, i0, _, rfl, pd, _, rfl, .inl ⟨kvs, .inr k, .inl hk6, rfl, rfl⟩, _, rfl, ?_⟩
          rw [kin]
          by_cases ck : k ∈ acc.map (·.1)
          · exact iteTe (decide_eq_true ck) (iteT (bad (by rw [lawRows_one elr, if_pos (.inl ck)]) _ sH6))
          refine iteFe (decide_eq_false ck) ⟨_, rfl, q3, _, 0, .str k, rfl, rfl, SqL.of f3, i0, rfl, fun q8 hq8 => ?_⟩
          have s8 := same_new (o := .lst (kindsL.map V.str)) hq8
          refine ⟨q8, _, rfl, .inl (SqL.of upd_same), rfl, flat_strs kindsL, _, rfl, ?_⟩
          rw [in_strs]
          by_cases ck2 : k ∈ kindsL
          · refine iteFe (by rw [decide_eq_true ck2]; rfl) ?_
            have f8 := s8 _ _ f3
            have hk8 := s8 _ _ hk6
            have sH8 := sH6.trans s8
            have s68 := s6.trans s8
            clear hlen hok
            generalize upd H7 q8 (.lst (kindsL.map V.str)) = H8 at s8 f8 hk8 sH8 s68
            obtain ⟨tok, tlen⟩ := split_ok split_cm wk
            have gd : goodR (k, (Txt.split w ", ").map fun s => Txt.split s " ") := by
              rw [← (lineL_some elr).1]
              exact line_good lm
            refine ⟨_, rfl, q3, _, 1, .str w, rfl, rfl, SqL.of f8, i1, ⟨w, rfl⟩, w, ", ", rfl, rfl, by decide +kernel, b2 wk.1, fun lt hlt => ⟨lt, rfl, ⟨_, SqL.of upd_same⟩, fun D hD => ?_⟩⟩
            have s9 := s68.trans (same_new (o := .lst ((Txt.split w ", ").map V.str)) hlt)
            have sH9 := sH8.trans (same_new (o := .lst ((Txt.split w ", ").map V.str)) hlt)
            have f9 := (same_new (o := .lst ((Txt.split w ", ").map V.str)) hlt) _ _ f8
            have hlt9 : (upd H8 lt (.lst ((Txt.split w ", ").map V.str))) lt = some (.lst ((Txt.split w ", ").map V.str)) := upd_same
            generalize upd H8 lt (.lst ((Txt.split w ", ").map V.str)) = H9 at s9 sH9 f9 hlt9 hD
            have hk9 := s9 _ _ hk
            have nDp : D ≠ pd := (ne_of_none hk9 hD).symm
            refine lc_it walk_list (fun j H' => Same H9 H' ∧ ∃ zs, H' D = some (.lst zs) ∧ DpAll K (but (but H' D) pd) zs (((Txt.split w ", ").take j).map fun s => strsD (Txt.split s " "))) ⟨same_new hD, [], upd_same, .nil⟩ (fun j H' _ ⟨s, _⟩ => SqL.of (s _ _ hlt9)) ?_ ?_
            · rintro j y H10 H11 hj ⟨s10, zs, hz, dz⟩ ⟨rfl, hy⟩
              rw [List.getElem?_map] at hy
              obtain ⟨v, hw', rfl⟩ := Option.map_eq_some_iff.mp hy
              refine ⟨rfl, tyes ⟨_, rfl, ⟨v, rfl⟩, v, " ", rfl, rfl, by decide +kernel, b2 (tok v (List.mem_of_getElem? hw')).1, fun u hu => ⟨u, _, rfl, .inl ⟨SqL.of upd_same, fun tt htt => ?_⟩⟩⟩⟩
              have s11 := same_new (o := .lst ((Txt.split v " ").map V.str)) hu
              have s12 := same_new (o := .tup ((Txt.split v " ").map V.str)) htt
              have hz12 := s12 _ _ (s11 _ _ hz)
              have nt : tt ≠ D := (ne_of_none (s11 _ _ hz) htt).symm
              have np : tt ≠ pd := (ne_of_none (s11 _ _ (s10 _ _ hk9)) htt).symm
              refine ⟨zs, hz12, ?_, ?_⟩
              · have h2 := dpAll_len dz
                rw [List.length_map, List.length_take] at h2
                rw [h2]
                exact Nat.lt_of_le_of_lt (Nat.le_trans (Nat.min_le_right _ _) tlen) (by decide)
              · refine ⟨fun b u e => ?_, _, upd_same, ?_⟩
                · rw [upd_ne (ne_of_none e hD)]
                  exact s12 _ _ (s11 _ _ (s10 _ _ e))
                · rw [List.take_add_one, hw', List.map_append]
                  exact dpAll_snoc (dpAll_mono (but_of ((but_of (s11.trans s12)).trans (but_upd _ _ _))) dz) (.tup (SqT.of (by rw [but_ne np, but_ne nt, upd_ne nt]; exact upd_same)) (dpAll_strs _))
            · rintro H10 ⟨s10, zs, hz, dz⟩
              rw [List.length_map, List.take_length] at dz
              have es : ((Txt.split w ", ").map fun s => strsD (Txt.split s " ")) = ((Txt.split w ", ").map fun s => Txt.split s " ").map strsD := by rw [List.map_map]; rfl
              rw [es] at dz
              generalize ((Txt.split w ", ").map fun s => Txt.split s " ") = sss at dz gd elr
              have zB : but H10 pd D = some (.lst zs) := by rw [but_ne nDp]; exact hz
              have dzB : DpAll K (but H10 pd) zs (sss.map strsD) := dpAll_mono (but_of (but_le H10 D)) dz
              have dD : Dp K (but H10 pd) (.ref D) (prgD sss) := .lst (SqL.of zB) dzB
              have sh := prg_shaped gd
              have hk10 := s10 _ _ hk9
              have sH10 := sH9.trans s10
              have sx := s9.trans s10
              have one := fun (ls : List Str) => lawRows_one (ms := ms) (acc := acc) (ls := ls) elr
              refine ⟨_, rfl, _, rfl, q3, _, 0, .str k, rfl, rfl, SqL.of (s10 _ _ f9), i0, .ref D, some (prgD sss), k, rfl, .dat (dp_mono (but_le _ _) dD) sh (fun s e => nomatch e), prg_ok gd, ck2, fun H11 s11 => ⟨_, rfl, ?_⟩⟩
              rw [show progO k (some (prgD sss)) = progS k sss from rfl]
              cases cp : progS k sss with
              | false => exact iteTe rfl (bad (by rw [one, if_pos (.inr (.inr (by unfold rowOk; rw [cp]; rfl)))]) _ (sH10.trans s11))
              | true =>
              refine iteFe rfl ?_
              have hz11 := s11 _ _ hz
              have hk11 := s11 _ _ hk10
              have sB := s5.trans (sx.trans s11)
              obtain ⟨mg, ml1, _⟩ := md1.mono sB
              have dz11 := dpAll_mono ((but_le H10 pd).trans s11) dzB
              refine ⟨_, rfl, D, rfl, ⟨_, SqL.of hz11⟩, fun D2 hD2 => ?_⟩
              have nD2 : D2 ≠ pd := (ne_of_none hk11 hD2).symm
              refine lc_it walk_list (fun j H' => Same H11 H' ∧ ∃ ys, H' D2 = some (.lst ys) ∧ DpAll K (but H' D2) ys (((sss.take j).filter (badS ms)).map strsD)) ⟨same_new hD2, [], upd_same, .nil⟩ (fun j H' _ ⟨s, _⟩ => SqL.of (s _ _ hz11)) ?_ ?_
              · rintro j y H12 H13 hj ⟨s12, ys, hys, dys⟩ ⟨rfl, hy⟩
                obtain ⟨d, hd, dy⟩ := dpAll_get dz11 hy
                rw [List.getElem?_map] at hd
                obtain ⟨ss, hss, rfl⟩ := Option.map_eq_some_iff.mp hd
                have hm := List.mem_of_getElem? hss
                obtain ⟨b, rfl, hb⟩ := dp_strsT (dp_mono s12 dy)
                have ylen : ys.length < sizeLine := by
                  have h2 := dpAll_len dys
                  rw [List.length_map] at h2
                  rw [h2]
                  exact Nat.lt_of_le_of_lt (Nat.le_trans (List.length_filter_le _ _) (Nat.le_trans (List.length_take_le' _ _) (prog_len cp).2)) (by decide)
                obtain ⟨w0, ws, rfl⟩ : ∃ w0 ws, ss = w0 :: ws := by
                  cases ss with
                  | nil => exact absurd rfl (step_three (prog_step cp hm)).1
                  | cons w0 ws => exact ⟨w0, ws, rfl⟩
                have nx : (sss.take (j + 1)).filter (badS ms) = (sss.take j).filter (badS ms) ++ if badS ms (w0 :: ws) = true then [w0 :: ws] else [] := by
                  rw [List.take_add_one, hss, List.filter_append, Option.toList_some, List.filter_cons, List.filter_nil]
                have r0 : atI ((w0 :: ws).map V.str) 0 = some (V.str w0) := by
                  rw [List.map_cons]
                  simp [atI, ixN]
                have stay : badS ms (w0 :: ws) = false → ∀ H', Same H13 H' → Same H11 H' ∧ ∃ ys, H' D2 = some (.lst ys) ∧ DpAll K (but H' D2) ys (((sss.take (j + 1)).filter (badS ms)).map strsD) := fun e H' s' => by
                  rw [nx, e, if_neg (by decide), List.append_nil]
                  exact ⟨s12.trans s', ys, s' _ _ hys, dpAll_mono (but_of s') dys⟩
                refine ⟨rfl, _, rfl, b, _, 0, V.str w0, rfl, rfl, hb, r0, rfl, _, rfl, ?_⟩
                by_cases e : w0 = "lock"
                · obtain ⟨x, z, ez⟩ := prog_lock cp hm e
                  injection ez with ez1 ez2
                  subst ez1 ez2
                  refine iteTe (decide_eq_true rfl) ?_
                  have r2 : atI (([("lock" : Str), x, z] : List Str).map V.str) 2 = some (V.str z) := rfl
                  refine ⟨_, rfl, b, _, 2, V.str z, rfl, rfl, hb, r2, _, rfl, g, _, 0, .ref l1, rfl, rfl, s12.seq mg, rfl, l1, _, rfl, .inl (s12.seq ml1), rfl, flat_strs ms, _, rfl, ?_⟩
                  rw [in_strs]
                  by_cases cz : z ∈ ms
                  · refine iteFe (by rw [decide_eq_true cz]; rfl) (stay ?_ _ (Same.refl _))
                    unfold badS
                    show (decide (("lock" : Str) = "lock") && !decide (z ∈ ms)) = false
                    rw [decide_eq_true cz, Bool.not_true, Bool.and_false]
                  · have eb : badS ms [("lock" : Str), x, z] = true := by
                      unfold badS
                      show (decide (("lock" : Str) = "lock") && !decide (z ∈ ms)) = true
                      rw [decide_eq_false cz, decide_eq_true rfl]
                      rfl
                    refine iteTe (by rw [decide_eq_false cz]; rfl) ⟨_, rfl, ys, hys, ylen, fun c u ec => ?_, _, upd_same, ?_⟩
                    · rw [upd_ne (ne_of_none ec hD2)]
                      exact s12 _ _ ec
                    · rw [nx, eb, if_pos rfl, List.map_append]
                      have dB : Dp K (but (upd H11 D2 (.lst [])) D2) (.ref b) (strsD [("lock" : Str), x, z]) := dp_mono (fun c u ec => by
                        rw [but_ne (ne_of_none ec hD2), upd_ne (ne_of_none ec hD2)]
                        exact ec) dy
                      have sE : Same (but (upd H11 D2 (.lst [])) D2) (but (upd H13 D2 (.lst (ys ++ [.ref b]))) D2) := fun c u ec => by
                        have nc : c ≠ D2 := fun zz => by
                          rw [zz, but_same] at ec
                          cases ec
                        rw [but_ne nc, upd_ne nc] at ec
                        rw [but_ne nc, upd_ne nc]
                        exact s12 _ _ ec
                      exact dpAll_snoc (dpAll_mono (but_upd _ _ _) dys) (dp_mono sE dB)
                · refine iteFe (decide_eq_false fun z => e (by injection z)) (iteF (stay ?_ _ (Same.refl _)))
                  unfold badS
                  show (decide (w0 = "lock") && _) = false
                  rw [decide_eq_false e]
                  rfl
              · rintro H12 ⟨s12, ys, hys, dys⟩
                have zl := dpAll_len dz11
                rw [List.length_map] at zl
                rw [zl, List.take_length] at dys
                refine ⟨Nat.zero_le _, fun q9 hq9 => ?_⟩
                have u9 := same_new (o := .lst []) hq9
                refine ⟨_, _, .lst (SqL.of (u9 _ _ hys)) (dpAll_mono ((but_le _ _).trans u9) dys), .lst (SqL.of upd_same) .nil, prg_shaped (r := (k, sss.filter (badS ms))) ⟨gd.1, Nat.le_trans (List.length_filter_le _ _) gd.2.1, fun ss hs => gd.2.2 ss (List.mem_filter.mp hs).1⟩, shaped_nil, _, rfl, ?_⟩
                rw [eqv_nil, List.isEmpty_map, badS_none]
                have sU := s11.trans (s12.trans u9)
                have sH12 := sH10.trans sU
                have hkU := sU _ _ hk10
                have fU := sU _ _ (s10 _ _ f9)
                have sxU := sx.trans sU
                generalize upd H12 q9 (.lst []) = H13 at u9 sU sH12 hkU fU sxU
                cases cl : lockOk ms sss with
                | false => exact iteTe rfl (bad (by rw [one, if_pos (.inr (.inr (by unfold rowOk; rw [cp, cl]; rfl)))]) _ sH12)
                | true =>
                rw [decide_eq_false ck] at kin
                have kn : valV kvs (.inr k) = none := Option.not_isSome_iff_eq_none.mp (by rw [kin]; decide)
                have kl : kvs.length < sizeLine := by
                  have h2 := en.len
                  rw [show (entsP acc).length = acc.length from List.length_map ..] at h2
                  rw [h2]
                  exact Nat.lt_of_le_of_lt (show acc.length ≤ 100001 by omega) (by decide)
                refine iteFe rfl ⟨_, rfl, _, rfl, _, rfl, q3, _, 0, .str k, rfl, rfl, SqL.of fU, i0, pd, _, rfl, .inl ⟨kvs, .inr k, hkU, rfl, kl, rfl⟩, _, _, _, _, acc ++ [(k, sss)], rfl, but_mut (x := pd) (s5.trans sxU), upd_same, ?_, ?_, ?_, ?_⟩
                · rw [putK_new _ kn]
                  have e1 : entsP (acc ++ [(k, sss)]) = entsP acc ++ [(.inr k, prgD sss)] := by
                    unfold entsP
                    rw [List.map_append]
                    rfl
                  rw [e1]
                  exact (en.mono ((but_of sxU).trans (but_upd _ _ _))).snoc (dp_mono ((but_of sU).trans (but_upd _ _ _)) dD) sh
                · rw [el, one, if_neg]
                  rintro (z | z | z)
                  · exact ck z
                  · exact z ck2
                  · unfold rowOk at z
                    rw [cp, cl] at z
                    cases z
                · rw [List.length_append, List.length_singleton]
                  omega
                · intro r hr
                  rcases List.mem_append.mp hr with z | z
                  · exact ak r z
                  · rw [List.mem_singleton.mp z]
                    exact ck2
          · exact iteTe (by rw [decide_eq_false ck2]; rfl) (bad (by rw [lawRows_one elr, if_pos (.inr (.inl ck2))]) _ (sH6.trans s8))
        · refine iteTe ?_ (iteT (bad (lawRows_bad (lineL_two c2)) _ sH6))
          rw [decide_eq_false fun z => c2 (by injection z with z; rw [List.length_map] at z; omega)]
          rfl
      · rintro σ H5 ⟨v4, v5, v6, kvs, acc, rfl, s5, hk, en, el, al, ak⟩
        rw [List.length_map, List.drop_length] at el
        have el : lawRows ms [] lines = some acc := el
        rw [el] at k1 k2
        have enH := en.mono (but_le H5 pd)
        have ek := entsP_keys enH
        refine ⟨_, rfl, pd, kvs, rfl, .inl hk, fun q5 hq5 => ?_⟩
        rw [ek]
        have s6 := same_new (o := .lst ((acc.map (·.1)).map V.str)) hq5
        refine ⟨_, rfl, pd, kvs, acc, rfl, s6 _ _ hk, enH.mono s6, fun H7 q7 s7 n7 h7 => ?_⟩
        have s67 := s6.trans s7
        refine ⟨strsL (acc.map (·.1)), strsL (gvR acc), .lst (SqL.of (s7 _ _ upd_same)) (dpAll_strs _), .lst (SqL.of h7) (dpAll_strs _), kindsS_shaped fun s hs => ?_, kindsS_shaped fun s hs => (List.mem_filter.mp hs).1, _, rfl, ?_⟩
        · obtain ⟨r, hr, rfl⟩ := List.mem_map.mp hs
          exact ak r hr
        rw [eqv_strsL]
        have sA := sb1.trans (s5.trans s67)
        by_cases c : acc.map (·.1) = gvR acc
        · refine iteTe (decide_eq_true c) ⟨_, rfl, _, rfl, by show 1 ≤ sizeLine; decide, fun q8 hq8 => ?_⟩
          have s8 := same_new (o := .lst [.ref pd]) hq8
          have sg := (s5.trans s67).trans s8
          refine ⟨g, q8, _, _, rfl, rfl, sg _ _ hg4, upd_same, by show 3 ≤ sizeLine; decide, fun q9 hq9 => ?_⟩
          have s9 := same_new (o := .lst ([.ref l1, .ref l2] ++ [.ref pd])) hq9
          have s69 := s67.trans (s8.trans s9)
          obtain ⟨_, m1, m2, m3, m4⟩ := md1.mono (sg.trans s9)
          exact k2 acc (by rw [Option.bind_some, if_pos c]) _ q9 l1 l2 pd (sA.trans (s8.trans s9)) ⟨SqL.of upd_same, m1, ⟨m2, m3, m4⟩, kvs, s69 _ _ hk, enH.mono s69⟩
        · exact iteFe (decide_eq_false c) (k1 (by rw [Option.bind_some, if_neg c]) _ sA)
theorem ok_law_programs (T : Txt K mg w) : FnOk P w K mg base CX0 5 T.f_law_programs T.fd_law_programs ["_law_box_here", "_law_modes"] (sp_lprograms24 K) := by
  refine T.F_law_programs.ok sc_law_programs (fun vs H Q E h => ?_) (fun cdv A outer s H vs Q E hr h => ?_)
  · obtain ⟨H0, p, m, n, ms, rfl, _⟩ := h
    rfl
  · obtain ⟨H0, p, m, n, ms, rfl, B, hm, hm0, hmz, hmok, hn, k⟩ := h
    refine ⟨_, (pss_cons (ps_set (i := 2) sc_law_programs.nd rfl (Or.inl rfl) pe_dnewK)
        (pss_cons (ps_for PassesOwn.never rfl (pi_list (pe_call (ok_law_mixed T) (hr.mono (by decide)) rfl T.m_law_mixed T.F_law_mixed.kp T.b_law_mixed .nil pass0 (pa_cons (pv 0) (pa_cons (pe_call0 (ok_law_kinds T) (hr.mono (by decide)) rfl T.m_law_kinds T.F_law_kinds.kp T.b_law_kinds .nil pass0) pa_nil)))) (pg_name (i := 3) sc_law_programs.nd rfl (Or.inl rfl))
          (pss_one (ps_if (pt_cmpR op_gt (pe_call (ok_law_take T) (hr.mono (by decide)) rfl T.m_law_take T.F_law_take.kp T.b_law_take .nil pass0 (pa_cons (pv 0) (pa_cons pe_int pa_nil))) pe_int (nomark _)) (pss_one (ps_dput (hu_of hr) (pv 2) (pv 3) (pe_call (ok_law_program T) hr rfl T.m_law_program T.F_law_program.kp T.b_law_program .nil pass0 (pa_cons (pv 0) (pa_cons (pv 3) (pa_cons (pv 1) pa_nil)))) rfl)) pss_nil)))
        (pss_one (ps_ret (pv 2))))), ?_⟩
    refine fun d hd => ?_
    have B1 := B.keep (same_new (o := .dK []) hd)
    have d1 : (upd H d (.dK [])) d = some (.dK []) := upd_same
    have g0 : H0 d = none := B.same.free hd
    generalize upd H d (.dK []) = H1 at B1 d1
    refine ⟨_, rfl, rfl, fun lk hlk => ?_⟩
    have nlk : lk ≠ d := (ne_of_none d1 hlk).symm
    have B2 := B1.keep (same_new (o := .lst (kindsL.map V.str)) hlk)
    have d2 := (same_new (o := .lst (kindsL.map V.str)) hlk) _ _ d1
    have l2 : (upd H1 lk (.lst (kindsL.map V.str))) lk = some (.lst (kindsL.map V.str)) := upd_same
    generalize upd H1 lk (.lst (kindsL.map V.str)) = H2 at B2 d2 l2
    obtain ⟨W, sW, ndp⟩ := B2.with_ d2 g0
    refine ⟨_, p, lk, _, kindsL.map V.str, rfl, W, l2, by decide, (by show n + 8 < 1000000; omega), fun r0 H3 ys s3 hr00 hr0p hr0 hpm B5 => ?_⟩
    obtain ⟨ks, rfl, hks⟩ := strs_of (xs := ys) (W := kindsL) fun y hy => by
      obtain ⟨s, hs, e⟩ := List.mem_map.mp (hpm.mem_iff.mp hy)
      exact ⟨s, hs, e.symm⟩
    have kl : ks.length = 8 := by
      have := hpm.length_eq
      rw [List.length_map, List.length_map] at this
      exact this
    have knd : ks.Nodup := by
      have h2 : ((ks.map V.str).map fun v => match v with | .str s => s | _ => Str.empty).Perm ((kindsL.map V.str).map fun v => match v with | .str s => s | _ => Str.empty) := hpm.map _
      rw [List.map_map, List.map_map] at h2
      have i1 : (fun v => match v with | .str s => s | _ => Str.empty) ∘ V.str = (id : Str → Str) := rfl
      rw [i1, List.map_id, List.map_id] at h2
      exact h2.nodup_iff.mpr kinds_nd
    have d3 := s3 _ _ (show (upd H0 d (.dK [])) d = _ from upd_same)
    have B5 : BoxIn (upd H0 d (.dK [])) H3 p (n + 8) := B5
    have BA := B5.all
    obtain ⟨G0, sG0, BG0, g00, gr0, gm⟩ : ∃ G0, Same H0 G0 ∧ BoxIn G0 H3 p (n + 8) ∧ G0 d = none ∧ G0 r0 = some (.lst (ks.map V.str)) ∧ G0 m = some (.lst (ms.map V.str)) := by
      have nrd : r0 ≠ d := fun z => by
        rw [z, upd_same] at hr00
        cases hr00
      obtain ⟨l1, l2'⟩ := less_ok (sW.trans BA.2) BA.1 g0
      exact ⟨_, l1, l2', but_same, by rw [but_ne nrd, but_ne hr0p]; exact hr0, l1 _ _ hm⟩
    clear B B1 B2 W BA B5 sW hlk nlk l2
    have szk : ∀ {j : Nat}, j < 8 → n + 8 + 202 * (j + 1) < 1000000 := fun h => by omega
    refine ⟨r0, rfl, ⟨_, SqL.of hr0⟩, for_list (K := K) (a := r0) (xs := ks.map V.str) (fun j σ H' => ∃ (v3 : Option V) (G : Hp) (kvs : List (Key × V)) (rows : List Row), σ = [some (.ref p), some (.ref m), some (.ref d), v3] ∧ Same G0 G ∧ BoxIn G H' p (n + 8 + 202 * j) ∧ G d = none ∧ H' d = some (.dK kvs) ∧ Ents K G kvs (entsP rows) ∧ (rows.map (·.1)).Nodup ∧ (∀ r ∈ rows, r.1 ∈ ks.take j ∧ drawR ms r))
      ⟨none, G0, [], [], rfl, Same.refl _, BG0, g00, d3, .nil, List.nodup_nil, fun r hr => (List.not_mem_nil hr).elim⟩ (fun j σ H' _ ⟨_, G, _, _, _, sG, b, _⟩ => SqL.of (b.same _ _ (sG _ _ gr0))) ?_ ?_⟩
    · rintro j x σ H4 hx ⟨v3, G, kvs, rows, rfl, sG, BK, gd, hd4, en, rnd, hrow⟩
      rw [List.getElem?_map] at hx
      obtain ⟨kd, hkd, rfl⟩ := Option.map_eq_some_iff.mp hx
      have hk : kd ∈ kindsL := hks kd (List.mem_of_getElem? hkd)
      have hj : j < 8 := by
        have := (List.getElem?_eq_some_iff.mp hkd).1
        omega
      have stay : ∀ r ∈ rows, r.1 ∈ ks.take (j + 1) ∧ drawR ms r := fun r hr => by
        rw [List.take_add_one]
        exact ⟨List.mem_append_left _ (hrow r hr).1, (hrow r hr).2⟩
      obtain ⟨W, sW, ndp⟩ := BK.with_ hd4 gd
      refine ⟨_, rfl, _, p, _, 3, rfl, W, by have := szk hj; omega, by decide, by decide, fun z H5 z0 z1 B5 => ⟨_, _, rfl, rfl, ⟨_, rfl, ?_⟩⟩⟩
      have d5 := B5.same _ _ (show (upd G d (.dK kvs)) d = _ from upd_same)
      by_cases c : 0 < z
      · refine iteTe (decide_eq_true c) ⟨_, rfl, _, rfl, _, rfl, upd G d (.dK kvs), p, m, _, kd, ms, rfl, hk, B5, sW _ _ (sG _ _ gm), hm0, hmz, hmok, by have := szk hj; omega, fun G1 H6 l sss sG1 B6 hl hp hg => ?_⟩
        have d61 := sG1 _ _ (show (upd G d (.dK kvs)) d = _ from upd_same)
        have d6 := B6.same _ _ d61
        obtain ⟨l1, l2⟩ := less_ok (sW.trans sG1) B6 gd
        have en1 := en.mono l1
        have dD : Dp K (but G1 d) (.ref l) (prgD sss) := by
          obtain ⟨xs, x1, x2⟩ := hl
          exact dp_nd (nd_less d61) (.lst (SqL.of x1) x2)
        have dr : drawR ms (kd, sss) := ⟨hk, hp, hg⟩
        have new : kd ∉ rows.map (·.1) := fun hm => by
          obtain ⟨r, hr, e⟩ := List.mem_map.mp hm
          have h1 := (hrow r hr).1
          rw [e] at h1
          obtain ⟨i, hi, e2⟩ := List.mem_iff_getElem.mp h1
          rw [List.length_take] at hi
          rw [List.getElem_take] at e2
          obtain ⟨hj2, e3⟩ := List.getElem?_eq_some_iff.mp hkd
          exact (List.pairwise_iff_getElem.mp knd) i j (by omega) hj2 (by omega) (e2.trans e3.symm)
        have kin := entsP_in en kd
        rw [findR_has, decide_eq_false new] at kin
        have kn : valV kvs (.inr kd) = none := Option.not_isSome_iff_eq_none.mp (by rw [kin]; decide)
        have kle : kvs.length < sizeLine := by
          have h2 := en.len
          rw [show (entsP rows).length = rows.length from List.length_map ..] at h2
          have h3 : rows.length ≤ 8 := nd_len rnd fun r hr => drawR_row (hrow r hr).2
          rw [h2]
          exact Nat.lt_of_le_of_lt h3 (by decide)
        refine ⟨_, rfl, _, rfl, d, _, rfl, .inl ⟨kvs, .inr kd, d6, rfl, kle, rfl⟩, _, but G1 d, _, rows ++ [(kd, sss)], rfl, sG.trans l1, (l2.mut ndp but_same).mono (by omega), but_same, upd_same, ?_, ?_, ?_⟩
        · rw [putK_new _ kn]
          have e1 : entsP (rows ++ [(kd, sss)]) = entsP rows ++ [(.inr kd, prgD sss)] := by
            unfold entsP
            rw [List.map_append]
            rfl
          rw [e1]
          exact en1.snoc dD (prg_shaped (drawR_good dr))
        · rw [List.map_append, List.nodup_append]
          refine ⟨rnd, List.nodup_cons.mpr ⟨List.not_mem_nil, List.nodup_nil⟩, fun a ha b hb e => new ?_⟩
          have hb : b = kd := List.mem_singleton.mp hb
          subst hb
          subst e
          exact ha
        · intro r hr
          rcases List.mem_append.mp hr with q | q
          · exact stay r q
          · rw [List.mem_singleton.mp q]
            refine ⟨?_, dr⟩
            rw [List.take_add_one, hkd]
            exact List.mem_append_right _ List.mem_cons_self
      · exact iteFe (decide_eq_false c) ⟨_, G, kvs, rows, rfl, sG, (B5.low sW).mono (by omega), gd, d5, en, rnd, stay⟩
    · rintro σ H4 ⟨v3, G, kvs, rows, rfl, sG, BK, gd, hd4, en, rnd, hrow⟩
      obtain ⟨W, sW, ndp⟩ := BK.with_ hd4 gd
      rw [List.length_map, kl] at W
      exact ⟨_, rfl, k _ H4 d kvs rows ((sG0.trans sG).trans sW) (W.mono (by omega)) upd_same (en.mono sW) rnd fun r hr => (hrow r hr).2⟩
theorem ok_law (T : Txt K mg w) : FnOk P w K mg base CX0 12 T.f_law T.fd_law ["_law_script"] (sp_law K) := by
  refine T.F_law.ok sc_law (fun vs H Q E h => ?_) (fun cdv A outer s H vs Q E hr h => ?_)
  · obtain ⟨a, ns, rfl, _⟩ := h
    rfl
  · obtain ⟨a, ns, rfl, hS, hlen, k⟩ := h
    refine ⟨_, (pss_cons (ps_for PassesOwn.never rfl (pi_range1 rfl T.z_range (pa_cons (pe_callB (id := "max") (call_max2 rfl) (by rfl) T.z_max (by decide +kernel) (pa_cons pe_int (pa_cons (pe_callB (id := "min") (call_min2 rfl) (by rfl) T.z_min (by decide +kernel) (pa_cons pe_int (pa_cons (pe_callB (id := "len") call_len_seq (by rfl) T.z_len (by decide +kernel) (pa_cons (pv 0) pa_nil)) pa_nil))) pa_nil))) pa_nil)) (pg_name (i := 1) sc_law.nd rfl (Or.inl rfl))
          (pss_cons (ps_set (i := 2) sc_law.nd rfl (Or.inl rfl) (pe_call (ok_law_box T) (hr.mono (by decide)) rfl T.m_law_box T.F_law_box.kp T.b_law_box .nil pass0 (pa_cons (pe_call (ok_law_cell T) (hr.mono (by decide)) rfl T.m_law_cell T.F_law_cell.kp T.b_law_cell .nil pass0 (pa_cons (pv 0) (pa_cons (pv 1) pa_nil))) pa_nil)))
        (pss_cons (ps_set (i := 3) sc_law.nd rfl (Or.inl rfl) (pe_call (ok_law_names T) (hr.mono (by decide)) rfl T.m_law_names T.F_law_names.kp T.b_law_names .nil pass0 (pa_cons (pv 2) (pa_cons pe_int pa_nil))))
        (pss_cons (ps_set (i := 4) sc_law.nd rfl (Or.inl rfl) (pe_lst (pa_cons (pe_lst (pa_cons (pe_tup (pa_cons (pe_ix ix_list (pv 3) pe_int (fun _ _ => rfl)) (pa_cons (pe_ix ix_list (pv 3) pe_int (fun _ _ => rfl)) pa_nil))) pa_nil)) (pa_cons (pe_lst pa_nil) (pa_cons (pe_lst (pa_cons (pe_tup (pa_cons (pe_ix ix_list (pv 3) pe_int (fun _ _ => rfl)) (pa_cons (pe_ix ix_list (pv 3) pe_int (fun _ _ => rfl)) pa_nil))) (pa_cons (pe_tup (pa_cons (pe_ix ix_list (pv 3) pe_int (fun _ _ => rfl)) (pa_cons (pe_ix ix_list (pv 3) pe_int (fun _ _ => rfl)) pa_nil))) pa_nil))) (pa_cons (pe_lst (pa_cons (pe_tup (pa_cons (pe_ix ix_list (pv 3) pe_int (fun _ _ => rfl)) (pa_cons (pe_ix ix_list (pv 3) pe_int (fun _ _ => rfl)) pa_nil))) pa_nil)) pa_nil))))))
        (pss_cons (ps_set (i := 5) sc_law.nd rfl (Or.inl rfl) (pe_lst (pa_cons (pv 3) (pa_cons (pe_ix ix_list (pv 4) (pe_call (ok_law_take T) (hr.mono (by decide)) rfl T.m_law_take T.F_law_take.kp T.b_law_take .nil pass0 (pa_cons (pv 2) (pa_cons pe_int pa_nil))) (fun _ _ => rfl)) (pa_cons (pe_call (ok_law_programs T) (hr.mono (by decide)) rfl T.m_law_programs T.F_law_programs.kp T.b_law_programs .nil pass0 (pa_cons (pv 2) (pa_cons (pv 3) pa_nil))) pa_nil)))))
        (pss_cons (ps_set (i := 6) sc_law.nd rfl (Or.inl rfl) (pe_makeS T.mk_Rulebook (ok_Rulebook_init T) (hr.mono (by decide)) rfl T.g_Rulebook T.b_Rulebook_init (passAt_of passLK) (pa_cons (pe_makeS T.mk_Strengths (ok_Strengths_init T) (hr.mono (by decide)) rfl T.g_Strengths T.b_Strengths_init (passAt_of passLK) (pa_cons (pv 3) (pa_cons (pe_ix ix_list (pv 5) pe_int (fun _ _ => rfl)) pa_nil))) (pa_cons (pe_ix ix_list (pv 5) pe_int (fun _ _ => rfl)) pa_nil))))
        (pss_cons (ps_set (i := 7) sc_law.nd rfl (Or.inl rfl) (pe_call (ok_law_text T) (hr.mono (by decide)) rfl T.m_law_text T.F_law_text.kp T.b_law_text .nil pass0 (pa_cons (pv 5) pa_nil)))
        (pss_cons (ps_if (PW.pt (pw_or (pt_cmpR op_ne (pe_callTy (T := "str") (call_strI (ok_Rulebook_str T) (hr.mono (by decide)) T.b_Rulebook_str T.me_Rulebook_str.at_ T.me_Rulebook_str.fn pass0) (by rfl) T.z_str (by decide +kernel) (pa_cons (pv 6) pa_nil)) (pv 7) (nomark _)) (pw_or1 (pt_not (pt_cmpR (op_eqI (ok_Rulebook_eq T) (hr.mono (by decide)) T.b_Rulebook_eq T.me_Rulebook_eq.at_ T.me_Rulebook_eq.fn pass0) (pe_call (ok_read_protocol T) (hr.mono (by decide)) rfl T.m_read_protocol T.F_read_protocol.kp T.b_read_protocol .nil passL (pa_cons (pv 7) pa_nil)) (pv 6) (nomark _)))))) (pss_one (ps_ret pe_bl)) pss_nil)
        (pss_cons (ps_for PassesOwn.never rfl (pi_range1 rfl T.z_range (pa_cons pe_int pa_nil)) (pg_name (i := 8) sc_law.nd rfl (Or.inl rfl))
          (C8.pss_cut (ps_set (i := 9) sc_law.nd rfl (Or.inl rfl) (pe_call (ok_law_bent T) (hr.mono (by decide)) rfl T.m_law_bent T.F_law_bent.kp T.b_law_bent .nil pass0 (pa_cons (pv 2) (pa_cons (pe_ifExp (pt_cmpR op_lt (pv 8) pe_int (nomark _)) (pv 7) (pe_call (ok_law_bent T) (hr.mono (by decide)) rfl T.m_law_bent T.F_law_bent.kp T.b_law_bent .nil pass0 (pa_cons (pv 2) (pa_cons (pv 7) pa_nil)))) pa_nil))))
        (pss_cons (ps_set (i := 10) sc_law.nd rfl (Or.inl rfl) (pe_call (ok_law_read T) (hr.mono (by decide)) rfl T.m_law_read T.F_law_read.kp T.b_law_read .nil pass0 (pa_cons (pv 9) pa_nil)))
        (pss_cons (ps_set (i := 11) sc_law.nd rfl (Or.inl rfl) (pe_call (ok_law_told T) hr rfl T.m_law_told T.F_law_told.kp T.b_law_told .nil pass0 (pa_cons (pv 9) pa_nil)))
        (pss_cons (ps_if (PW.pt (pw_or (PW.pt (pw_and (pt_cmpR op_isN (pv 10) pe_non (nomark _)) (pw_and1 (pt_cmpR (op_neU hr.units) (pv 11) (pe_lst (pa_cons pe_str (pa_cons (pv 9) pa_nil))) (nomark _))))) (pw_or1 (PW.pt (pw_and (pt_cmpR op_notN (pv 10) pe_non (nomark _)) (pw_and1 (pt_cmpR op_ne (pe_ix ix_list (pv 11) pe_int (fun _ _ => rfl)) pe_str (nomark _)))))))) (pss_one (ps_ret pe_bl)) pss_nil)
        (pss_one (ps_if (pt_cmpR op_notN (pv 10) pe_non (nomark _)) (pss_cons (ps_set (i := 12) sc_law.nd rfl (Or.inl rfl) (pe_makeS T.mk_Rulebook (ok_Rulebook_init T) (hr.mono (by decide)) rfl T.g_Rulebook T.b_Rulebook_init (passAt_of passLK) (pa_cons (pe_makeS T.mk_Strengths (ok_Strengths_init T) (hr.mono (by decide)) rfl T.g_Strengths T.b_Strengths_init (passAt_of passLK) (pa_cons (pe_ix ix_list (pv 10) pe_int (fun _ _ => rfl)) (pa_cons (pe_ix ix_list (pv 10) pe_int (fun _ _ => rfl)) pa_nil))) (pa_cons (pe_ix ix_list (pv 10) pe_int (fun _ _ => rfl)) pa_nil))))
        (pss_one (ps_if (PW.pt (pw_or (pt_not (pt_cmpR (op_eqI (ok_Rulebook_eq T) (hr.mono (by decide)) T.b_Rulebook_eq T.me_Rulebook_eq.at_ T.me_Rulebook_eq.fn pass0) (pe_ix ix_list (pv 11) pe_int (fun _ _ => rfl)) (pv 12) (nomark _))) (pw_or1 (pt_cmpR op_ne (pe_callTy (T := "str") (call_strI (ok_Rulebook_str T) (hr.mono (by decide)) T.b_Rulebook_str T.me_Rulebook_str.at_ T.me_Rulebook_str.fn pass0) (by rfl) T.z_str (by decide +kernel) (pa_cons (pe_ix ix_list (pv 11) pe_int (fun _ _ => rfl)) pa_nil)) (pv 9) (nomark _))))) (pss_one (ps_ret pe_bl)) pss_nil))) pss_nil)))))))
        (pss_cons (ps_set (i := 13) sc_law.nd rfl (Or.inl rfl) (pe_lst (pa_cons pe_non (pa_cons pe_int (pa_cons pe_bl (pa_cons (pe_lst (pa_cons (pv 7) pa_nil)) (pa_cons pe_str (pa_cons pe_str (pa_cons (pv 6) (pa_cons pe_dnewK (pa_cons pe_str (pa_cons pe_str pa_nil))))))))))))
        (pss_cons (ps_set (i := 13) sc_law.nd rfl (Or.inl rfl) (pe_ix ix_list (pv 13) (pe_call (ok_law_take T) (hr.mono (by decide)) rfl T.m_law_take T.F_law_take.kp T.b_law_take .nil pass0 (pa_cons (pv 2) (pa_cons pe_int pa_nil))) (fun _ _ => rfl)))
        (pss_one (ps_if (pt_cmpR (op_neU hr.units) (pe_call (ok_law_told T) hr rfl T.m_law_told T.F_law_told.kp T.b_law_told .nil pass0 (pa_cons (pv 13) pa_nil)) (pe_lst (pa_cons pe_str (pa_cons (pv 13) pa_nil))) (nomark _)) (pss_one (ps_ret pe_bl)) pss_nil)))))))))))))
        (pss_one (ps_ret (pe_cmpR op_eq (pe_callTy (T := "str") (call_strI (ok_Rulebook_str T) (hr.mono (by decide)) T.b_Rulebook_str T.me_Rulebook_str.at_ T.me_Rulebook_str.fn pass0) (by rfl) T.z_str (by decide +kernel) (pa_cons (pe_makeS T.mk_Rulebook (ok_Rulebook_init T) (hr.mono (by decide)) rfl T.g_Rulebook T.b_Rulebook_init (passAt_of passLK) (pa_cons (pe_call0 (ok_standard T) (hr.mono (by decide)) rfl T.m_standard T.F_standard.kp T.b_standard .nil pass0) (pa_cons pe_dnewK pa_nil))) pa_nil)) (pe_callTy (T := "str") (call_strI (ok_Strengths_str T) (hr.mono (by decide)) T.b_Strengths_str T.me_Strengths_str.at_ T.me_Strengths_str.fn pass0) (by rfl) T.z_str (by decide +kernel) (pa_cons (pe_call0 (ok_standard T) (hr.mono (by decide)) rfl T.m_standard T.F_standard.kp T.b_standard .nil pass0) pa_nil)) (nomark _))))), ?_⟩
    have ic := T.ic_Rulebook
    have z2 : (2 : Nat) ≤ sizeLine := by decide
    refine ⟨_, rfl, a, _, rfl, .inl hS, _, _, rfl, _, _, rfl, _, rfl, ?_, ?_, for_range (fun i σ H' => ∃ v1 v2 v3 v4 v5 v6 v7 v8 v9 v10 v11 v12 v13, σ = [some (.ref a), v1, v2, v3, v4, v5, v6, v7, v8, v9, v10, v11, v12, v13] ∧ Same H H') ⟨none, none, none, none, none, none, none, none, none, none, none, none, none, rfl, Same.refl H⟩ ?_ ?_⟩
    · repeat' split
      all_goals omega
    · repeat' split
      all_goals omega
    · rintro i σ H1 hi ⟨v1, v2, v3, v4, v5, v6, v7, v8, v9, v10, v11, v12, v13, rfl, s1⟩
      refine ⟨_, rfl, _, rfl, a, ns, _, rfl, s1.seq hS, (by omega), fun z => ⟨z, rfl, fun p o hp bx => ?_⟩⟩
      have B : BoxIn H1 (upd H1 p o) p 0 := ⟨same_new hp, hp, bx⟩
      refine ⟨_, rfl, H1, p, 0, 3, rfl, B, by decide, by decide, fun m H2 ss s2 hm0 hmp hm l3 hok hnn nd B2 => ?_⟩
      obtain ⟨x1, x2, x3, rfl⟩ : ∃ x y z, ss = [x, y, z] := by
        match ss, l3 with
        | [x, y, z], _ => exact ⟨x, y, z, rfl⟩
      have hn : ∀ s ∈ ([x1, x2, x3] : List Str), nameS s = true := fun s hs => (hnn s hs).1
      have hm : H2 m = some (.lst [.str x1, .str x2, .str x3]) := hm
      have B3 := B2.all.1
      have m3 := B2.all.2
      have hmG : but H2 p m = some (.lst [.str x1, .str x2, .str x3]) := by rw [but_ne hmp]; exact hm
      have j0 : atI [V.str x1, .str x2, .str x3] 0 = some (.str x1) := atI_nat (j := 0) rfl
      have j1 : atI [V.str x1, .str x2, .str x3] 1 = some (.str x2) := atI_nat (j := 1) rfl
      have j2 : atI [V.str x1, .str x2, .str x3] 2 = some (.str x3) := atI_nat (j := 2) rfl
      clear B B2
      have z1 : (1 : Nat) ≤ sizeLine := by decide
      refine ⟨_, rfl, m, _, 0, .str x1, rfl, rfl, SqL.of hm, j0, _, rfl, m, _, 1, .str x2, rfl, rfl, SqL.of hm, j1, z2, fun t1 n1 => ⟨z1, fun q1 nq1 => ⟨Nat.zero_le _, fun q2 nq2 => ?_⟩⟩⟩
      have c1 := B3.new (o := .tup [.str x1, .str x2]) n1
      have c2 := c1.1.new (o := .lst [.ref t1]) nq1
      have c3 := c2.1.new (o := .lst []) nq2
      have hm3 := SqL.of (K := K) (c3.1.same _ _ (c3.2 _ _ (c2.2 _ _ (c1.2 _ _ hmG))))
      refine ⟨_, rfl, m, _, 0, .str x1, rfl, rfl, hm3, j0, _, rfl, m, _, 0, .str x1, rfl, rfl, hm3, j0, z2, fun t2 n2 => ?_⟩
      have c4 := c3.1.new (o := .tup [.str x1, .str x1]) n2
      have hm4 := (same_new (o := .tup [.str x1, .str x1]) n2).seq hm3
      refine ⟨_, rfl, m, _, 1, .str x2, rfl, rfl, hm4, j1, _, rfl, m, _, 2, .str x3, rfl, rfl, hm4, j2, z2, fun t3 n3 => ⟨z2, fun q3 nq3 => ?_⟩⟩
      have c5 := c4.1.new (o := .tup [.str x2, .str x3]) n3
      have c6 := c5.1.new (o := .lst [.ref t2, .ref t3]) nq3
      have hm6 := (same_new (o := .lst [.ref t2, .ref t3]) nq3).seq ((same_new (o := .tup [.str x2, .str x3]) n3).seq hm4)
      refine ⟨_, rfl, m, _, 2, .str x3, rfl, rfl, hm6, j2, _, rfl, m, _, 2, .str x3, rfl, rfl, hm6, j2, z2, fun t4 n4 => ⟨z1, fun q4 nq4 => ⟨(by show 4 ≤ sizeLine; decide), fun L nL => ?_⟩⟩⟩
      have c7 := c6.1.new (o := .tup [.str x3, .str x3]) n4
      have c8 := c7.1.new (o := .lst [.ref t4]) nq4
      have c9 := c8.1.new (o := .lst [.ref q1, .ref q2, .ref q3, .ref q4]) nL
      obtain ⟨G, sG, BG, gm, gL, gps⟩ : ∃ G, Same H1 G ∧ BoxIn G _ p (0 + 40) ∧ G m = some (.lst (([x1, x2, x3] : List Str).map V.str)) ∧ G L = some (.lst [.ref q1, .ref q2, .ref q3, .ref q4]) ∧ ∀ v ∈ [V.ref q1, .ref q2, .ref q3, .ref q4], ∃ q xs ps, v = .ref q ∧ G q = some (.lst xs) ∧ DpAll K G xs (ps.map prD) ∧ ps ∈ pairsL x1 x2 x3 := by
        have s8 := c9.2
        have s7 := c8.2.trans s8
        have s6 := c7.2.trans s7
        have s5 := c6.2.trans s6
        have s4 := c5.2.trans s5
        have s3 := c4.2.trans s4
        have s2 := c3.2.trans s3
        have s1 := c2.2.trans s2
        have s0 := c1.2.trans s1
        refine ⟨_, m3.trans s0, c9.1, s0 _ _ hmG, upd_same, fun v hv => ?_⟩
        simp only [List.mem_cons, List.not_mem_nil, or_false] at hv
        have tp : ∀ {G : Hp} {t : Addr} {a b : Str}, G t = some (.tup [.str a, .str b]) → Dp K G (.ref t) (prD (a, b)) := fun h => .tup (SqT.of h) (.cons (.str _) (.cons (.str _) .nil))
        unfold pairsL
        rcases hv with rfl | rfl | rfl | rfl
        · exact ⟨q1, _, [(x1, x2)], rfl, s2 _ _ upd_same, .cons (tp (s1 _ _ upd_same)) .nil, by simp⟩
        · exact ⟨q2, _, [], rfl, s3 _ _ upd_same, .nil, by simp⟩
        · exact ⟨q3, _, [(x1, x1), (x2, x3)], rfl, s6 _ _ upd_same, .cons (tp (s4 _ _ upd_same)) (.cons (tp (s5 _ _ upd_same)) .nil), by simp⟩
        · exact ⟨q4, _, [(x3, x3)], rfl, s8 _ _ upd_same, .cons (tp (s7 _ _ upd_same)) .nil, by simp⟩
      clear c1 c2 c3 c4 c5 c6 c7 c8 c9 hm3 hm4 hm6
      refine ⟨_, rfl, _, rfl, _, rfl, _, p, _, 4, rfl, BG, by decide, by decide, by decide, fun zp H3 zp0 zp1 B4 => ?_⟩
      obtain ⟨w1, hw1, hmw⟩ := atI_in (xs := [V.ref q1, .ref q2, .ref q3, .ref q4]) zp0 zp1
      obtain ⟨l2, xs, ps, rfl, gl2, gxs, hps⟩ := gps w1 hmw
      refine ⟨L, _, zp, _, rfl, rfl, SqL.of (B4.same _ _ gL), hw1, _, rfl, _, rfl, G, p, m, _, [x1, x2, x3], rfl, B4, gm, (by simp), (by simp), hok, (by decide), fun G2 H5 d kvs rows sG2 B5 hd en rnd hdr => ⟨(by show 3 ≤ sizeLine; decide), fun g ng => ?_⟩⟩
      have c1 := B5.new (o := .lst [.ref m, .ref l2, .ref d]) ng
      obtain ⟨G3, H6, sG3, B6, md, eH⟩ : ∃ G3 H6, Same H1 G3 ∧ BoxIn G3 H6 p 2100 ∧ M24 K G3 g m l2 d [x1, x2, x3] ps rows ∧ H6 = upd H5 g (.lst [.ref m, .ref l2, .ref d]) := by
        refine ⟨_, _, sG.trans (sG2.trans c1.2), c1.1.mono (by decide), ⟨SqL.of upd_same, SqL.of (c1.2 _ _ (sG2 _ _ gm)), ⟨xs, SqL.of (c1.2 _ _ (sG2 _ _ gl2)), dpAll_mono (sG2.trans c1.2) gxs⟩, kvs, c1.2 _ _ hd, en.mono c1.2⟩, rfl⟩
      rw [← eH]
      clear eH c1 B5 B4 BG gps sG2 gl2 gxs hd en gm gL ng
      obtain ⟨can, pm, pl⟩ := pairs_rise nd ps hps
      have hR : ∀ r ∈ rows, r.1 ∈ kindsL ∧ rowOk [x1, x2, x3] r = true := fun r hr => drawR_row (hdr r hr)
      have gR : ∀ r ∈ rows, goodR r := fun r hr => drawR_good (hdr r hr)
      have okR := rows_ok hR
      have m8 : 1 ≤ ([x1, x2, x3] : List Str).length ∧ ([x1, x2, x3] : List Str).length ≤ 8 := by simp
      generalize ([x1, x2, x3] : List Str) = ms at hn nd md can pm hR okR m8 l3
      have i1 : atI [V.ref m, .ref l2, .ref d] 1 = some (.ref l2) := atI_nat (j := 1) rfl
      have i2 : atI [V.ref m, .ref l2, .ref d] 2 = some (.ref d) := atI_nat (j := 2) rfl
      have md6 := md.mono B6.same
      obtain ⟨mg6, mm6, ⟨ys6, ml6, mx6⟩, kvs6, mk6, me6⟩ := id md6
      refine ⟨_, rfl, _, rfl, g, _, 1, .ref l2, rfl, rfl, mg6, i1, fun xs1 dxs hxs hdxs ne => ?_⟩
      have okp : okPs ms ps := ⟨by omega, pm⟩
      refine made_ok (ps := ps) hxs hdxs ne (.ok mm6 hn nd m8) (carg_ok hn ml6 mx6 okp) fun H7 s7 st => ⟨rfl, ?_⟩
      have md7 := md6.mono s7
      obtain ⟨mg7, mm7, ⟨ys7, ml7, mx7⟩, kvs7, mk7, me7⟩ := id md7
      refine ⟨_, rfl, g, _, 2, .ref d, rfl, rfl, mg7, i2, fun xb dxb hxb hdxb neb => rmade_ok hxb hdxb st.at_ mk7 me7 gR rnd okR fun H8 s8 rb => ⟨rfl, ?_⟩⟩
      have md8 := md7.mono s8
      refine ⟨_, rfl, g, m, l2, d, ms, ps, rows, rfl, md8, hn, m8, pm, (by omega), hR, fun H9 s9 => ?_⟩
      have B9 := B6.keep (s7.trans (s8.trans s9))
      have rb9 := rb.mono s9
      have g3x : G3 xb = none := (B6.same.trans s7).free hxb
      have canR := canon_ok okR
      have c8 : (canon rows).length ≤ 8 := nd_len (canon_nd rows) canR
      have cshort : ∀ r ∈ canon rows, shortR r := fun r hr => row_short (canR r hr).1 (canR r hr).2
      have cgood : ∀ r ∈ canon rows, goodR r := fun r hr => row_good (canR r hr).1 (canR r hr).2
      have okB : okMB ms = true := by
        unfold okMB
        rw [decide_eq_true nd, decide_eq_true m8.2, List.all_eq_true.mpr hn]
        rfl
      have rd : readR (textR ms ps (canon rows)) = some (ms, ps, canon rows) := by
        rw [← lawR_is]
        exact lawR_told okB m8.1 can (canon_nd rows) (gvR_canon rows) canR
      obtain ⟨tok, tlen⟩ := text_tok hn m8 pm (by omega) canR c8
      have sx : textR ms (prsOf (ag ms ps) ms) (canon rows) = textR ms ps (canon rows) := by rw [can]
      generalize htx : textR ms ps (canon rows) = tx at rd tok tlen sx
      obtain ⟨dxx, ax, ddx, kvx, hxx, _⟩ := id rb9
      obtain ⟨BG, sG5⟩ := B9.withI hxx g3x
      have gx : upd G3 xb (.ins T.C_Rulebook dxx (fsR ax ddx)) xb = some (.ins T.C_Rulebook dxx (fsR ax ddx)) := upd_same
      have sGG := sG3.trans sG5
      generalize upd G3 xb (.ins T.C_Rulebook dxx (fsR ax ddx)) = G at BG gx sGG
      refine ⟨_, rfl, xb, dxx, _, rfl, hxx, xb, ms, _, _, rfl, rb9, hn, m8, c8, canon_nd rows, cshort, fun H10 s10 => ⟨_, rfl, _, rfl, rfl, _, rfl, iteFe ?_ ?_⟩⟩
      · rw [sx]
        simp
      refine ⟨_, rfl, .str tx, some (.str tx), rfl, .inl (tOk_vd tok), fun t' ms' ps' rows' e1 e2 H11 y s11 rby => ?_, fun z => absurd (z tx rfl) (by rw [rd]; exact fun w => nomatch w)⟩
      injection e1 with e1
      injection e1 with e1
      subst e1
      rw [rd] at e2
      injection e2 with e2
      injection e2 with e2 e3
      injection e3 with e3 e4
      subst e2 e3 e4
      have B11 := BG.keep (s10.trans s11)
      refine ⟨_, rfl, eqI_rb ic rby (rb9.mono (s10.trans s11)) hn hn ⟨_, rfl, iteFe (by rw [rb_same (canon_nd rows) cgood]; rfl) ?_⟩⟩
      refine ⟨_, rfl, by decide, by decide, for_range (fun j σ H' => ∃ v8 v9 v10 v11 v12 : Option V, σ = [some (.ref a), some (.int (0 + (i : Int))), some (.ref p), some (.ref m), some (.ref L), some (.ref g), some (.ref xb), some (.str tx), v8, v9, v10, v11, v12, v13] ∧ BoxIn G H' p (2100 + 10 * j)) ⟨v8, v9, v10, v11, v12, rfl, B11.mono (by omega)⟩ ?_ ?_⟩
      · rintro j σ H12 hj ⟨v8, v9, v10, v11, v12, rfl, B⟩
        have hj : j < 5 := hj
        refine ⟨fun σ H' => ∃ u : Str, σ = [some (.ref a), some (.int (0 + (i : Int))), some (.ref p), some (.ref m), some (.ref L), some (.ref g), some (.ref xb), some (.str tx), some (.int (0 + (j : Int))), some (.str u), v10, v11, v12, v13] ∧ BoxIn G H' p (2100 + 10 * (j + 1)) ∧ tOk u, ?_, ?_⟩
        · refine ⟨_, rfl, _, rfl, _, _, rfl, rfl, _, rfl, ?_⟩
          by_cases c : (0 + (j : Int)) < 4
          · exact iteTe (decide_eq_true c) ⟨_, rfl, G, p, _, tx, rfl, B, tok, by omega, by omega, fun H9 u B9 uok _ => ⟨u, rfl, B9.mono (by omega), uok⟩⟩
          · exact iteFe (decide_eq_false c) ⟨_, rfl, _, rfl, G, p, _, tx, rfl, B, tok, by omega, by omega, fun H9 u B9 uok ul => ⟨G, p, _, u, rfl, B9, uok, by omega, by omega, fun H10 w B10 wok _ => ⟨w, rfl, B10.mono (by omega), wok⟩⟩⟩
        rintro σ H13 ⟨u, rfl, B13, uok⟩
        clear B
        have er := lawR_is u
        refine ⟨_, rfl, u, rfl, uok, fun e H14 s14 => ?_, fun ms' ps' rows' e H14 q l1' l2' pd' s14 M => ?_⟩
        · rw [e] at er
          refine ⟨_, rfl, .str u, some (.str u), rfl, .inl (tOk_vd uok), fun t' ms' ps' rows' e1 e2 => ?_, fun _ H15 q s15 hq => ?_⟩
          · injection e1 with e1
            injection e1 with e1
            subst e1
            rw [← er] at e2
            cases e2
          refine ⟨_, rfl, rfl, _, rfl, iteTe (decide_eq_true rfl) ⟨_, rfl, _, rfl, z2, fun t2 ht2 => ?_⟩⟩
          have s16 := same_new (o := .lst [.str "text", .str u]) ht2
          have fin := (B13.keep (s14.trans s15)).keep s16
          refine .inl ⟨q, t2, [.str "text", .str u], rfl, rfl, SqL.of (s16 _ _ hq), SqL.of upd_same, rfl, _, rfl, iteF ⟨_, rfl, rfl, _, rfl, iteFe (by simp) (iteF ⟨_, rfl, rfl, _, rfl, iteFe (by simp) ⟨_, _, _, _, _, rfl, fin⟩⟩)⟩⟩
        · rw [e] at er
          obtain ⟨ok', m8', can', nd', hR', tx', cs'⟩ := readR_facts er.symm
          have hn' := okM_names ok'
          refine ⟨_, rfl, .str u, some (.str u), rfl, .inl (tOk_vd uok), fun t' ms2 ps2 rows2 e1 e2 H15 gq y s15 hg rby2 => ?_, fun z => absurd (z u rfl) (by rw [← er]; exact fun w => nomatch w)⟩
          injection e1 with e1
          injection e1 with e1
          subst e1
          rw [← er] at e2
          injection e2 with e2
          injection e2 with e2 e3
          injection e3 with e3 e4
          subst e2 e3 e4
          refine ⟨_, rfl, rfl, _, rfl, iteFe (by simp) (iteF ⟨_, rfl, rfl, _, rfl, iteTe (by simp) ⟨_, rfl, gq, _, 0, .str "read", rfl, rfl, SqL.of hg, atI_nat (j := 0) rfl, rfl, _, rfl, iteFe (by simp) ⟨_, rfl, rfl, _, rfl, iteTe (by simp) ?_⟩⟩⟩)⟩
          have k0 : atI [V.ref l1', .ref l2', .ref pd'] 0 = some (.ref l1') := atI_nat (j := 0) rfl
          have k1 : atI [V.ref l1', .ref l2', .ref pd'] 1 = some (.ref l2') := atI_nat (j := 1) rfl
          have k2 : atI [V.ref l1', .ref l2', .ref pd'] 2 = some (.ref pd') := atI_nat (j := 2) rfl
          have M15 := M.mono s15
          obtain ⟨ng5, nm5, ⟨ny5, nl5, nx5⟩, nk5, nd5, ne5⟩ := id M15
          have pm' : ∀ p ∈ ps', p.1 ∈ ms' ∧ p.2 ∈ ms' := fun p hp => mem_prsOf (f := ag ms' ps') (by rw [can']; exact hp)
          have pl' : ps'.length ≤ 40 := by
            have := prs36 (ag ms' ps') m8'.2
            rw [can'] at this
            exact this
          have gR' : ∀ r ∈ rows', goodR r := fun r hr => row_good (hR' r hr).1 (hR' r hr).2
          have len8' : rows'.length ≤ 8 := nd_len nd' hR'
          refine ⟨_, rfl, q, _, 0, .ref l1', rfl, rfl, ng5, k0, _, rfl, q, _, 1, .ref l2', rfl, rfl, ng5, k1, fun zs dzs hzs hdzs nezs => ?_⟩
          refine made_ok (ps := ps') hzs hdzs nezs (.ok nm5 hn' (okM_nd ok') m8') (carg_ok hn' nl5 nx5 ⟨by omega, pm'⟩) fun H16 s16 st' => ⟨rfl, ?_⟩
          obtain ⟨og5, om5, ⟨oy5, ol5, ox5⟩, ok5, od5, oe5⟩ := id (M15.mono s16)
          refine ⟨_, rfl, q, _, 2, .ref pd', rfl, rfl, og5, k2, fun zb dzb hzb hdzb nezb => rmade_ok hzb hdzb st'.at_ od5 oe5 gR' nd' (rows_ok hR') fun H17 s17 rbz => ⟨rfl, ?_⟩⟩
          rw [cs'] at rbz
          have s67 := s16.trans s17
          have rby7 := rby2.mono s67
          have hg7 := s67 _ _ hg
          obtain ⟨dyy, ayy, ddy, kvy, hyy, _⟩ := id rby7
          refine ⟨_, rfl, gq, _, 1, .ref y, rfl, rfl, SqL.of hg7, atI_nat (j := 1) rfl, _, rfl, eqI_rb ic rby7 rbz hn' hn' ⟨_, rfl, iteFe (by rw [rb_same nd' gR']; rfl) ?_⟩⟩
          refine ⟨_, rfl, gq, _, 1, .ref y, rfl, rfl, SqL.of hg7, atI_nat (j := 1) rfl, y, dyy, _, rfl, hyy, y, ms', _, rows', rfl, rby7, hn', m8', len8', nd', (fun r hr => row_short (hR' r hr).1 (hR' r hr).2), fun H18 s18 => ⟨_, rfl, _, rfl, rfl, _, rfl, iteFe ?_ ?_⟩⟩
          · rw [can', tx']
            simp
          · exact ⟨_, _, _, _, _, rfl, B13.keep (s14.trans (s15.trans (s67.trans s18)))⟩
      rintro σ H12 ⟨v8, v9, v10, v11, v12, rfl, B⟩
      have B : BoxIn G H12 p 2200 := B.mono (by decide)
      obtain ⟨A0, sA⟩ := B.all
      refine ⟨_, rfl, (by show 1 ≤ sizeLine; decide), fun lt hlt => ⟨_, rfl, ?_⟩⟩
      have b1 := A0.new (o := .lst [.str tx]) hlt
      intro dd hdd
      have b2 := b1.1.new (o := .dK []) hdd
      refine ⟨(by show 10 ≤ sizeLine; decide), fun lo hlo => ?_⟩
      have b3 := b2.1.new (o := .lst [.non, .int 5, .bl true, .ref lt, .str "", .str "put: end", .ref xb, .ref dd, .str "a\n", .str "a\nput: look, put, end\n"]) hlo
      refine ⟨_, rfl, _, rfl, _, p, _, 10, rfl, b3.1, by decide, by decide, by decide, fun zo H13 zo0 zo1 B13 => ?_⟩
      obtain ⟨od, hv, hmv⟩ := atI_in (xs := [V.non, .int 5, .bl true, .ref lt, .str "", .str "put: end", .ref xb, .ref dd, .str "a\n", .str "a\nput: look, put, end\n"]) zo0 zo1
      refine ⟨lo, _, zo, od, rfl, rfl, SqL.of (B13.same _ _ upd_same), hv, ?_⟩
      have n3 := b3.2.trans B13.same
      have n2 := b2.2.trans n3
      have n1 := b1.2.trans n2
      have sG9 := sA.trans n1
      have hx9 := sG9 _ _ gx
      obtain ⟨o1, o2, o3, o4⟩ := odd24
      have smalls : ∀ t : Str, t.length ≤ 1000 ∧ PyData.strOk t = true → readR t = none → ∃ o, RV K T.C_Rulebook H13 (.str t) o ∧ ∀ t', o = some (.str t') → readR t' = none := fun t ht hr => ⟨_, .inl (tOk_vd ⟨Nat.le_trans ht.1 (by decide), ht.2⟩), fun t' e => by
        injection e with e
        injection e with e
        rw [← e]
        exact hr⟩
      obtain ⟨ov, hrv, hnone⟩ : ∃ o, RV K T.C_Rulebook H13 od o ∧ ∀ t, o = some (.str t) → readR t = none := by
        simp only [List.mem_cons, List.not_mem_nil, or_false] at hmv
        rcases hmv with rfl | rfl | rfl | rfl | rfl | rfl | rfl | rfl | rfl | rfl
        · exact ⟨some .none, .inl (.dat .non (by decide +kernel) (fun _ e => nomatch e)), fun _ e => nomatch e⟩
        · exact ⟨some (.int 5), .inl (.dat (.int 5) (by decide +kernel) (fun _ e => nomatch e)), fun _ e => nomatch e⟩
        · exact ⟨some (.bool true), .inl (.dat (.bl true) (by decide +kernel) (fun _ e => nomatch e)), fun _ e => nomatch e⟩
        · refine ⟨some (.list [.str tx]), .inl (.dat (.lst (SqL.of (n2 _ _ upd_same)) (.cons (.str _) .nil)) ?_ (fun _ e => nomatch e)), fun _ e => nomatch e⟩
          exact shaped_list (n := 0) (by decide) fun d hd => by
            rw [List.mem_singleton.mp hd]
            exact can_str tok
        · exact smalls _ (by decide +kernel) o1
        · exact smalls _ (by decide +kernel) o2
        · exact ⟨none, .inr ⟨rfl, xb, _, _, rfl, hx9⟩, fun _ e => nomatch e⟩
        · exact ⟨none, .inl (.dic (n3 _ _ upd_same)), fun _ e => nomatch e⟩
        · exact smalls _ (by decide +kernel) o3
        · exact smalls _ (by decide +kernel) o4
      refine ⟨_, rfl, od, ov, rfl, hrv, fun t ms ps rows e1 e2 => absurd (hnone t e1) (by rw [e2]; exact fun w => nomatch w), fun _ H14 q s14 hq => ⟨_, rfl, z2, fun t2 ht2 => ?_⟩⟩
      have s15 := same_new (o := .lst [.str "text", od]) ht2
      exact .inl ⟨q, t2, [.str "text", od], rfl, rfl, SqL.of (s15 _ _ hq), SqL.of upd_same, sure3 hrv.sure, _, rfl, iteF ⟨_, _, _, _, _, _, _, _, _, _, _, _, _, rfl, s1.trans (sGG.trans (sG9.trans (s14.trans s15)))⟩⟩
    · rintro σ H1 ⟨v1, v2, v3, v4, v5, v6, v7, v8, v9, v10, v11, v12, v13, rfl, s1⟩
      have snd : stdMs.Nodup := by decide +kernel
      have shn : ∀ s ∈ stdMs, nameS s = true := by decide +kernel
      refine ⟨rfl, fun H2 x s2 st => fun dd hdd => fun xb dxb hxb hdxb ne => rmade_ok (rows := []) hxb hdxb (st.mono (same_new hdd)) upd_same .nil (fun r hr => (List.not_mem_nil hr).elim) List.nodup_nil rfl fun H3 s3 rb => ⟨rfl, ?_⟩⟩
      obtain ⟨dxx, axx, ddx, kvx, hxx, _⟩ := id rb
      have c0 : canon [] = [] := by decide +kernel
      rw [c0] at rb
      refine ⟨xb, dxx, _, rfl, hxx, xb, stdMs, _, [], rfl, rb, shn, (by decide), (by decide), List.nodup_nil, (fun r hr => (List.not_mem_nil hr).elim), fun H4 s4 => ?_⟩
      refine ⟨_, rfl, rfl, fun H5 y s5 st2 => ?_⟩
      obtain ⟨dyy, ayy, ddy, kvy, hyy, _⟩ := id st2
      refine ⟨y, dyy, _, rfl, hyy, y, stdMs, _, rfl, st2, shn, (by decide), fun H6 s6 => ?_⟩
      have e : textR stdMs (prsOf (ag stdMs stdPs) stdMs) [] = textM stdMs (prsOf (ag stdMs stdPs) stdMs) := join_one _ _
      rw [e]
      refine ⟨_, rfl, rfl, ?_⟩
      rw [decide_eq_true rfl]
      exact k H6
end
theorem oexB_ok {K : PySem.W.Frag} {C : Addr} (h : oexB K C = true) : ∃ nm q N bs bm sn sub ab col dd k0 k1 k2 k3 k5, K.lookup C = some (excClassObj nm q C N bs bm true sn sub ab col dd k0 k1 k2 k3 k5 "ValueError.__new__") ∧ PySem.HandSPX.refsVE bm = true := by
  unfold oexB at h
  split at h
  · rename_i c dd cd sl q
    obtain ⟨nm, bs, mro, N, qn, hd, sn, sub, ab, col, del⟩ := cd
    simp only [Bool.and_eq_true, decide_eq_true_iff, Bool.not_eq_true'] at h
    obtain ⟨h1, h2, h3, h4, h5⟩ := h
    split at h2
    · rename_i a bm
      rw [Bool.and_eq_true, decide_eq_true_iff] at h2
      obtain ⟨h6, h7⟩ := h2
      split at h5
      · rename_i k0 k1 k2 k3 i k5 e
        obtain ⟨sl⟩ := sl
        have e' : sl = [k0, k1, k2, k3, some (.builtin i), k5] := e
        have h8 := of_decide_eq_true h5
        subst h1 h3 h4 e' h6 h8
        exact ⟨nm, qn, N, bs, bm, sn, sub, ab, col, dd, k0, k1, k2, k3, k5, q, h7⟩
      · cases h5
    · cases h2
  · cases h
theorem clsX_ok {K : PySem.W.Frag} {c f : Str} (h : clsX K (c, f) = true) : OexC K (He.ga K c) ∧ XfC K (He.ga K c) ∧ PySem.W.findIn K (.ref (He.ga K c)) f = some none ∧ PySem.W.findIn K (.ref (He.ga K c)) "__init__" = some (some (.ref (He.ma K (He.ga K c) "__init__"))) ∧ PySem.W.typeIn K (.ref (He.ma K (He.ga K c) "__init__")) = some (.type "function") := by
  unfold clsX at h
  simp only [Bool.and_eq_true, decide_eq_true_iff] at h
  obtain ⟨h1, h2, h3, h4, h5, h6, h7, h8⟩ := h
  have y := xfB_ok h5
  exact ⟨⟨oexB_ok h1, h2, y.exC, h3, h4⟩, y, h6, h7, h8⟩
theorem meth_kp {K : PySem.W.Frag} {x m : Str} (h : (He.Fa.meth x m).ok K = true) : PySem.W.keepIn K (.ref (He.ma K (He.ga K x) m)) = true := (He.meth_ok h).kp
theorem insX_ok {K : PySem.W.Frag} {x : Str} (h : insX K x = true) (cl : Cls K (He.ga K x)) : C8.InsC K (He.ga K x) ∧ PySem.W.kitOne K (.type "list") (.ref (He.ga K x)) = some false ∧ PySem.W.notFirst K (He.ga K x) (.type "list") = true ∧ PySem.W.kitOne K (.type "str") (.ref (He.ga K x)) = some false ∧ PySem.W.notFirst K (He.ga K x) (.type "str") = true := by
  unfold insX at h
  simp only [Bool.and_eq_true, decide_eq_true_iff] at h
  obtain ⟨h1, h2, h3, h4, h5, h6, h7, h8, h9⟩ := h
  exact ⟨⟨cl, h1, h2, h3, h4, h5⟩, h6, h7, h8, h9⟩
theorem facts {l : PySem.W.OpenLaw} {w : World} {K : PySem.W.Frag} {h : Heap} {mg : Str → Option Value} {f : Addr} (X : K.In h) (G : h.Ns mainGlobals mg) (hfa : mg ("law" : Str) = some (.ref f)) (c : He.SaysX faL fnL tsL tfL exB w h K) (cb : bxL K = bxV) : LamX.LawAtS l w K CX0 12 63 "_law_script" mg f h := by
  have cd : He.SaysD faL fnL K := c.t.d
  have e := hfa.symm.trans (He.glo_ok X G (cd.fact 46 (f := .glo "law") rfl))
  cases e
  have ex' : exB K = true := c.more
  unfold exB at ex'
  simp only [Bool.and_eq_true] at ex'
  obtain ⟨e1, e2, e3, e4, e5⟩ := ex'
  obtain ⟨g0, D0⟩ := cd.def_ 0 (d := fd0) rfl
  have D0 : FunD K "__init__" "InvalidName.__init__" (defArgs s_InvalidName_init) (defBody s_InvalidName_init) (defScope s_InvalidName_init) [] [] (He.fAd K ("InvalidName", some "__init__")) g0 := D0
  obtain ⟨g1, D1⟩ := cd.def_ 1 (d := fd1) rfl
  have D1 : FunD K "__init__" "InvalidModes.__init__" (defArgs s_InvalidModes_init) (defBody s_InvalidModes_init) (defScope s_InvalidModes_init) [] [] (He.fAd K ("InvalidModes", some "__init__")) g1 := D1
  obtain ⟨g2, D2⟩ := cd.def_ 2 (d := fd2) rfl
  have D2 : FunD K "__init__" "InvalidClash.__init__" (defArgs s_InvalidClash_init) (defBody s_InvalidClash_init) (defScope s_InvalidClash_init) [] [] (He.fAd K ("InvalidClash", some "__init__")) g2 := D2
  obtain ⟨g3, D3⟩ := cd.def_ 3 (d := fd3) rfl
  have D3 : FunD K "__init__" "InvalidStrengths.__init__" (defArgs s_InvalidStrengths_init) (defBody s_InvalidStrengths_init) (defScope s_InvalidStrengths_init) [] [] (He.fAd K ("InvalidStrengths", some "__init__")) g3 := D3
  obtain ⟨g4, D4⟩ := cd.def_ 4 (d := fd4) rfl
  have D4 : FunD K "__init__" "InvalidProgram.__init__" (defArgs s_InvalidProgram_init) (defBody s_InvalidProgram_init) (defScope s_InvalidProgram_init) [] [] (He.fAd K ("InvalidProgram", some "__init__")) g4 := D4
  obtain ⟨g5, D5⟩ := cd.def_ 5 (d := fd5) rfl
  have D5 : FunD K "__init__" "InvalidPrograms.__init__" (defArgs s_InvalidPrograms_init) (defBody s_InvalidPrograms_init) (defScope s_InvalidPrograms_init) [] [] (He.fAd K ("InvalidPrograms", some "__init__")) g5 := D5
  obtain ⟨g6, D6⟩ := cd.def_ 6 (d := fd6) rfl
  have D6 : FunD K "__init__" "InvalidText.__init__" (defArgs s_InvalidText_init) (defBody s_InvalidText_init) (defScope s_InvalidText_init) [] [] (He.fAd K ("InvalidText", some "__init__")) g6 := D6
  obtain ⟨g7, D7⟩ := cd.def_ 7 (d := fd7) rfl
  have D7 : FunD K "__init__" "Duplicate.__init__" (defArgs s_Duplicate_init) (defBody s_Duplicate_init) (defScope s_Duplicate_init) [] [] (He.fAd K ("Duplicate", some "__init__")) g7 := D7
  obtain ⟨g8, D8⟩ := cd.def_ 8 (d := fd8) rfl
  have D8 : FunD K "__init__" "UnknownMode.__init__" (defArgs s_UnknownMode_init) (defBody s_UnknownMode_init) (defScope s_UnknownMode_init) [] [] (He.fAd K ("UnknownMode", some "__init__")) g8 := D8
  obtain ⟨g9, D9⟩ := cd.def_ 9 (d := fd9) rfl
  have D9 : FunD K "__init__" "NoProgram.__init__" (defArgs s_NoProgram_init) (defBody s_NoProgram_init) (defScope s_NoProgram_init) [] [] (He.fAd K ("NoProgram", some "__init__")) g9 := D9
  obtain ⟨g10, D10⟩ := cd.def_ 10 (d := fd10) rfl
  have D10 : FunD K "is_name" "is_name" (defArgs s_is_name) (defBody s_is_name) (defScope s_is_name) [] [] (He.fAd K ("is_name", none)) g10 := D10
  obtain ⟨g11, D11⟩ := cd.def_ 11 (d := fd11) rfl
  have D11 : FunD K "require_name" "require_name" (defArgs s_require_name) (defBody s_require_name) (defScope s_require_name) [] [] (He.fAd K ("require_name", none)) g11 := D11
  obtain ⟨g12, D12⟩ := cd.def_ 12 (d := fd12) rfl
  have D12 : FunD K "is_kind" "is_kind" (defArgs s_is_kind) (defBody s_is_kind) (defScope s_is_kind) [] [] (He.fAd K ("is_kind", none)) g12 := D12
  obtain ⟨g13, D13⟩ := cd.def_ 13 (d := fd13) rfl
  have D13 : FunD K "require_kind" "require_kind" (defArgs s_require_kind) (defBody s_require_kind) (defScope s_require_kind) [] [] (He.fAd K ("require_kind", none)) g13 := D13
  obtain ⟨g14, D14⟩ := cd.def_ 14 (d := fd14) rfl
  have D14 : FunD K "is_step" "is_step" (defArgs s_is_step) (defBody s_is_step) (defScope s_is_step) [] [] (He.fAd K ("is_step", none)) g14 := D14
  obtain ⟨g15, D15⟩ := cd.def_ 15 (d := fd15) rfl
  have D15 : FunD K "is_program" "is_program" (defArgs s_is_program) (defBody s_is_program) (defScope s_is_program) [] [] (He.fAd K ("is_program", none)) g15 := D15
  obtain ⟨g16, D16⟩ := cd.def_ 16 (d := fd16) rfl
  have D16 : FunD K "ends_well" "ends_well" (defArgs s_ends_well) (defBody s_ends_well) (defScope s_ends_well) [] [] (He.fAd K ("ends_well", none)) g16 := D16
  obtain ⟨g17, D17⟩ := cd.def_ 17 (d := fd17) rfl
  have D17 : FunD K "has_needed" "has_needed" (defArgs s_has_needed) (defBody s_has_needed) (defScope s_has_needed) [] [] (He.fAd K ("has_needed", none)) g17 := D17
  obtain ⟨g18, D18⟩ := cd.def_ 18 (d := fd18) rfl
  have D18 : FunD K "is_in_order" "is_in_order" (defArgs s_is_in_order) (defBody s_is_in_order) (defScope s_is_in_order) [] [] (He.fAd K ("is_in_order", none)) g18 := D18
  obtain ⟨g19, D19⟩ := cd.def_ 19 (d := fd19) rfl
  have D19 : FunD K "comes_before" "comes_before" (defArgs s_comes_before) (defBody s_comes_before) (defScope s_comes_before) [] [] (He.fAd K ("comes_before", none)) g19 := D19
  obtain ⟨g20, D20⟩ := cd.def_ 20 (d := fd20) rfl
  have D20 : FunD K "step_text" "step_text" (defArgs s_step_text) (defBody s_step_text) (defScope s_step_text) [] [] (He.fAd K ("step_text", none)) g20 := D20
  obtain ⟨g21, D21⟩ := cd.def_ 21 (d := fd21) rfl
  have D21 : FunD K "program_text" "program_text" (defArgs s_program_text) (defBody s_program_text) (defScope s_program_text) [] [] (He.fAd K ("program_text", none)) g21 := D21
  obtain ⟨g22, D22⟩ := cd.def_ 22 (d := fd22) rfl
  have D22 : FunD K "__init__" "Strengths.__init__" (defArgs s_Strengths_init) (defBody s_Strengths_init) (defScope s_Strengths_init) [] [] (He.fAd K ("Strengths", some "__init__")) g22 := D22
  obtain ⟨g23, D23⟩ := cd.def_ 23 (d := fd23) rfl
  have D23 : FunD K "modes" "Strengths.modes" (defArgs s_Strengths_modes) (defBody s_Strengths_modes) (defScope s_Strengths_modes) [] [] (He.fAd K ("Strengths", some "modes")) g23 := D23
  obtain ⟨g24, D24⟩ := cd.def_ 24 (d := fd24) rfl
  have D24 : FunD K "clashes" "Strengths.clashes" (defArgs s_Strengths_clashes) (defBody s_Strengths_clashes) (defScope s_Strengths_clashes) [] [] (He.fAd K ("Strengths", some "clashes")) g24 := D24
  obtain ⟨g25, D25⟩ := cd.def_ 25 (d := fd25) rfl
  have D25 : FunD K "__eq__" "Strengths.__eq__" (defArgs s_Strengths_eq) (defBody s_Strengths_eq) (defScope s_Strengths_eq) [] [] (He.fAd K ("Strengths", some "__eq__")) g25 := D25
  obtain ⟨g26, D26⟩ := cd.def_ 26 (d := fd26) rfl
  have D26 : FunD K "__str__" "Strengths.__str__" (defArgs s_Strengths_str) (defBody s_Strengths_str) (defScope s_Strengths_str) [] [] (He.fAd K ("Strengths", some "__str__")) g26 := D26
  obtain ⟨g27, D27⟩ := cd.def_ 27 (d := fd27) rfl
  have D27 : FunD K "require_modes" "require_modes" (defArgs s_require_modes) (defBody s_require_modes) (defScope s_require_modes) [] [] (He.fAd K ("require_modes", none)) g27 := D27
  obtain ⟨g28, D28⟩ := cd.def_ 28 (d := fd28) rfl
  have D28 : FunD K "require_clashes" "require_clashes" (defArgs s_require_clashes) (defBody s_require_clashes) (defScope s_require_clashes) [] [] (He.fAd K ("require_clashes", none)) g28 := D28
  obtain ⟨g29, D29⟩ := cd.def_ 29 (d := fd29) rfl
  have D29 : FunD K "clashing_modes" "clashing_modes" (defArgs s_clashing_modes) (defBody s_clashing_modes) (defScope s_clashing_modes) [] [] (He.fAd K ("clashing_modes", none)) g29 := D29
  obtain ⟨g30, D30⟩ := cd.def_ 30 (d := fd30) rfl
  have D30 : FunD K "standard" "standard" (defArgs s_standard) (defBody s_standard) (defScope s_standard) [] [] (He.fAd K ("standard", none)) g30 := D30
  obtain ⟨g31, D31⟩ := cd.def_ 31 (d := fd31) rfl
  have D31 : FunD K "read_strengths" "read_strengths" (defArgs s_read_strengths) (defBody s_read_strengths) (defScope s_read_strengths) [] [] (He.fAd K ("read_strengths", none)) g31 := D31
  obtain ⟨g32, D32⟩ := cd.def_ 32 (d := fd32) rfl
  have D32 : FunD K "parsed_strengths" "parsed_strengths" (defArgs s_parsed_strengths) (defBody s_parsed_strengths) (defScope s_parsed_strengths) [] [] (He.fAd K ("parsed_strengths", none)) g32 := D32
  obtain ⟨g33, D33⟩ := cd.def_ 33 (d := fd33) rfl
  have D33 : FunD K "__init__" "Rulebook.__init__" (defArgs s_Rulebook_init) (defBody s_Rulebook_init) (defScope s_Rulebook_init) [] [] (He.fAd K ("Rulebook", some "__init__")) g33 := D33
  obtain ⟨g34, D34⟩ := cd.def_ 34 (d := fd34) rfl
  have D34 : FunD K "__eq__" "Rulebook.__eq__" (defArgs s_Rulebook_eq) (defBody s_Rulebook_eq) (defScope s_Rulebook_eq) [] [] (He.fAd K ("Rulebook", some "__eq__")) g34 := D34
  obtain ⟨g35, D35⟩ := cd.def_ 35 (d := fd35) rfl
  have D35 : FunD K "__str__" "Rulebook.__str__" (defArgs s_Rulebook_str) (defBody s_Rulebook_str) (defScope s_Rulebook_str) [] [] (He.fAd K ("Rulebook", some "__str__")) g35 := D35
  obtain ⟨g36, D36⟩ := cd.def_ 36 (d := fd36) rfl
  have D36 : FunD K "require_strengths" "require_strengths" (defArgs s_require_strengths) (defBody s_require_strengths) (defScope s_require_strengths) [] [] (He.fAd K ("require_strengths", none)) g36 := D36
  obtain ⟨g37, D37⟩ := cd.def_ 37 (d := fd37) rfl
  have D37 : FunD K "require_programs" "require_programs" (defArgs s_require_programs) (defBody s_require_programs) (defScope s_require_programs) [] [] (He.fAd K ("require_programs", none)) g37 := D37
  obtain ⟨g38, D38⟩ := cd.def_ 38 (d := fd38) rfl
  have D38 : FunD K "require_program" "require_program" (defArgs s_require_program) (defBody s_require_program) (defScope s_require_program) [] [] (He.fAd K ("require_program", none)) g38 := D38
  obtain ⟨g39, D39⟩ := cd.def_ 39 (d := fd39) rfl
  have D39 : FunD K "require_mode" "require_mode" (defArgs s_require_mode) (defBody s_require_mode) (defScope s_require_mode) [] [] (He.fAd K ("require_mode", none)) g39 := D39
  obtain ⟨g40, D40⟩ := cd.def_ 40 (d := fd40) rfl
  have D40 : FunD K "read_protocol" "read_protocol" (defArgs s_read_protocol) (defBody s_read_protocol) (defScope s_read_protocol) [] [] (He.fAd K ("read_protocol", none)) g40 := D40
  obtain ⟨g41, D41⟩ := cd.def_ 41 (d := fd41) rfl
  have D41 : FunD K "parsed_protocol" "parsed_protocol" (defArgs s_parsed_protocol) (defBody s_parsed_protocol) (defScope s_parsed_protocol) [] [] (He.fAd K ("parsed_protocol", none)) g41 := D41
  obtain ⟨g42, D42⟩ := cd.def_ 42 (d := fd42) rfl
  have D42 : FunD K "_law_cell" "_law_cell" (defArgs s_law_cell) (defBody s_law_cell) (defScope s_law_cell) [] [] (He.fAd K ("_law_cell", none)) g42 := D42
  obtain ⟨g43, D43⟩ := cd.def_ 43 (d := fd43) rfl
  have D43 : FunD K "_law_box" "_law_box" (defArgs s_law_box) (defBody s_law_box) (defScope s_law_box) [] [] (He.fAd K ("_law_box", none)) g43 := D43
  obtain ⟨g44, D44⟩ := cd.def_ 44 (d := fd44) rfl
  have D44 : FunD K "_law_take" "_law_take" (defArgs s_law_take) (defBody s_law_take) (defScope s_law_take) [] [] (He.fAd K ("_law_take", none)) g44 := D44
  obtain ⟨g45, D45⟩ := cd.def_ 45 (d := fd45) rfl
  have D45 : FunD K "_law_mixed" "_law_mixed" (defArgs s_law_mixed) (defBody s_law_mixed) (defScope s_law_mixed) [] [] (He.fAd K ("_law_mixed", none)) g45 := D45
  obtain ⟨g46, D46⟩ := cd.def_ 46 (d := fd46) rfl
  have D46 : FunD K "_law_names" "_law_names" (defArgs s_law_names) (defBody s_law_names) (defScope s_law_names) [] [] (He.fAd K ("_law_names", none)) g46 := D46
  obtain ⟨g47, D47⟩ := cd.def_ 47 (d := fd47) rfl
  have D47 : FunD K "_law_kinds" "_law_kinds" (defArgs s_law_kinds) (defBody s_law_kinds) (defScope s_law_kinds) [] [] (He.fAd K ("_law_kinds", none)) g47 := D47
  obtain ⟨g48, D48⟩ := cd.def_ 48 (d := fd48) rfl
  have D48 : FunD K "_law_is_name" "_law_is_name" (defArgs s_law_is_name) (defBody s_law_is_name) (defScope s_law_is_name) [] [] (He.fAd K ("_law_is_name", none)) g48 := D48
  obtain ⟨g49, D49⟩ := cd.def_ 49 (d := fd49) rfl
  have D49 : FunD K "_law_is_step" "_law_is_step" (defArgs s_law_is_step) (defBody s_law_is_step) (defScope s_law_is_step) [] [] (He.fAd K ("_law_is_step", none)) g49 := D49
  obtain ⟨g50, D50⟩ := cd.def_ 50 (d := fd50) rfl
  have D50 : FunD K "_law_count" "_law_count" (defArgs s_law_count) (defBody s_law_count) (defScope s_law_count) [] [] (He.fAd K ("_law_count", none)) g50 := D50
  obtain ⟨g51, D51⟩ := cd.def_ 51 (d := fd51) rfl
  have D51 : FunD K "_law_order" "_law_order" (defArgs s_law_order) (defBody s_law_order) (defScope s_law_order) [] [] (He.fAd K ("_law_order", none)) g51 := D51
  obtain ⟨g52, D52⟩ := cd.def_ 52 (d := fd52) rfl
  have D52 : FunD K "_law_is_program" "_law_is_program" (defArgs s_law_is_program) (defBody s_law_is_program) (defScope s_law_is_program) [] [] (He.fAd K ("_law_is_program", none)) g52 := D52
  obtain ⟨g53, D53⟩ := cd.def_ 53 (d := fd53) rfl
  have D53 : FunD K "_law_drawn_step" "_law_drawn_step" (defArgs s_law_drawn_step) (defBody s_law_drawn_step) (defScope s_law_drawn_step) [] [] (He.fAd K ("_law_drawn_step", none)) g53 := D53
  obtain ⟨g54, D54⟩ := cd.def_ 54 (d := fd54) rfl
  have D54 : FunD K "_law_base" "_law_base" (defArgs s_law_base) (defBody s_law_base) (defScope s_law_base) [] [] (He.fAd K ("_law_base", none)) g54 := D54
  obtain ⟨g55, D55⟩ := cd.def_ 55 (d := fd55) rfl
  have D55 : FunD K "_law_program" "_law_program" (defArgs s_law_program) (defBody s_law_program) (defScope s_law_program) [] [] (He.fAd K ("_law_program", none)) g55 := D55
  obtain ⟨g56, D56⟩ := cd.def_ 56 (d := fd56) rfl
  have D56 : FunD K "_law_programs" "_law_programs" (defArgs s_law_programs) (defBody s_law_programs) (defScope s_law_programs) [] [] (He.fAd K ("_law_programs", none)) g56 := D56
  obtain ⟨g57, D57⟩ := cd.def_ 57 (d := fd57) rfl
  have D57 : FunD K "_law_ordered" "_law_ordered" (defArgs s_law_ordered) (defBody s_law_ordered) (defScope s_law_ordered) [] [] (He.fAd K ("_law_ordered", none)) g57 := D57
  obtain ⟨g58, D58⟩ := cd.def_ 58 (d := fd58) rfl
  have D58 : FunD K "_law_text" "_law_text" (defArgs s_law_text) (defBody s_law_text) (defScope s_law_text) [] [] (He.fAd K ("_law_text", none)) g58 := D58
  obtain ⟨g59, D59⟩ := cd.def_ 59 (d := fd59) rfl
  have D59 : FunD K "_law_read_head" "_law_read_head" (defArgs s_law_read_head) (defBody s_law_read_head) (defScope s_law_read_head) [] [] (He.fAd K ("_law_read_head", none)) g59 := D59
  obtain ⟨g60, D60⟩ := cd.def_ 60 (d := fd60) rfl
  have D60 : FunD K "_law_places" "_law_places" (defArgs s_law_places) (defBody s_law_places) (defScope s_law_places) [] [] (He.fAd K ("_law_places", none)) g60 := D60
  obtain ⟨g61, D61⟩ := cd.def_ 61 (d := fd61) rfl
  have D61 : FunD K "_law_read" "_law_read" (defArgs s_law_read) (defBody s_law_read) (defScope s_law_read) [] [] (He.fAd K ("_law_read", none)) g61 := D61
  obtain ⟨g62, D62⟩ := cd.def_ 62 (d := fd62) rfl
  have D62 : FunD K "_law_told" "_law_told" (defArgs s_law_told) (defBody s_law_told) (defScope s_law_told) [] [] (He.fAd K ("_law_told", none)) g62 := D62
  obtain ⟨g63, D63⟩ := cd.def_ 63 (d := fd63) rfl
  have D63 : FunD K "_law_bent" "_law_bent" (defArgs s_law_bent) (defBody s_law_bent) (defScope s_law_bent) [] [] (He.fAd K ("_law_bent", none)) g63 := D63
  obtain ⟨g64, D64⟩ := cd.def_ 64 (d := fd64) rfl
  have D64 : FunD K "law" "law" (defArgs s_law) (defBody s_law) (defScope s_law) [] [] (He.fAd K ("law", none)) g64 := D64
  have z0 := clsX_ok (List.all_eq_true.mp e1 ("InvalidName", "value") (List.mem_of_getElem? (i := 0) rfl))
  have z1 := clsX_ok (List.all_eq_true.mp e1 ("InvalidModes", "value") (List.mem_of_getElem? (i := 1) rfl))
  have z2 := clsX_ok (List.all_eq_true.mp e1 ("InvalidClash", "value") (List.mem_of_getElem? (i := 2) rfl))
  have z3 := clsX_ok (List.all_eq_true.mp e1 ("InvalidStrengths", "value") (List.mem_of_getElem? (i := 3) rfl))
  have z4 := clsX_ok (List.all_eq_true.mp e1 ("InvalidProgram", "value") (List.mem_of_getElem? (i := 4) rfl))
  have z5 := clsX_ok (List.all_eq_true.mp e1 ("InvalidPrograms", "value") (List.mem_of_getElem? (i := 5) rfl))
  have z6 := clsX_ok (List.all_eq_true.mp e1 ("InvalidText", "value") (List.mem_of_getElem? (i := 6) rfl))
  have z7 := clsX_ok (List.all_eq_true.mp e1 ("Duplicate", "name") (List.mem_of_getElem? (i := 7) rfl))
  have z8 := clsX_ok (List.all_eq_true.mp e1 ("UnknownMode", "name") (List.mem_of_getElem? (i := 8) rfl))
  have z9 := clsX_ok (List.all_eq_true.mp e1 ("NoProgram", "kind") (List.mem_of_getElem? (i := 9) rfl))
  have iz0 := insX_ok (x := "Strengths") e2 (He.cls_ok (x := "Strengths") (cd.fact 58 rfl))
  have iz1 := insX_ok (x := "Rulebook") e4 (He.cls_ok (x := "Rulebook") (cd.fact 68 rfl))
  obtain ⟨u_LONGEST_NAME, v_LONGEST_NAME⟩ := He.int_ok X G (x := "LONGEST_NAME") (i := 8) (cd.fact 87 rfl)
  obtain ⟨u_MOST_STEPS, v_MOST_STEPS⟩ := He.int_ok X G (x := "MOST_STEPS") (i := 12) (cd.fact 88 rfl)
  obtain ⟨u_MOST_MODES, v_MOST_MODES⟩ := He.int_ok X G (x := "MOST_MODES") (i := 8) (cd.fact 89 rfl)
  have dd_KINDS : datK K 4 (.ref (He.ga K "KINDS")) = some bt_KINDS := (List.cons.inj (Option.some.inj (congrArg (fun l : BxO => l[0]?) cb))).1
  obtain ⟨es_LOCKS, en_LOCKS, kd_LOCKS⟩ := c.t.tab 0 (t := (fun K => He.ga K "LOCKS", bt_LOCKS.map (·.1))) rfl
  have dd_LOCKS : bt_LOCKS.map (fun p => nsD K (He.ga K "LOCKS") p.1) = bt_LOCKS.map fun p => some p.2 := Option.some.inj (congrArg (fun l : BxO => l[1]?) cb)
  obtain ⟨es_STEPS, en_STEPS, kd_STEPS⟩ := c.t.tab 1 (t := (fun K => He.ga K "STEPS", bt_STEPS.map (·.1))) rfl
  have dd_STEPS : bt_STEPS.map (fun p => nsD K (He.ga K "STEPS") p.1) = bt_STEPS.map fun p => some p.2 := Option.some.inj (congrArg (fun l : BxO => l[2]?) cb)
  obtain ⟨es_NEEDED, en_NEEDED, kd_NEEDED⟩ := c.t.tab 2 (t := (fun K => He.ga K "NEEDED", bt_NEEDED.map (·.1))) rfl
  have dd_NEEDED : bt_NEEDED.map (fun p => nsD K (He.ga K "NEEDED") p.1) = bt_NEEDED.map fun p => some p.2 := Option.some.inj (congrArg (fun l : BxO => l[3]?) cb)
  have dd_AT_MOST_ONCE : datK K 4 (.ref (He.ga K "AT_MOST_ONCE")) = some bt_AT_MOST_ONCE := (List.cons.inj (Option.some.inj (congrArg (fun l : BxO => l[4]?) cb))).1
  have dd_ORDERS : datK K 4 (.ref (He.ga K "ORDERS")) = some bt_ORDERS := (List.cons.inj (Option.some.inj (congrArg (fun l : BxO => l[5]?) cb))).1
  refine ⟨g64, [], sp_law K, fun p hp => (List.not_mem_nil hp).elim, fun p hp => (List.not_mem_nil hp).elim, fun p hp => (List.not_mem_nil hp).elim, fun s v => .of_eq (by
    obtain ⟨_, _, _, _, _, _, _, _, _, rfl, _⟩ := (funOfD D64).ex
    rfl), fun H a ns hl _ _ hS => ⟨a, ns, rfl, hS, hl, fun _ => rfl⟩, fun base _ _ _ => ?_⟩
  let T : Txt K mg w := {
    f_InvalidName_init := He.fAd K ("InvalidName", some "__init__"), fd_InvalidName_init := g0,
    F_InvalidName_init := funOfD D0, b_InvalidName_init := (funOfD D0).binds (ps := ["self", "value"]) fun _ _ _ _ _ _ us hl => match us, hl with | [_, _], _ => rfl,
    f_InvalidModes_init := He.fAd K ("InvalidModes", some "__init__"), fd_InvalidModes_init := g1,
    F_InvalidModes_init := funOfD D1, b_InvalidModes_init := (funOfD D1).binds (ps := ["self", "value"]) fun _ _ _ _ _ _ us hl => match us, hl with | [_, _], _ => rfl,
    f_InvalidClash_init := He.fAd K ("InvalidClash", some "__init__"), fd_InvalidClash_init := g2,
    F_InvalidClash_init := funOfD D2, b_InvalidClash_init := (funOfD D2).binds (ps := ["self", "value"]) fun _ _ _ _ _ _ us hl => match us, hl with | [_, _], _ => rfl,
    f_InvalidStrengths_init := He.fAd K ("InvalidStrengths", some "__init__"), fd_InvalidStrengths_init := g3,
    F_InvalidStrengths_init := funOfD D3, b_InvalidStrengths_init := (funOfD D3).binds (ps := ["self", "value"]) fun _ _ _ _ _ _ us hl => match us, hl with | [_, _], _ => rfl,
    f_InvalidProgram_init := He.fAd K ("InvalidProgram", some "__init__"), fd_InvalidProgram_init := g4,
    F_InvalidProgram_init := funOfD D4, b_InvalidProgram_init := (funOfD D4).binds (ps := ["self", "value"]) fun _ _ _ _ _ _ us hl => match us, hl with | [_, _], _ => rfl,
    f_InvalidPrograms_init := He.fAd K ("InvalidPrograms", some "__init__"), fd_InvalidPrograms_init := g5,
    F_InvalidPrograms_init := funOfD D5, b_InvalidPrograms_init := (funOfD D5).binds (ps := ["self", "value"]) fun _ _ _ _ _ _ us hl => match us, hl with | [_, _], _ => rfl,
    f_InvalidText_init := He.fAd K ("InvalidText", some "__init__"), fd_InvalidText_init := g6,
    F_InvalidText_init := funOfD D6, b_InvalidText_init := (funOfD D6).binds (ps := ["self", "value"]) fun _ _ _ _ _ _ us hl => match us, hl with | [_, _], _ => rfl,
    f_Duplicate_init := He.fAd K ("Duplicate", some "__init__"), fd_Duplicate_init := g7,
    F_Duplicate_init := funOfD D7, b_Duplicate_init := (funOfD D7).binds (ps := ["self", "name"]) fun _ _ _ _ _ _ us hl => match us, hl with | [_, _], _ => rfl,
    f_UnknownMode_init := He.fAd K ("UnknownMode", some "__init__"), fd_UnknownMode_init := g8,
    F_UnknownMode_init := funOfD D8, b_UnknownMode_init := (funOfD D8).binds (ps := ["self", "name"]) fun _ _ _ _ _ _ us hl => match us, hl with | [_, _], _ => rfl,
    f_NoProgram_init := He.fAd K ("NoProgram", some "__init__"), fd_NoProgram_init := g9,
    F_NoProgram_init := funOfD D9, b_NoProgram_init := (funOfD D9).binds (ps := ["self", "kind"]) fun _ _ _ _ _ _ us hl => match us, hl with | [_, _], _ => rfl,
    f_is_name := He.fAd K ("is_name", none), fd_is_name := g10,
    F_is_name := funOfD D10, b_is_name := (funOfD D10).binds (ps := ["value"]) fun _ _ _ _ _ _ us hl => match us, hl with | [_], _ => rfl,
    m_is_name := He.glo_ok X G (cd.fact 0 (f := .glo "is_name") rfl),
    f_require_name := He.fAd K ("require_name", none), fd_require_name := g11,
    F_require_name := funOfD D11, b_require_name := (funOfD D11).binds (ps := ["value"]) fun _ _ _ _ _ _ us hl => match us, hl with | [_], _ => rfl,
    m_require_name := He.glo_ok X G (cd.fact 1 (f := .glo "require_name") rfl),
    f_is_kind := He.fAd K ("is_kind", none), fd_is_kind := g12,
    F_is_kind := funOfD D12, b_is_kind := (funOfD D12).binds (ps := ["value"]) fun _ _ _ _ _ _ us hl => match us, hl with | [_], _ => rfl,
    m_is_kind := He.glo_ok X G (cd.fact 2 (f := .glo "is_kind") rfl),
    f_require_kind := He.fAd K ("require_kind", none), fd_require_kind := g13,
    F_require_kind := funOfD D13, b_require_kind := (funOfD D13).binds (ps := ["value"]) fun _ _ _ _ _ _ us hl => match us, hl with | [_], _ => rfl,
    m_require_kind := He.glo_ok X G (cd.fact 3 (f := .glo "require_kind") rfl),
    f_is_step := He.fAd K ("is_step", none), fd_is_step := g14,
    F_is_step := funOfD D14, b_is_step := (funOfD D14).binds (ps := ["value", "kind"]) fun _ _ _ _ _ _ us hl => match us, hl with | [_, _], _ => rfl,
    m_is_step := He.glo_ok X G (cd.fact 4 (f := .glo "is_step") rfl),
    f_is_program := He.fAd K ("is_program", none), fd_is_program := g15,
    F_is_program := funOfD D15, b_is_program := (funOfD D15).binds (ps := ["value", "kind"]) fun _ _ _ _ _ _ us hl => match us, hl with | [_, _], _ => rfl,
    m_is_program := He.glo_ok X G (cd.fact 5 (f := .glo "is_program") rfl),
    f_ends_well := He.fAd K ("ends_well", none), fd_ends_well := g16,
    F_ends_well := funOfD D16, b_ends_well := (funOfD D16).binds (ps := ["words"]) fun _ _ _ _ _ _ us hl => match us, hl with | [_], _ => rfl,
    m_ends_well := He.glo_ok X G (cd.fact 6 (f := .glo "ends_well") rfl),
    f_has_needed := He.fAd K ("has_needed", none), fd_has_needed := g17,
    F_has_needed := funOfD D17, b_has_needed := (funOfD D17).binds (ps := ["words", "kind"]) fun _ _ _ _ _ _ us hl => match us, hl with | [_, _], _ => rfl,
    m_has_needed := He.glo_ok X G (cd.fact 7 (f := .glo "has_needed") rfl),
    f_is_in_order := He.fAd K ("is_in_order", none), fd_is_in_order := g18,
    F_is_in_order := funOfD D18, b_is_in_order := (funOfD D18).binds (ps := ["words"]) fun _ _ _ _ _ _ us hl => match us, hl with | [_], _ => rfl,
    m_is_in_order := He.glo_ok X G (cd.fact 8 (f := .glo "is_in_order") rfl),
    f_comes_before := He.fAd K ("comes_before", none), fd_comes_before := g19,
    F_comes_before := funOfD D19, b_comes_before := (funOfD D19).binds (ps := ["words", "earlier", "later"]) fun _ _ _ _ _ _ us hl => match us, hl with | [_, _, _], _ => rfl,
    m_comes_before := He.glo_ok X G (cd.fact 9 (f := .glo "comes_before") rfl),
    f_step_text := He.fAd K ("step_text", none), fd_step_text := g20,
    F_step_text := funOfD D20, b_step_text := (funOfD D20).binds (ps := ["step"]) fun _ _ _ _ _ _ us hl => match us, hl with | [_], _ => rfl,
    m_step_text := He.glo_ok X G (cd.fact 10 (f := .glo "step_text") rfl),
    f_program_text := He.fAd K ("program_text", none), fd_program_text := g21,
    F_program_text := funOfD D21, b_program_text := (funOfD D21).binds (ps := ["program"]) fun _ _ _ _ _ _ us hl => match us, hl with | [_], _ => rfl,
    m_program_text := He.glo_ok X G (cd.fact 11 (f := .glo "program_text") rfl),
    f_Strengths_init := He.fAd K ("Strengths", some "__init__"), fd_Strengths_init := g22,
    F_Strengths_init := funOfD D22, b_Strengths_init := (funOfD D22).binds (ps := ["self", "modes", "clashes"]) fun _ _ _ _ _ _ us hl => match us, hl with | [_, _, _], _ => rfl,
    f_Strengths_modes := He.fAd K ("Strengths", some "modes"), fd_Strengths_modes := g23,
    F_Strengths_modes := funOfD D23, b_Strengths_modes := (funOfD D23).binds (ps := ["self"]) fun _ _ _ _ _ _ us hl => match us, hl with | [_], _ => rfl,
    f_Strengths_clashes := He.fAd K ("Strengths", some "clashes"), fd_Strengths_clashes := g24,
    F_Strengths_clashes := funOfD D24, b_Strengths_clashes := (funOfD D24).binds (ps := ["self"]) fun _ _ _ _ _ _ us hl => match us, hl with | [_], _ => rfl,
    f_Strengths_eq := He.fAd K ("Strengths", some "__eq__"), fd_Strengths_eq := g25,
    F_Strengths_eq := funOfD D25, b_Strengths_eq := (funOfD D25).binds (ps := ["self", "other"]) fun _ _ _ _ _ _ us hl => match us, hl with | [_, _], _ => rfl,
    f_Strengths_str := He.fAd K ("Strengths", some "__str__"), fd_Strengths_str := g26,
    F_Strengths_str := funOfD D26, b_Strengths_str := (funOfD D26).binds (ps := ["self"]) fun _ _ _ _ _ _ us hl => match us, hl with | [_], _ => rfl,
    f_require_modes := He.fAd K ("require_modes", none), fd_require_modes := g27,
    F_require_modes := funOfD D27, b_require_modes := (funOfD D27).binds (ps := ["modes"]) fun _ _ _ _ _ _ us hl => match us, hl with | [_], _ => rfl,
    m_require_modes := He.glo_ok X G (cd.fact 12 (f := .glo "require_modes") rfl),
    f_require_clashes := He.fAd K ("require_clashes", none), fd_require_clashes := g28,
    F_require_clashes := funOfD D28, b_require_clashes := (funOfD D28).binds (ps := ["clashes", "modes"]) fun _ _ _ _ _ _ us hl => match us, hl with | [_, _], _ => rfl,
    m_require_clashes := He.glo_ok X G (cd.fact 13 (f := .glo "require_clashes") rfl),
    f_clashing_modes := He.fAd K ("clashing_modes", none), fd_clashing_modes := g29,
    F_clashing_modes := funOfD D29, b_clashing_modes := (funOfD D29).binds (ps := ["mode", "modes", "clashes"]) fun _ _ _ _ _ _ us hl => match us, hl with | [_, _, _], _ => rfl,
    m_clashing_modes := He.glo_ok X G (cd.fact 14 (f := .glo "clashing_modes") rfl),
    f_standard := He.fAd K ("standard", none), fd_standard := g30,
    F_standard := funOfD D30, b_standard := (funOfD D30).binds (ps := []) fun _ _ _ _ _ _ us hl => match us, hl with | [], _ => rfl,
    m_standard := He.glo_ok X G (cd.fact 15 (f := .glo "standard") rfl),
    f_read_strengths := He.fAd K ("read_strengths", none), fd_read_strengths := g31,
    F_read_strengths := funOfD D31, b_read_strengths := (funOfD D31).binds (ps := ["text"]) fun _ _ _ _ _ _ us hl => match us, hl with | [_], _ => rfl,
    m_read_strengths := He.glo_ok X G (cd.fact 16 (f := .glo "read_strengths") rfl),
    f_parsed_strengths := He.fAd K ("parsed_strengths", none), fd_parsed_strengths := g32,
    F_parsed_strengths := funOfD D32, b_parsed_strengths := (funOfD D32).binds (ps := ["text"]) fun _ _ _ _ _ _ us hl => match us, hl with | [_], _ => rfl,
    m_parsed_strengths := He.glo_ok X G (cd.fact 17 (f := .glo "parsed_strengths") rfl),
    f_Rulebook_init := He.fAd K ("Rulebook", some "__init__"), fd_Rulebook_init := g33,
    F_Rulebook_init := funOfD D33, b_Rulebook_init := (funOfD D33).binds (ps := ["self", "strengths", "programs"]) fun _ _ _ _ _ _ us hl => match us, hl with | [_, _, _], _ => rfl,
    f_Rulebook_eq := He.fAd K ("Rulebook", some "__eq__"), fd_Rulebook_eq := g34,
    F_Rulebook_eq := funOfD D34, b_Rulebook_eq := (funOfD D34).binds (ps := ["self", "other"]) fun _ _ _ _ _ _ us hl => match us, hl with | [_, _], _ => rfl,
    f_Rulebook_str := He.fAd K ("Rulebook", some "__str__"), fd_Rulebook_str := g35,
    F_Rulebook_str := funOfD D35, b_Rulebook_str := (funOfD D35).binds (ps := ["self"]) fun _ _ _ _ _ _ us hl => match us, hl with | [_], _ => rfl,
    f_require_strengths := He.fAd K ("require_strengths", none), fd_require_strengths := g36,
    F_require_strengths := funOfD D36, b_require_strengths := (funOfD D36).binds (ps := ["value"]) fun _ _ _ _ _ _ us hl => match us, hl with | [_], _ => rfl,
    m_require_strengths := He.glo_ok X G (cd.fact 18 (f := .glo "require_strengths") rfl),
    f_require_programs := He.fAd K ("require_programs", none), fd_require_programs := g37,
    F_require_programs := funOfD D37, b_require_programs := (funOfD D37).binds (ps := ["value"]) fun _ _ _ _ _ _ us hl => match us, hl with | [_], _ => rfl,
    m_require_programs := He.glo_ok X G (cd.fact 19 (f := .glo "require_programs") rfl),
    f_require_program := He.fAd K ("require_program", none), fd_require_program := g38,
    F_require_program := funOfD D38, b_require_program := (funOfD D38).binds (ps := ["strengths", "kind", "value"]) fun _ _ _ _ _ _ us hl => match us, hl with | [_, _, _], _ => rfl,
    m_require_program := He.glo_ok X G (cd.fact 20 (f := .glo "require_program") rfl),
    f_require_mode := He.fAd K ("require_mode", none), fd_require_mode := g39,
    F_require_mode := funOfD D39, b_require_mode := (funOfD D39).binds (ps := ["strengths", "value"]) fun _ _ _ _ _ _ us hl => match us, hl with | [_, _], _ => rfl,
    m_require_mode := He.glo_ok X G (cd.fact 21 (f := .glo "require_mode") rfl),
    f_read_protocol := He.fAd K ("read_protocol", none), fd_read_protocol := g40,
    F_read_protocol := funOfD D40, b_read_protocol := (funOfD D40).binds (ps := ["text"]) fun _ _ _ _ _ _ us hl => match us, hl with | [_], _ => rfl,
    m_read_protocol := He.glo_ok X G (cd.fact 22 (f := .glo "read_protocol") rfl),
    f_parsed_protocol := He.fAd K ("parsed_protocol", none), fd_parsed_protocol := g41,
    F_parsed_protocol := funOfD D41, b_parsed_protocol := (funOfD D41).binds (ps := ["text"]) fun _ _ _ _ _ _ us hl => match us, hl with | [_], _ => rfl,
    m_parsed_protocol := He.glo_ok X G (cd.fact 23 (f := .glo "parsed_protocol") rfl),
    f_law_cell := He.fAd K ("_law_cell", none), fd_law_cell := g42,
    F_law_cell := funOfD D42, b_law_cell := (funOfD D42).binds (ps := ["_law_script", "_law_k"]) fun _ _ _ _ _ _ us hl => match us, hl with | [_, _], _ => rfl,
    m_law_cell := He.glo_ok X G (cd.fact 24 (f := .glo "_law_cell") rfl),
    f_law_box := He.fAd K ("_law_box", none), fd_law_box := g43,
    F_law_box := funOfD D43, b_law_box := (funOfD D43).binds (ps := ["_law_cell_here"]) fun _ _ _ _ _ _ us hl => match us, hl with | [_], _ => rfl,
    m_law_box := He.glo_ok X G (cd.fact 25 (f := .glo "_law_box") rfl),
    f_law_take := He.fAd K ("_law_take", none), fd_law_take := g44,
    F_law_take := funOfD D44, b_law_take := (funOfD D44).binds (ps := ["_law_box_here", "_law_many"]) fun _ _ _ _ _ _ us hl => match us, hl with | [_, _], _ => rfl,
    m_law_take := He.glo_ok X G (cd.fact 26 (f := .glo "_law_take") rfl),
    f_law_mixed := He.fAd K ("_law_mixed", none), fd_law_mixed := g45,
    F_law_mixed := funOfD D45, b_law_mixed := (funOfD D45).binds (ps := ["_law_box_here", "_law_some"]) fun _ _ _ _ _ _ us hl => match us, hl with | [_, _], _ => rfl,
    m_law_mixed := He.glo_ok X G (cd.fact 27 (f := .glo "_law_mixed") rfl),
    f_law_names := He.fAd K ("_law_names", none), fd_law_names := g46,
    F_law_names := funOfD D46, b_law_names := (funOfD D46).binds (ps := ["_law_box_here", "_law_many"]) fun _ _ _ _ _ _ us hl => match us, hl with | [_, _], _ => rfl,
    m_law_names := He.glo_ok X G (cd.fact 28 (f := .glo "_law_names") rfl),
    f_law_kinds := He.fAd K ("_law_kinds", none), fd_law_kinds := g47,
    F_law_kinds := funOfD D47, b_law_kinds := (funOfD D47).binds (ps := []) fun _ _ _ _ _ _ us hl => match us, hl with | [], _ => rfl,
    m_law_kinds := He.glo_ok X G (cd.fact 29 (f := .glo "_law_kinds") rfl),
    f_law_is_name := He.fAd K ("_law_is_name", none), fd_law_is_name := g48,
    F_law_is_name := funOfD D48, b_law_is_name := (funOfD D48).binds (ps := ["_law_value"]) fun _ _ _ _ _ _ us hl => match us, hl with | [_], _ => rfl,
    m_law_is_name := He.glo_ok X G (cd.fact 30 (f := .glo "_law_is_name") rfl),
    f_law_is_step := He.fAd K ("_law_is_step", none), fd_law_is_step := g49,
    F_law_is_step := funOfD D49, b_law_is_step := (funOfD D49).binds (ps := ["_law_value", "_law_kind"]) fun _ _ _ _ _ _ us hl => match us, hl with | [_, _], _ => rfl,
    m_law_is_step := He.glo_ok X G (cd.fact 31 (f := .glo "_law_is_step") rfl),
    f_law_count := He.fAd K ("_law_count", none), fd_law_count := g50,
    F_law_count := funOfD D50, b_law_count := (funOfD D50).binds (ps := ["_law_words", "_law_some"]) fun _ _ _ _ _ _ us hl => match us, hl with | [_, _], _ => rfl,
    m_law_count := He.glo_ok X G (cd.fact 32 (f := .glo "_law_count") rfl),
    f_law_order := He.fAd K ("_law_order", none), fd_law_order := g51,
    F_law_order := funOfD D51, b_law_order := (funOfD D51).binds (ps := ["_law_words", "_law_first", "_law_later"]) fun _ _ _ _ _ _ us hl => match us, hl with | [_, _, _], _ => rfl,
    m_law_order := He.glo_ok X G (cd.fact 33 (f := .glo "_law_order") rfl),
    f_law_is_program := He.fAd K ("_law_is_program", none), fd_law_is_program := g52,
    F_law_is_program := funOfD D52, b_law_is_program := (funOfD D52).binds (ps := ["_law_value", "_law_kind"]) fun _ _ _ _ _ _ us hl => match us, hl with | [_, _], _ => rfl,
    m_law_is_program := He.glo_ok X G (cd.fact 34 (f := .glo "_law_is_program") rfl),
    f_law_drawn_step := He.fAd K ("_law_drawn_step", none), fd_law_drawn_step := g53,
    F_law_drawn_step := funOfD D53, b_law_drawn_step := (funOfD D53).binds (ps := ["_law_box_here", "_law_modes"]) fun _ _ _ _ _ _ us hl => match us, hl with | [_, _], _ => rfl,
    m_law_drawn_step := He.glo_ok X G (cd.fact 35 (f := .glo "_law_drawn_step") rfl),
    f_law_base := He.fAd K ("_law_base", none), fd_law_base := g54,
    F_law_base := funOfD D54, b_law_base := (funOfD D54).binds (ps := ["_law_box_here", "_law_kind"]) fun _ _ _ _ _ _ us hl => match us, hl with | [_, _], _ => rfl,
    m_law_base := He.glo_ok X G (cd.fact 36 (f := .glo "_law_base") rfl),
    f_law_program := He.fAd K ("_law_program", none), fd_law_program := g55,
    F_law_program := funOfD D55, b_law_program := (funOfD D55).binds (ps := ["_law_box_here", "_law_kind", "_law_modes"]) fun _ _ _ _ _ _ us hl => match us, hl with | [_, _, _], _ => rfl,
    m_law_program := He.glo_ok X G (cd.fact 37 (f := .glo "_law_program") rfl),
    f_law_programs := He.fAd K ("_law_programs", none), fd_law_programs := g56,
    F_law_programs := funOfD D56, b_law_programs := (funOfD D56).binds (ps := ["_law_box_here", "_law_modes"]) fun _ _ _ _ _ _ us hl => match us, hl with | [_, _], _ => rfl,
    m_law_programs := He.glo_ok X G (cd.fact 38 (f := .glo "_law_programs") rfl),
    f_law_ordered := He.fAd K ("_law_ordered", none), fd_law_ordered := g57,
    F_law_ordered := funOfD D57, b_law_ordered := (funOfD D57).binds (ps := ["_law_programs_here"]) fun _ _ _ _ _ _ us hl => match us, hl with | [_], _ => rfl,
    m_law_ordered := He.glo_ok X G (cd.fact 39 (f := .glo "_law_ordered") rfl),
    f_law_text := He.fAd K ("_law_text", none), fd_law_text := g58,
    F_law_text := funOfD D58, b_law_text := (funOfD D58).binds (ps := ["_law_model"]) fun _ _ _ _ _ _ us hl => match us, hl with | [_], _ => rfl,
    m_law_text := He.glo_ok X G (cd.fact 40 (f := .glo "_law_text") rfl),
    f_law_read_head := He.fAd K ("_law_read_head", none), fd_law_read_head := g59,
    F_law_read_head := funOfD D59, b_law_read_head := (funOfD D59).binds (ps := ["_law_line"]) fun _ _ _ _ _ _ us hl => match us, hl with | [_], _ => rfl,
    m_law_read_head := He.glo_ok X G (cd.fact 41 (f := .glo "_law_read_head") rfl),
    f_law_places := He.fAd K ("_law_places", none), fd_law_places := g60,
    F_law_places := funOfD D60, b_law_places := (funOfD D60).binds (ps := ["_law_modes", "_law_pair"]) fun _ _ _ _ _ _ us hl => match us, hl with | [_, _], _ => rfl,
    m_law_places := He.glo_ok X G (cd.fact 42 (f := .glo "_law_places") rfl),
    f_law_read := He.fAd K ("_law_read", none), fd_law_read := g61,
    F_law_read := funOfD D61, b_law_read := (funOfD D61).binds (ps := ["_law_text_here"]) fun _ _ _ _ _ _ us hl => match us, hl with | [_], _ => rfl,
    m_law_read := He.glo_ok X G (cd.fact 43 (f := .glo "_law_read") rfl),
    f_law_told := He.fAd K ("_law_told", none), fd_law_told := g62,
    F_law_told := funOfD D62, b_law_told := (funOfD D62).binds (ps := ["_law_value"]) fun _ _ _ _ _ _ us hl => match us, hl with | [_], _ => rfl,
    m_law_told := He.glo_ok X G (cd.fact 44 (f := .glo "_law_told") rfl),
    f_law_bent := He.fAd K ("_law_bent", none), fd_law_bent := g63,
    F_law_bent := funOfD D63, b_law_bent := (funOfD D63).binds (ps := ["_law_box_here", "_law_text_here"]) fun _ _ _ _ _ _ us hl => match us, hl with | [_, _], _ => rfl,
    m_law_bent := He.glo_ok X G (cd.fact 45 (f := .glo "_law_bent") rfl),
    f_law := He.fAd K ("law", none), fd_law := g64,
    F_law := funOfD D64, b_law := (funOfD D64).binds (ps := ["_law_script"]) fun _ _ _ _ _ _ us hl => match us, hl with | [_], _ => rfl,
    m_law := He.glo_ok X G (cd.fact 46 (f := .glo "law") rfl),
    C_InvalidName := He.ga K "InvalidName", g_InvalidName := He.glo_ok X G (cd.fact 47 (f := .glo "InvalidName") rfl), x_InvalidName := z0.1, y_InvalidName := z0.2.1, n_InvalidName := z0.2.2.1, i_InvalidName := z0.2.2.2.1, t_InvalidName := z0.2.2.2.2,
    C_InvalidModes := He.ga K "InvalidModes", g_InvalidModes := He.glo_ok X G (cd.fact 48 (f := .glo "InvalidModes") rfl), x_InvalidModes := z1.1, y_InvalidModes := z1.2.1, n_InvalidModes := z1.2.2.1, i_InvalidModes := z1.2.2.2.1, t_InvalidModes := z1.2.2.2.2,
    C_InvalidClash := He.ga K "InvalidClash", g_InvalidClash := He.glo_ok X G (cd.fact 49 (f := .glo "InvalidClash") rfl), x_InvalidClash := z2.1, y_InvalidClash := z2.2.1, n_InvalidClash := z2.2.2.1, i_InvalidClash := z2.2.2.2.1, t_InvalidClash := z2.2.2.2.2,
    C_InvalidStrengths := He.ga K "InvalidStrengths", g_InvalidStrengths := He.glo_ok X G (cd.fact 50 (f := .glo "InvalidStrengths") rfl), x_InvalidStrengths := z3.1, y_InvalidStrengths := z3.2.1, n_InvalidStrengths := z3.2.2.1, i_InvalidStrengths := z3.2.2.2.1, t_InvalidStrengths := z3.2.2.2.2,
    C_InvalidProgram := He.ga K "InvalidProgram", g_InvalidProgram := He.glo_ok X G (cd.fact 51 (f := .glo "InvalidProgram") rfl), x_InvalidProgram := z4.1, y_InvalidProgram := z4.2.1, n_InvalidProgram := z4.2.2.1, i_InvalidProgram := z4.2.2.2.1, t_InvalidProgram := z4.2.2.2.2,
    C_InvalidPrograms := He.ga K "InvalidPrograms", g_InvalidPrograms := He.glo_ok X G (cd.fact 52 (f := .glo "InvalidPrograms") rfl), x_InvalidPrograms := z5.1, y_InvalidPrograms := z5.2.1, n_InvalidPrograms := z5.2.2.1, i_InvalidPrograms := z5.2.2.2.1, t_InvalidPrograms := z5.2.2.2.2,
    C_InvalidText := He.ga K "InvalidText", g_InvalidText := He.glo_ok X G (cd.fact 53 (f := .glo "InvalidText") rfl), x_InvalidText := z6.1, y_InvalidText := z6.2.1, n_InvalidText := z6.2.2.1, i_InvalidText := z6.2.2.2.1, t_InvalidText := z6.2.2.2.2,
    C_Duplicate := He.ga K "Duplicate", g_Duplicate := He.glo_ok X G (cd.fact 54 (f := .glo "Duplicate") rfl), x_Duplicate := z7.1, y_Duplicate := z7.2.1, n_Duplicate := z7.2.2.1, i_Duplicate := z7.2.2.2.1, t_Duplicate := z7.2.2.2.2,
    C_UnknownMode := He.ga K "UnknownMode", g_UnknownMode := He.glo_ok X G (cd.fact 55 (f := .glo "UnknownMode") rfl), x_UnknownMode := z8.1, y_UnknownMode := z8.2.1, n_UnknownMode := z8.2.2.1, i_UnknownMode := z8.2.2.2.1, t_UnknownMode := z8.2.2.2.2,
    C_NoProgram := He.ga K "NoProgram", g_NoProgram := He.glo_ok X G (cd.fact 56 (f := .glo "NoProgram") rfl), x_NoProgram := z9.1, y_NoProgram := z9.2.1, n_NoProgram := z9.2.2.1, i_NoProgram := z9.2.2.2.1, t_NoProgram := z9.2.2.2.2,
    C_PartsError := He.ga K "PartsError", g_PartsError := He.glo_ok X G (cd.fact 57 (f := .glo "PartsError") rfl),
    C_Strengths := He.ga K "Strengths", g_Strengths := He.glo_ok X G (cd.fact 59 (f := .glo "Strengths") rfl), cl_Strengths := He.cls_ok (x := "Strengths") (cd.fact 58 rfl), mk_Strengths := He.mkr_ok (x := "Strengths") (cd.fact 60 rfl), ic_Strengths := iz0.1,
    me_Strengths_init := He.meth_ok (x := "Strengths") (m := "__init__") (cd.fact 61 rfl),
    me_Strengths_modes := He.meth_ok (x := "Strengths") (m := "modes") (cd.fact 62 rfl),
    me_Strengths_clashes := He.meth_ok (x := "Strengths") (m := "clashes") (cd.fact 63 rfl),
    me_Strengths_eq := He.meth_ok (x := "Strengths") (m := "__eq__") (cd.fact 64 rfl),
    me_Strengths_str := He.meth_ok (x := "Strengths") (m := "__str__") (cd.fact 65 rfl),
    no_Strengths_modes := He.noat_ok (x := "Strengths") (f := "_modes") (cd.fact 66 rfl),
    no_Strengths_against := He.noat_ok (x := "Strengths") (f := "_against") (cd.fact 67 rfl),
    io_Strengths_list := iz0.2.1, nf_Strengths_list := iz0.2.2.1, io_Strengths_str := iz0.2.2.2.1, nf_Strengths_str := iz0.2.2.2.2,
    io_own_Strengths_str := of_decide_eq_true e3,
    C_Rulebook := He.ga K "Rulebook", g_Rulebook := He.glo_ok X G (cd.fact 69 (f := .glo "Rulebook") rfl), cl_Rulebook := He.cls_ok (x := "Rulebook") (cd.fact 68 rfl), mk_Rulebook := He.mkr_ok (x := "Rulebook") (cd.fact 70 rfl), ic_Rulebook := iz1.1,
    me_Rulebook_init := He.meth_ok (x := "Rulebook") (m := "__init__") (cd.fact 71 rfl),
    me_Rulebook_eq := He.meth_ok (x := "Rulebook") (m := "__eq__") (cd.fact 72 rfl),
    me_Rulebook_str := He.meth_ok (x := "Rulebook") (m := "__str__") (cd.fact 73 rfl),
    no_Rulebook_strengths := He.noat_ok (x := "Rulebook") (f := "_strengths") (cd.fact 74 rfl),
    no_Rulebook_programs := He.noat_ok (x := "Rulebook") (f := "_programs") (cd.fact 75 rfl),
    io_Rulebook_list := iz1.2.1, nf_Rulebook_list := iz1.2.2.1, io_Rulebook_str := iz1.2.2.2.1, nf_Rulebook_str := iz1.2.2.2.2,
    io_own_Rulebook_str := of_decide_eq_true e5,
    e_InvalidModes_PartsError := He.exm_ok (x := "InvalidModes") (y := "PartsError") (cd.fact 76 rfl),
    e_InvalidName_PartsError := He.exm_ok (x := "InvalidName") (y := "PartsError") (cd.fact 77 rfl),
    e_Duplicate_PartsError := He.exm_ok (x := "Duplicate") (y := "PartsError") (cd.fact 78 rfl),
    e_InvalidStrengths_PartsError := He.exm_ok (x := "InvalidStrengths") (y := "PartsError") (cd.fact 79 rfl),
    e_InvalidClash_PartsError := He.exm_ok (x := "InvalidClash") (y := "PartsError") (cd.fact 80 rfl),
    e_UnknownMode_PartsError := He.exm_ok (x := "UnknownMode") (y := "PartsError") (cd.fact 81 rfl),
    e_InvalidText_PartsError := He.exm_ok (x := "InvalidText") (y := "PartsError") (cd.fact 82 rfl),
    e_InvalidText_InvalidText := He.exm_ok (x := "InvalidText") (y := "InvalidText") (cd.fact 83 rfl),
    e_NoProgram_PartsError := He.exm_ok (x := "NoProgram") (y := "PartsError") (cd.fact 84 rfl),
    e_InvalidProgram_PartsError := He.exm_ok (x := "InvalidProgram") (y := "PartsError") (cd.fact 85 rfl),
    e_InvalidPrograms_PartsError := He.exm_ok (x := "InvalidPrograms") (y := "PartsError") (cd.fact 86 rfl),
    t_LONGEST_NAME := u_LONGEST_NAME, c_LONGEST_NAME := v_LONGEST_NAME,
    t_MOST_STEPS := u_MOST_STEPS, c_MOST_STEPS := v_MOST_STEPS,
    t_MOST_MODES := u_MOST_MODES, c_MOST_MODES := v_MOST_MODES,
    A_KINDS := He.ga K "KINDS", c_KINDS := He.glo_ok X G (cd.fact 90 (f := .glo "KINDS") rfl),
    d_KINDS := dd_KINDS,
    A_LOCKS := He.ga K "LOCKS", c_LOCKS := He.glo_ok X G (cd.fact 91 (f := .glo "LOCKS") rfl),
    l_LOCKS := ⟨es_LOCKS, en_LOCKS, kd_LOCKS.at_, kd_LOCKS.lit⟩,
    d_LOCKS := dd_LOCKS,
    A_STEPS := He.ga K "STEPS", c_STEPS := He.glo_ok X G (cd.fact 92 (f := .glo "STEPS") rfl),
    l_STEPS := ⟨es_STEPS, en_STEPS, kd_STEPS.at_, kd_STEPS.lit⟩,
    d_STEPS := dd_STEPS,
    A_NEEDED := He.ga K "NEEDED", c_NEEDED := He.glo_ok X G (cd.fact 93 (f := .glo "NEEDED") rfl),
    l_NEEDED := ⟨es_NEEDED, en_NEEDED, kd_NEEDED.at_, kd_NEEDED.lit⟩,
    d_NEEDED := dd_NEEDED,
    A_AT_MOST_ONCE := He.ga K "AT_MOST_ONCE", c_AT_MOST_ONCE := He.glo_ok X G (cd.fact 94 (f := .glo "AT_MOST_ONCE") rfl),
    d_AT_MOST_ONCE := dd_AT_MOST_ONCE,
    A_ORDERS := He.ga K "ORDERS", c_ORDERS := He.glo_ok X G (cd.fact 95 (f := .glo "ORDERS") rfl),
    d_ORDERS := dd_ORDERS,
    z_all := He.free_ok X G (x := "all") (cd.fact 96 rfl),
    z_isinstance := He.free_ok X G (x := "isinstance") (cd.fact 97 rfl),
    z_str := He.free_ok X G (x := "str") (cd.fact 98 rfl),
    z_len := He.free_ok X G (x := "len") (cd.fact 99 rfl),
    z_tuple := He.free_ok X G (x := "tuple") (cd.fact 100 rfl),
    z_list := He.free_ok X G (x := "list") (cd.fact 101 rfl),
    z_enumerate := He.free_ok X G (x := "enumerate") (cd.fact 102 rfl),
    z_max := He.free_ok X G (x := "max") (cd.fact 103 rfl),
    z_min := He.free_ok X G (x := "min") (cd.fact 104 rfl),
    z_dict := He.free_ok X G (x := "dict") (cd.fact 105 rfl),
    z_range := He.free_ok X G (x := "range") (cd.fact 106 rfl) }
  exact ok_law T
end My
open PySem PySem.W PySem.Calls PyProof.Rows
set_option maxRecDepth 100000 in
set_option maxHeartbeats 0 in
theorem PySem.Challenge.cw_hungparts_k24_texts_of_protocols_holds : PySem.Challenge.rw_hungparts_k24_texts_of_protocols.Holds := by
  w_on; o_law
  refine HandSHeadRun.head_any (r := My.RW) (q := view My.RW.prog [75]) (H := My.hookM) (ob := My.obN) (M := 6000) (loose := My.looseL) (d := HandSHeadRun.topDef My.RW.prog 75) (kwd := []) My.obN_eq
    (by kernel_rfl) (fun s => by kernel_rfl) My.run (by kernel_rfl) (by kernel_rfl) (by kernel_rfl) (by rfl) (by first | assumption | decide +kernel) (by decide +kernel) ⟨rfl, rfl, rfl, rfl, rfl, by decide +kernel⟩ ?hw ?hc
  case hw => w_witness2
  case hc =>
    refine LamX.walk_ofTsE (l := PySem.Challenge.rw_hungparts_k24_texts_of_protocols) (n := 63) (k := 12) (x := "_law_script") (CX := fun _ => L2.CX0) rfl (by decide) (by kernel_rfl) ⟨rfl, by decide, by decide⟩ ?F (fun _ _ _ _ _ z => z)
    intro w mg fa h Y G hmg0
    obtain ⟨K, KX, c, co, cb⟩ := Y
    have hmg : mg ("law" : PySem.Str) = some (.ref fa) := by
      have e : (HandSHeadRun.topDef My.RW.prog 75).name = ("law" : PySem.Str) := by kernel_rfl
      rw [← e]
      exact hmg0
    exact ⟨K, KX, My.facts KX G hmg c cb⟩
#print axioms PySem.Challenge.cw_hungparts_k24_texts_of_protocols_holds

