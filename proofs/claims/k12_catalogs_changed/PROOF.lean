import PyProof.Rows.All
import Wide.All
import OpenK.AllK
import Wide.FinOn
import HandS.ForMost
import HandS.ForExc
import HandS.IsInst
import HandS.Walk
import HandS.Codes
import HandS.SortKw
import HandS.TryMany
import HandS.ExcInit
import HandS.ExcField
import KE.DatumOrd
import HandS.More
import HandS.CallSlots
import HandS.Defaults
import HandS.TupAny
import HandS.Deep
import HandS.Small
import HandS.Style
import HandS.Words
import HandS.Strs
import HandS.Star
import KE.KUnpackStar
import HandS.Flow
import HandS.SlotsOwn
import HandS.DeepEq
import HandS.DictEq
import HandS.DictComp
import HandS.ExcOwn
import KE.KCallOwn
import HandS.StrMore
import HandS.FStr
import KE.KRevSl
import HandS.Nested
import HandS.MakeKwOnly
import HandS.Conv
import HandS.NoneIn
import HandS.Property
import HandS.SortInts
import HandS.HeadHook4
import HandS.HeadWalk
import HandS.Head0
import HandS.Head1
import HandS.Head2
import HandS.HeadEnd
import KE.SortKeyHeap
import HandS.TryOnly
import PySem.Challenge.RW_hungparts_k12_catalogs_changed
set_option Elab.async false
set_option linter.all false
set_option maxRecDepth 100000
set_option maxHeartbeats 4000000

namespace My
open PySem L2
def top (i : Nat) : Stmt := PySem.Challenge.pw_hungparts_k12_catalogs_changed.main.body.getD i (.Pass ⟨0, 0, 0, 0⟩)
abbrev s_InvalidName_init : Stmt := inClass (top 3) 0
theorem sc_InvalidName_init : FnScope ["self", "value"] ["self", "value"] (defScope s_InvalidName_init) := ⟨rfl, rfl, rfl, by decide +kernel, rfl, by decide +kernel, by decide +kernel⟩
abbrev s_InvalidSpan_init : Stmt := inClass (top 4) 0
theorem sc_InvalidSpan_init : FnScope ["self", "value"] ["self", "value"] (defScope s_InvalidSpan_init) := ⟨rfl, rfl, rfl, by decide +kernel, rfl, by decide +kernel, by decide +kernel⟩
abbrev s_InvalidSpans_init : Stmt := inClass (top 5) 0
theorem sc_InvalidSpans_init : FnScope ["self", "value"] ["self", "value"] (defScope s_InvalidSpans_init) := ⟨rfl, rfl, rfl, by decide +kernel, rfl, by decide +kernel, by decide +kernel⟩
abbrev s_InvalidCatalog_init : Stmt := inClass (top 6) 0
theorem sc_InvalidCatalog_init : FnScope ["self", "value"] ["self", "value"] (defScope s_InvalidCatalog_init) := ⟨rfl, rfl, rfl, by decide +kernel, rfl, by decide +kernel, by decide +kernel⟩
abbrev s_InvalidChange_init : Stmt := inClass (top 7) 0
theorem sc_InvalidChange_init : FnScope ["self", "value"] ["self", "value"] (defScope s_InvalidChange_init) := ⟨rfl, rfl, rfl, by decide +kernel, rfl, by decide +kernel, by decide +kernel⟩
abbrev s_UnknownPart_init : Stmt := inClass (top 8) 0
theorem sc_UnknownPart_init : FnScope ["self", "name"] ["self", "name"] (defScope s_UnknownPart_init) := ⟨rfl, rfl, rfl, by decide +kernel, rfl, by decide +kernel, by decide +kernel⟩
abbrev s_NameTaken_init : Stmt := inClass (top 9) 0
theorem sc_NameTaken_init : FnScope ["self", "name"] ["self", "name"] (defScope s_NameTaken_init) := ⟨rfl, rfl, rfl, by decide +kernel, rfl, by decide +kernel, by decide +kernel⟩
abbrev s_Overlap_init : Stmt := inClass (top 10) 0
theorem sc_Overlap_init : FnScope ["self", "name"] ["self", "name"] (defScope s_Overlap_init) := ⟨rfl, rfl, rfl, by decide +kernel, rfl, by decide +kernel, by decide +kernel⟩
abbrev s_NotInside_init : Stmt := inClass (top 11) 0
theorem sc_NotInside_init : FnScope ["self", "at"] ["self", "at"] (defScope s_NotInside_init) := ⟨rfl, rfl, rfl, by decide +kernel, rfl, by decide +kernel, by decide +kernel⟩
abbrev s_NotNeighbours_init : Stmt := inClass (top 12) 0
theorem sc_NotNeighbours_init : FnScope ["self", "name"] ["self", "name"] (defScope s_NotNeighbours_init) := ⟨rfl, rfl, rfl, by decide +kernel, rfl, by decide +kernel, by decide +kernel⟩
abbrev s_TooMany_init : Stmt := inClass (top 13) 0
theorem sc_TooMany_init : FnScope ["self", "bound"] ["self", "bound"] (defScope s_TooMany_init) := ⟨rfl, rfl, rfl, by decide +kernel, rfl, by decide +kernel, by decide +kernel⟩
abbrev s_is_integer : Stmt := top 16
theorem sc_is_integer : FnScope ["value"] ["value"] (defScope s_is_integer) := ⟨rfl, rfl, rfl, by decide +kernel, rfl, by decide +kernel, by decide +kernel⟩
abbrev s_is_name : Stmt := top 17
theorem sc_is_name : FnScope ["value", "sign"] ["value"] (defScope s_is_name) := ⟨rfl, rfl, rfl, by decide +kernel, rfl, by decide +kernel, by decide +kernel⟩
abbrev s_is_span : Stmt := top 18
theorem sc_is_span : FnScope ["value", "low", "high"] ["value"] (defScope s_is_span) := ⟨rfl, rfl, rfl, by decide +kernel, rfl, by decide +kernel, by decide +kernel⟩
abbrev s_is_limit : Stmt := top 19
theorem sc_is_limit : FnScope ["value"] ["value"] (defScope s_is_limit) := ⟨rfl, rfl, rfl, by decide +kernel, rfl, by decide +kernel, by decide +kernel⟩
abbrev s_require_name : Stmt := top 20
theorem sc_require_name : FnScope ["value"] ["value"] (defScope s_require_name) := ⟨rfl, rfl, rfl, by decide +kernel, rfl, by decide +kernel, by decide +kernel⟩
abbrev s_require_span : Stmt := top 21
theorem sc_require_span : FnScope ["value"] ["value"] (defScope s_require_span) := ⟨rfl, rfl, rfl, by decide +kernel, rfl, by decide +kernel, by decide +kernel⟩
abbrev s_meet : Stmt := top 22
theorem sc_meet : FnScope ["one", "other"] ["one", "other"] (defScope s_meet) := ⟨rfl, rfl, rfl, by decide +kernel, rfl, by decide +kernel, by decide +kernel⟩
abbrev s_common : Stmt := top 23
theorem sc_common : FnScope ["one", "other", "lows", "highs", "both", "low", "high"] ["one", "other"] (defScope s_common) := ⟨rfl, rfl, rfl, by decide +kernel, rfl, by decide +kernel, by decide +kernel⟩
abbrev s_Catalog_init : Stmt := inClass (top 28) 0
theorem sc_Catalog_init : FnScope ["self", "spans", "rest", "given", "names"] ["self", "spans", "rest"] (defScope s_Catalog_init) := ⟨rfl, rfl, rfl, by decide +kernel, rfl, by decide +kernel, by decide +kernel⟩
abbrev s_Catalog_rest : Stmt := inClass (top 28) 1
theorem sc_Catalog_rest : FnScope ["self"] ["self"] (defScope s_Catalog_rest) := ⟨rfl, rfl, rfl, by decide +kernel, rfl, by decide +kernel, by decide +kernel⟩
abbrev s_Catalog_names : Stmt := inClass (top 28) 2
theorem sc_Catalog_names : FnScope ["self"] ["self"] (defScope s_Catalog_names) := ⟨rfl, rfl, rfl, by decide +kernel, rfl, by decide +kernel, by decide +kernel⟩
abbrev s_Catalog_contains : Stmt := inClass (top 28) 4
theorem sc_Catalog_contains : FnScope ["self", "x"] ["self", "x"] (defScope s_Catalog_contains) := ⟨rfl, rfl, rfl, by decide +kernel, rfl, by decide +kernel, by decide +kernel⟩
abbrev s_Catalog_eq : Stmt := inClass (top 28) 5
theorem sc_Catalog_eq : FnScope ["self", "other"] ["self", "other"] (defScope s_Catalog_eq) := ⟨rfl, rfl, rfl, by decide +kernel, rfl, by decide +kernel, by decide +kernel⟩
abbrev s_Catalog_span : Stmt := inClass (top 28) 6
theorem sc_Catalog_span : FnScope ["self", "name"] ["self", "name"] (defScope s_Catalog_span) := ⟨rfl, rfl, rfl, by decide +kernel, rfl, by decide +kernel, by decide +kernel⟩
abbrev s_require_spans : Stmt := top 29
theorem sc_require_spans : FnScope ["spans", "name"] ["spans"] (defScope s_require_spans) := ⟨rfl, rfl, rfl, by decide +kernel, rfl, by decide +kernel, by decide +kernel⟩
abbrev s_require_rest : Stmt := top 30
theorem sc_require_rest : FnScope ["rest", "spans"] ["rest", "spans"] (defScope s_require_rest) := ⟨rfl, rfl, rfl, by decide +kernel, rfl, by decide +kernel, by decide +kernel⟩
abbrev s_ordered_spans : Stmt := top 31
theorem sc_ordered_spans : FnScope ["spans", "ordered", "name"] ["spans"] (defScope s_ordered_spans) := ⟨rfl, rfl, rfl, by decide +kernel, rfl, by decide +kernel, by decide +kernel⟩
abbrev s_first_meeting : Stmt := top 32
theorem sc_first_meeting : FnScope ["spans", "span", "name"] ["spans", "span"] (defScope s_first_meeting) := ⟨rfl, rfl, rfl, by decide +kernel, rfl, by decide +kernel, by decide +kernel⟩
abbrev s_all_stretches : Stmt := top 33
theorem sc_all_stretches : FnScope ["spans", "rest", "found", "end", "name", "low", "high"] ["spans", "rest"] (defScope s_all_stretches) := ⟨rfl, rfl, rfl, by decide +kernel, rfl, by decide +kernel, by decide +kernel⟩
abbrev s_low_place : Stmt := top 34
theorem sc_low_place : FnScope ["span", "low"] ["span"] (defScope s_low_place) := ⟨rfl, rfl, rfl, by decide +kernel, rfl, by decide +kernel, by decide +kernel⟩
abbrev s_is_change : Stmt := top 36
theorem sc_is_change : FnScope ["value", "kind", "items"] ["value"] (defScope s_is_change) := ⟨rfl, rfl, rfl, by decide +kernel, rfl, by decide +kernel, by decide +kernel⟩
abbrev s_are_different_names : Stmt := top 37
theorem sc_are_different_names : FnScope ["values", "value"] ["values"] (defScope s_are_different_names) := ⟨rfl, rfl, rfl, by decide +kernel, rfl, by decide +kernel, by decide +kernel⟩
abbrev s_require_change : Stmt := top 38
theorem sc_require_change : FnScope ["value"] ["value"] (defScope s_require_change) := ⟨rfl, rfl, rfl, by decide +kernel, rfl, by decide +kernel, by decide +kernel⟩
abbrev s_require_catalog : Stmt := top 39
theorem sc_require_catalog : FnScope ["value"] ["value"] (defScope s_require_catalog) := ⟨rfl, rfl, rfl, by decide +kernel, rfl, by decide +kernel, by decide +kernel⟩
abbrev s_roles : Stmt := top 40
theorem sc_roles : FnScope ["change", "kind", "items"] ["change"] (defScope s_roles) := ⟨rfl, rfl, rfl, by decide +kernel, rfl, by decide +kernel, by decide +kernel⟩
abbrev s_changed : Stmt := top 41
theorem sc_changed : FnScope ["catalog", "change", "old", "new", "spans", "name", "kept", "hung"] ["catalog", "change"] (defScope s_changed) := ⟨rfl, rfl, rfl, by decide +kernel, rfl, by decide +kernel, by decide +kernel⟩
abbrev s_spans_of : Stmt := top 42
theorem sc_spans_of : FnScope ["catalog", "name"] ["catalog"] (defScope s_spans_of) := ⟨rfl, rfl, rfl, by decide +kernel, rfl, by decide +kernel, by decide +kernel⟩
abbrev s_new_spans : Stmt := top 43
theorem sc_new_spans : FnScope ["spans", "change", "kind", "items", "name", "span", "other"] ["spans", "change"] (defScope s_new_spans) := ⟨rfl, rfl, rfl, by decide +kernel, rfl, by decide +kernel, by decide +kernel⟩
abbrev s_split_spans : Stmt := top 44
theorem sc_split_spans : FnScope ["spans", "name", "at", "left", "right", "low", "high"] ["spans", "name", "at", "left", "right"] (defScope s_split_spans) := ⟨rfl, rfl, rfl, by decide +kernel, rfl, by decide +kernel, by decide +kernel⟩
abbrev s_joined_spans : Stmt := top 45
theorem sc_joined_spans : FnScope ["spans", "left", "right", "name", "low", "end", "start", "high"] ["spans", "left", "right", "name"] (defScope s_joined_spans) := ⟨rfl, rfl, rfl, by decide +kernel, rfl, by decide +kernel, by decide +kernel⟩
abbrev s_fits : Stmt := top 46
theorem sc_fits : FnScope ["catalog", "change"] ["catalog", "change"] (defScope s_fits) := ⟨rfl, rfl, rfl, by decide +kernel, rfl, by decide +kernel, by decide +kernel⟩
abbrev s_reverse : Stmt := top 47
theorem sc_reverse : FnScope ["catalog", "change", "kind", "items", "name", "_", "left", "right"] ["catalog", "change"] (defScope s_reverse) := ⟨rfl, rfl, rfl, by decide +kernel, rfl, by decide +kernel, by decide +kernel⟩
abbrev s_law_cell : Stmt := top 49
theorem sc_law_cell : FnScope ["_law_script", "_law_k"] ["_law_script", "_law_k"] (defScope s_law_cell) := ⟨rfl, rfl, rfl, by decide +kernel, rfl, by decide +kernel, by decide +kernel⟩
abbrev s_law_box : Stmt := top 50
theorem sc_law_box : FnScope ["_law_cell_here"] ["_law_cell_here"] (defScope s_law_box) := ⟨rfl, rfl, rfl, by decide +kernel, rfl, by decide +kernel, by decide +kernel⟩
abbrev s_law_take : Stmt := top 51
theorem sc_law_take : FnScope ["_law_box_here", "_law_many", "_law_digit", "_law_number"] ["_law_box_here", "_law_many"] (defScope s_law_take) := ⟨rfl, rfl, rfl, by decide +kernel, rfl, by decide +kernel, by decide +kernel⟩
abbrev s_law_mixed : Stmt := top 52
theorem sc_law_mixed : FnScope ["_law_box_here", "_law_some", "_law_left", "_law_k"] ["_law_box_here", "_law_some"] (defScope s_law_mixed) := ⟨rfl, rfl, rfl, by decide +kernel, rfl, by decide +kernel, by decide +kernel⟩
abbrev s_law_names : Stmt := top 53
theorem sc_law_names : FnScope ["_law_box_here", "_law_many", "_law_letters", "_law_words", "_law_stem", "_law_first", "_law_step", "_law_way", "_law_found", "_law_k", "_law_sign", "_law_name"] ["_law_box_here", "_law_many"] (defScope s_law_names) := ⟨rfl, rfl, rfl, by decide +kernel, rfl, by decide +kernel, by decide +kernel⟩
abbrev s_law_model : Stmt := top 54
theorem sc_law_model : FnScope ["_law_box_here", "_law_most", "_law_names_here", "_law_great", "_law_at", "_law_rows", "_law_k", "_law_low", "_law_spared"] ["_law_box_here", "_law_most"] (defScope s_law_model) := ⟨rfl, rfl, rfl, by decide +kernel, rfl, by decide +kernel, by decide +kernel⟩
abbrev s_law_catalog : Stmt := top 55
theorem sc_law_catalog : FnScope ["_law_box_here", "_law_model_here", "_law_row"] ["_law_box_here", "_law_model_here"] (defScope s_law_catalog) := ⟨rfl, rfl, rfl, by decide +kernel, rfl, by decide +kernel, by decide +kernel⟩
abbrev s_law_all_names : Stmt := top 56
theorem sc_law_all_names : FnScope ["_law_model_here", "_law_name", "_law_span"] ["_law_model_here"] (defScope s_law_all_names) := ⟨rfl, rfl, rfl, by decide +kernel, rfl, by decide +kernel, by decide +kernel⟩
abbrev s_law_meet : Stmt := top 57
theorem sc_law_meet : FnScope ["_law_one", "_law_other", "_law_low", "_law_high"] ["_law_one", "_law_other"] (defScope s_law_meet) := ⟨rfl, rfl, rfl, by decide +kernel, rfl, by decide +kernel, by decide +kernel⟩
abbrev s_law_span_of : Stmt := top 58
theorem sc_law_span_of : FnScope ["_law_model_here", "_law_name", "_law_own", "_law_span"] ["_law_model_here", "_law_name"] (defScope s_law_span_of) := ⟨rfl, rfl, rfl, by decide +kernel, rfl, by decide +kernel, by decide +kernel⟩
abbrev s_law_after : Stmt := top 59
theorem sc_law_after : FnScope ["_law_model_here", "_law_deed", "_law_kind", "_law_spans", "_law_old", "_law_new", "_law_name", "_law_left", "_law_over", "_law_low", "_law_high", "_law_one", "_law_other", "_law_own", "_law_span", "_law_row"] ["_law_model_here", "_law_deed"] (defScope s_law_after) := ⟨rfl, rfl, rfl, by decide +kernel, rfl, by decide +kernel, by decide +kernel⟩
abbrev s_law_limits : Stmt := top 60
theorem sc_law_limits : FnScope ["_law_model_here", "_law_found", "_law_name", "_law_span", "_law_limit"] ["_law_model_here"] (defScope s_law_limits) := ⟨rfl, rfl, rfl, by decide +kernel, rfl, by decide +kernel, by decide +kernel⟩
abbrev s_law_spare : Stmt := top 61
theorem sc_law_spare : FnScope ["_law_box_here", "_law_model_here", "_law_pool", "_law_name"] ["_law_box_here", "_law_model_here"] (defScope s_law_spare) := ⟨rfl, rfl, rfl, by decide +kernel, rfl, by decide +kernel, by decide +kernel⟩
abbrev s_law_drawn_change : Stmt := top 62
theorem sc_law_drawn_change : FnScope ["_law_box_here", "_law_model_here", "_law_spare_here", "_law_limits_here", "_law_names_here", "_law_name", "_law_other", "_law_fresh", "_law_at", "_law_way", "_law_high", "_law_own", "_law_span", "_law_limit"] ["_law_box_here", "_law_model_here", "_law_spare_here"] (defScope s_law_drawn_change) := ⟨rfl, rfl, rfl, by decide +kernel, rfl, by decide +kernel, by decide +kernel⟩
abbrev s_law_drawn_join : Stmt := top 63
theorem sc_law_drawn_join : FnScope ["_law_box_here", "_law_model_here", "_law_name", "_law_goal", "_law_parts", "_law_touching", "_law_one", "_law_span", "_law_pairs", "_law_pair", "_law_own", "_law_other", "_law_more"] ["_law_box_here", "_law_model_here", "_law_name", "_law_goal"] (defScope s_law_drawn_join) := ⟨rfl, rfl, rfl, by decide +kernel, rfl, by decide +kernel, by decide +kernel⟩
abbrev s_law_told : Stmt := top 64
theorem sc_law_told : FnScope ["_law_way", "_law_book", "_law_deed", "e"] ["_law_way", "_law_book", "_law_deed"] (defScope s_law_told) := ⟨rfl, rfl, rfl, by decide +kernel, rfl, by decide +kernel, by decide +kernel⟩
abbrev s_law : Stmt := top 65
theorem sc_law : FnScope ["_law_script", "_law_k", "_law_box_here", "_law_model_here", "_law_book", "_law_turn", "_law_deed", "_law_due", "_law_told_here", "_law_fit", "_law_bad", "_law_odd", "_law_way"] ["_law_script"] (defScope s_law) := ⟨rfl, rfl, rfl, by decide +kernel, rfl, by decide +kernel, by decide +kernel⟩

/-! ### properties: how the end tells of them -/
section
open PySem.Spec PySem.Calls PyProof.Rows
def prAt (K : PySem.W.Frag) (C f : Str) : Addr := He.ma K (He.ga K C) f
def prG (K : PySem.W.Frag) (C f : Str) : Addr := match PySem.W.recIn K (prAt K C f) "property" with
  | some (.ref g :: _) => g
  | _ => 0
def fnWa (K : PySem.W.Frag) (a : Addr) : He.FnW := match K.lookup a with
  | some ⟨_, _, .func fd, _⟩ => some (fd.name, fd.qualname, fd.params, fd.body, fd.scope, fd.globals, fd.closure, fd.builtins)
  | _ => none
def prB (K : PySem.W.Frag) (C f q : Str) : Bool := decide (PySem.W.findIn K (.ref (He.ga K C)) f = some (some (.ref (prAt K C f)))) && (decide (PySem.W.specialIn K (.ref (prAt K C f)) "__get__" = some (some (.builtin "property.__get__"))) && (decide (PySem.W.takesIn K (.ref (prAt K C f)) = some true) && ((match PySem.W.recIn K (prAt K C f) "property" with
  | some (.ref _ :: _) => true
  | _ => false) && (PySem.W.keepIn K (.ref (prG K C f)) && (match K.lookup (prG K C f) with
  | some ⟨_, _, .func fd, _⟩ => PySem.W.codeIn K fd.code q && (He.dflB K fd.defaults [] && He.kwdB K fd.kwdefaults [])
  | _ => false)))))
theorem pr_ok {K : PySem.W.Frag} {C f qual name : Str} {params : Arguments} {body : List Stmt} {scope : Scope} (h : prB K C f qual = true) (e : fnWa K (prG K C f) = some (name, qual, params, .stmts body, scope, mainGlobals, [], builtinsNs)) :
    PropOf K (He.ga K C) f (prAt K C f) (prG K C f) ∧ ∃ fd, FunD K name qual params body scope [] [] (prG K C f) fd := by
  obtain ⟨h1, h⟩ := He.ba h
  obtain ⟨h2, h⟩ := He.ba h
  obtain ⟨h3, h⟩ := He.ba h
  obtain ⟨h4, h⟩ := He.ba h
  obtain ⟨kp, h5⟩ := He.ba h
  refine ⟨⟨of_decide_eq_true h1, of_decide_eq_true h2, of_decide_eq_true h3, ?_⟩, ?_⟩
  · unfold prG
    cases q : PySem.W.recIn K (prAt K C f) "property" with
    | none =>
      rw [q] at h4
      cases h4
    | some l =>
      rw [q] at h4
      cases l with
      | nil => cases h4
      | cons u r =>
        cases u with
        | ref g => exact ⟨r, rfl⟩
        | _ => cases h4
  · generalize prG K C f = g at kp h5 e ⊢
    unfold fnWa at e
    cases q : K.lookup g with
    | none =>
      rw [q] at h5
      cases h5
    | some o =>
      obtain ⟨oc, od, dt, osl⟩ := o
      rw [q] at h5 e
      cases dt with
      | func fd =>
        obtain ⟨n1, n2, n3, n4, n5, n6, n7, n8, n9, n10, n11, n12, n13, n14, n15⟩ := fd
        have e2 : (some (n1, n2, n3, n4, n5, n6, n7, n15) : He.FnW) = some (name, qual, params, .stmts body, scope, mainGlobals, [], builtinsNs) := e
        simp only [Option.some.injEq, Prod.mk.injEq] at e2
        obtain ⟨a1, a2, a3, a4, a5, a6, a7, a8⟩ := e2
        subst a1 a2 a3 a4 a5 a6 a7 a8
        have c3 : (PySem.W.codeIn K n13 n2 && (He.dflB K n8 [] && He.kwdB K n9 [])) = true := h5
        obtain ⟨k1, k2⟩ := He.ba c3
        obtain ⟨k3, k4⟩ := He.ba k2
        exact ⟨_, ⟨oc, od, n8, n9, n10, n11, n12, n13, n14, osl, rfl, q, k1, He.dflB_ok k3, He.kwdB_ok k4⟩, kp⟩
      | _ => cases h5
def obPr (pr : List (Str × Str)) (K : PySem.W.Frag) : List He.FnW := pr.map fun p => fnWa K (prG K p.1 p.2)
theorem List.get_of_map {α β : Type} {f : α → β} {l : List α} {v : List β} (h : l.map f = v) (i : Nat) {x : α} {y : β} (hx : l[i]? = some x) (hy : v[i]? = some y) : f x = y := by
  rw [← h, List.getElem?_map, hx] at hy
  exact Option.some.inj hy
def obsPr (n : Nat) (fa : List He.Fa) (fn : List He.DefD) (tf : List He.Defn) (ex : PySem.W.Frag → Bool) (pr : List (Str × Str)) (g : Addr → Option Obj) : He.AlX × List He.FnW := (He.obsX n fa fn [] tf ex g, obPr pr (He.frT g (He.asD g n)))
def hookPr (n : Nat) (fa : List He.Fa) (fn : List He.DefD) (tf : List He.Defn) (ex : PySem.W.Frag → Bool) (pr : List (Str × Str)) (pv : List He.FnW) : PySem.W.Hook where
  α := He.AlX × List He.FnW
  obs := fun s => obsPr n fa fn tf ex pr s.heap.get?
  val := fun w => (He.valX fn [] w, pv)
  says := fun w h => ∃ K : PySem.W.Frag, K.In h ∧ He.SaysX fa fn [] tf ex w h K ∧ obPr pr K = pv
  of := fun _ _ e => ⟨_, He.frT_in, He.saysX_of (congrArg (fun z : He.AlX × List He.FnW => z.1) e), congrArg (fun z : He.AlX × List He.FnW => z.2) e⟩
  keeps := fun _ _ _ ⟨K, hK, c, o⟩ k => ⟨K, PySem.W.Frag.In.keeps hK k, ⟨c.t, c.more, c.hd, c.out, fun p hp => k _ _ (c.empty p hp)⟩, o⟩
theorem obsPr_eq {n : Nat} {fa : List He.Fa} {fn : List He.DefD} {tf : List He.Defn} {ex : PySem.W.Frag → Bool} {pr : List (Str × Str)} {pv : List He.FnW} {g : Addr → Option Obj} {s : Shared} (h : ∀ a, g a = s.heap.get? a) : obsPr n fa fn tf ex pr g = (hookPr n fa fn tf ex pr pv).obs s := by
  have e : g = s.heap.get? := funext h
  rw [e] <;> rfl
end
/-! ### the end's facts over all addresses below a bound (no growth of a list of addresses: less memory) -/
section
open PySem.Spec PySem.Calls PyProof.Rows
def frR (N : Nat) (g : Addr → Option Obj) : PySem.W.Frag := He.frT g (List.range N)
def obsRg (N : Nat) (fa : List He.Fa) (fn : List He.DefD) (tf : List He.Defn) (ex : PySem.W.Frag → Bool) (pr : List (Str × Str)) (g : Addr → Option Obj) : He.AlX × List He.FnW := ((He.obsT fa fn [] (frR N g), ex (frR N g) && He.tabsB g tf (frR N g)), obPr pr (frR N g))
theorem saysRg {N : Nat} {fa : List He.Fa} {fn : List He.DefD} {tf : List He.Defn} {ex : PySem.W.Frag → Bool} {w : World} {h : Heap} (e1 : He.obsT fa fn [] (frR N h.get?) = He.valT fn [] w) (e2 : (ex (frR N h.get?) && He.tabsB h.get? tf (frR N h.get?)) = true) : He.SaysX fa fn [] tf ex w h (frR N h.get?) := by
  rw [Bool.and_eq_true] at e2
  have all := List.all_eq_true.mp e2.2
  have one : ∀ p ∈ tf, ∃ o, h.get? (He.cT (frR N h.get?) p).2 = some o ∧ He.emptyTab o = true := fun p hp => by
    have z := all p hp
    rw [Bool.and_eq_true] at z
    cases q : h.get? (He.cT (frR N h.get?) p).2 with
    | some o =>
      rw [q] at z
      exact ⟨o, rfl, z.2⟩
    | none =>
      rw [q] at z
      cases z.2
  refine ⟨e1, e2.1, fun p hp => (Bool.and_eq_true_iff.mp (all p hp)).1, fun p hp => ?_, fun p hp => ?_⟩
  all_goals obtain ⟨o, q, z⟩ := one p hp
  · exact He.frT_none q z
  · rw [q, He.emptyTab_eq z]
def hookRg (N : Nat) (fa : List He.Fa) (fn : List He.DefD) (tf : List He.Defn) (ex : PySem.W.Frag → Bool) (pr : List (Str × Str)) (pv : List He.FnW) : PySem.W.Hook where
  α := He.AlX × List He.FnW
  obs := fun s => obsRg N fa fn tf ex pr s.heap.get?
  val := fun w => (He.valX fn [] w, pv)
  says := fun w h => ∃ K : PySem.W.Frag, K.In h ∧ He.SaysX fa fn [] tf ex w h K ∧ obPr pr K = pv
  of := fun _ _ e => ⟨_, He.frT_in, saysRg (congrArg (fun z : He.AlX × List He.FnW => z.1.1) e) (congrArg (fun z : He.AlX × List He.FnW => z.1.2) e), congrArg (fun z : He.AlX × List He.FnW => z.2) e⟩
  keeps := fun _ _ _ ⟨K, hK, c, o⟩ k => ⟨K, PySem.W.Frag.In.keeps hK k, ⟨c.t, c.more, c.hd, c.out, fun p hp => k _ _ (c.empty p hp)⟩, o⟩
theorem obsRg_eq {N : Nat} {fa : List He.Fa} {fn : List He.DefD} {tf : List He.Defn} {ex : PySem.W.Frag → Bool} {pr : List (Str × Str)} {pv : List He.FnW} {g : Addr → Option Obj} {s : Shared} (h : ∀ a, g a = s.heap.get? a) : obsRg N fa fn tf ex pr g = (hookRg N fa fn tf ex pr pv).obs s := by
  have e : g = s.heap.get? := funext h
  rw [e] <;> rfl
end
def oexB (K : PySem.W.Frag) (C : Addr) : Bool := match K.lookup C with
  | some ⟨.type c, _, .cls cd, sl⟩ => decide (c = "type") && ((match cd.mro with
    | .ref a :: bm => decide (a = C) && PySem.HandSPX.refsVE bm
    | _ => false) && (cd.hasDict && (!cd.hasDel && (match sl.toList with
    | [_, _, _, _, some (.builtin i), _] => decide (i = "ValueError.__new__")
    | _ => false))))
  | _ => false
def clsX (K : PySem.W.Frag) (c : Str × Str) : Bool := oexB K (He.ga K c.1) && (decide (PySem.W.findIn K (.ref (He.ga K c.1)) "__setattr__" = some (some (.builtin "object.__setattr__"))) && (decide (PySem.W.typeIn K (.ref (He.ga K c.1)) = some (.type "type")) && (PySem.W.keepIn K (.ref (He.ga K c.1)) && (xfB K (He.ga K c.1) &&
  (decide (PySem.W.findIn K (.ref (He.ga K c.1)) c.2 = some none) && (decide (PySem.W.findIn K (.ref (He.ga K c.1)) "__init__" = some (some (.ref (He.ma K (He.ga K c.1) "__init__")))) && decide (PySem.W.typeIn K (.ref (He.ma K (He.ga K c.1) "__init__")) = some (.type "function"))))))))
def insX (K : PySem.W.Frag) (x : Str) : Bool := decide (PySem.W.findIn K (.ref (He.ga K x)) "__class__" = some (some (.builtin "object.__class__"))) && (decide (PySem.W.specialIn K (.builtin "object.__class__") "__get__" = some (some (.builtin "getset_descriptor.__get__"))) && (decide (PySem.W.takesIn K (.builtin "object.__class__") = some true) && (decide (PySem.W.mroIn K (He.ga K x) (.type "object") = some true) && (decide (PySem.W.kitOne K (.ref (He.ga K x)) (.ref (He.ga K x)) = some true) &&
  (decide (PySem.W.kitOne K (.type "list") (.ref (He.ga K x)) = some false) && (PySem.W.notFirst K (He.ga K x) (.type "list") && (decide (PySem.W.kitOne K (.type "str") (.ref (He.ga K x)) = some false) && PySem.W.notFirst K (He.ga K x) (.type "str"))))))))
def fd0 : He.DefD := { at_ := ("InvalidName", some "__init__"), name := "__init__", qual := "InvalidName.__init__", params := defArgs s_InvalidName_init, body := defBody s_InvalidName_init, scope := defScope s_InvalidName_init, dfl := [], kwd := [] }
def fd1 : He.DefD := { at_ := ("InvalidSpan", some "__init__"), name := "__init__", qual := "InvalidSpan.__init__", params := defArgs s_InvalidSpan_init, body := defBody s_InvalidSpan_init, scope := defScope s_InvalidSpan_init, dfl := [], kwd := [] }
def fd2 : He.DefD := { at_ := ("InvalidSpans", some "__init__"), name := "__init__", qual := "InvalidSpans.__init__", params := defArgs s_InvalidSpans_init, body := defBody s_InvalidSpans_init, scope := defScope s_InvalidSpans_init, dfl := [], kwd := [] }
def fd3 : He.DefD := { at_ := ("InvalidCatalog", some "__init__"), name := "__init__", qual := "InvalidCatalog.__init__", params := defArgs s_InvalidCatalog_init, body := defBody s_InvalidCatalog_init, scope := defScope s_InvalidCatalog_init, dfl := [], kwd := [] }
def fd4 : He.DefD := { at_ := ("InvalidChange", some "__init__"), name := "__init__", qual := "InvalidChange.__init__", params := defArgs s_InvalidChange_init, body := defBody s_InvalidChange_init, scope := defScope s_InvalidChange_init, dfl := [], kwd := [] }
def fd5 : He.DefD := { at_ := ("UnknownPart", some "__init__"), name := "__init__", qual := "UnknownPart.__init__", params := defArgs s_UnknownPart_init, body := defBody s_UnknownPart_init, scope := defScope s_UnknownPart_init, dfl := [], kwd := [] }
def fd6 : He.DefD := { at_ := ("NameTaken", some "__init__"), name := "__init__", qual := "NameTaken.__init__", params := defArgs s_NameTaken_init, body := defBody s_NameTaken_init, scope := defScope s_NameTaken_init, dfl := [], kwd := [] }
def fd7 : He.DefD := { at_ := ("Overlap", some "__init__"), name := "__init__", qual := "Overlap.__init__", params := defArgs s_Overlap_init, body := defBody s_Overlap_init, scope := defScope s_Overlap_init, dfl := [], kwd := [] }
def fd8 : He.DefD := { at_ := ("NotInside", some "__init__"), name := "__init__", qual := "NotInside.__init__", params := defArgs s_NotInside_init, body := defBody s_NotInside_init, scope := defScope s_NotInside_init, dfl := [], kwd := [] }
def fd9 : He.DefD := { at_ := ("NotNeighbours", some "__init__"), name := "__init__", qual := "NotNeighbours.__init__", params := defArgs s_NotNeighbours_init, body := defBody s_NotNeighbours_init, scope := defScope s_NotNeighbours_init, dfl := [], kwd := [] }
def fd10 : He.DefD := { at_ := ("TooMany", some "__init__"), name := "__init__", qual := "TooMany.__init__", params := defArgs s_TooMany_init, body := defBody s_TooMany_init, scope := defScope s_TooMany_init, dfl := [], kwd := [] }
def fd11 : He.DefD := { at_ := ("is_integer", none), name := "is_integer", qual := "is_integer", params := defArgs s_is_integer, body := defBody s_is_integer, scope := defScope s_is_integer, dfl := [], kwd := [] }
def fd12 : He.DefD := { at_ := ("is_name", none), name := "is_name", qual := "is_name", params := defArgs s_is_name, body := defBody s_is_name, scope := defScope s_is_name, dfl := [], kwd := [] }
def fd13 : He.DefD := { at_ := ("is_span", none), name := "is_span", qual := "is_span", params := defArgs s_is_span, body := defBody s_is_span, scope := defScope s_is_span, dfl := [], kwd := [] }
def fd14 : He.DefD := { at_ := ("is_limit", none), name := "is_limit", qual := "is_limit", params := defArgs s_is_limit, body := defBody s_is_limit, scope := defScope s_is_limit, dfl := [], kwd := [] }
def fd15 : He.DefD := { at_ := ("require_name", none), name := "require_name", qual := "require_name", params := defArgs s_require_name, body := defBody s_require_name, scope := defScope s_require_name, dfl := [], kwd := [] }
def fd16 : He.DefD := { at_ := ("require_span", none), name := "require_span", qual := "require_span", params := defArgs s_require_span, body := defBody s_require_span, scope := defScope s_require_span, dfl := [], kwd := [] }
def fd17 : He.DefD := { at_ := ("meet", none), name := "meet", qual := "meet", params := defArgs s_meet, body := defBody s_meet, scope := defScope s_meet, dfl := [], kwd := [] }
def fd18 : He.DefD := { at_ := ("common", none), name := "common", qual := "common", params := defArgs s_common, body := defBody s_common, scope := defScope s_common, dfl := [], kwd := [] }
def fd19 : He.DefD := { at_ := ("Catalog", some "__init__"), name := "__init__", qual := "Catalog.__init__", params := defArgs s_Catalog_init, body := defBody s_Catalog_init, scope := defScope s_Catalog_init, dfl := [.non], kwd := [("rest", .non)] }
def fd20 : He.DefD := { at_ := ("Catalog", some "names"), name := "names", qual := "Catalog.names", params := defArgs s_Catalog_names, body := defBody s_Catalog_names, scope := defScope s_Catalog_names, dfl := [], kwd := [] }
def fd21 : He.DefD := { at_ := ("Catalog", some "__contains__"), name := "__contains__", qual := "Catalog.__contains__", params := defArgs s_Catalog_contains, body := defBody s_Catalog_contains, scope := defScope s_Catalog_contains, dfl := [], kwd := [] }
def fd22 : He.DefD := { at_ := ("Catalog", some "__eq__"), name := "__eq__", qual := "Catalog.__eq__", params := defArgs s_Catalog_eq, body := defBody s_Catalog_eq, scope := defScope s_Catalog_eq, dfl := [], kwd := [] }
def fd23 : He.DefD := { at_ := ("Catalog", some "span"), name := "span", qual := "Catalog.span", params := defArgs s_Catalog_span, body := defBody s_Catalog_span, scope := defScope s_Catalog_span, dfl := [], kwd := [] }
def fd24 : He.DefD := { at_ := ("require_spans", none), name := "require_spans", qual := "require_spans", params := defArgs s_require_spans, body := defBody s_require_spans, scope := defScope s_require_spans, dfl := [], kwd := [] }
def fd25 : He.DefD := { at_ := ("require_rest", none), name := "require_rest", qual := "require_rest", params := defArgs s_require_rest, body := defBody s_require_rest, scope := defScope s_require_rest, dfl := [], kwd := [] }
def fd26 : He.DefD := { at_ := ("ordered_spans", none), name := "ordered_spans", qual := "ordered_spans", params := defArgs s_ordered_spans, body := defBody s_ordered_spans, scope := defScope s_ordered_spans, dfl := [], kwd := [] }
def fd27 : He.DefD := { at_ := ("first_meeting", none), name := "first_meeting", qual := "first_meeting", params := defArgs s_first_meeting, body := defBody s_first_meeting, scope := defScope s_first_meeting, dfl := [], kwd := [] }
def fd28 : He.DefD := { at_ := ("all_stretches", none), name := "all_stretches", qual := "all_stretches", params := defArgs s_all_stretches, body := defBody s_all_stretches, scope := defScope s_all_stretches, dfl := [], kwd := [] }
def fd29 : He.DefD := { at_ := ("low_place", none), name := "low_place", qual := "low_place", params := defArgs s_low_place, body := defBody s_low_place, scope := defScope s_low_place, dfl := [], kwd := [] }
def fd30 : He.DefD := { at_ := ("is_change", none), name := "is_change", qual := "is_change", params := defArgs s_is_change, body := defBody s_is_change, scope := defScope s_is_change, dfl := [], kwd := [] }
def fd31 : He.DefD := { at_ := ("are_different_names", none), name := "are_different_names", qual := "are_different_names", params := defArgs s_are_different_names, body := defBody s_are_different_names, scope := defScope s_are_different_names, dfl := [], kwd := [] }
def fd32 : He.DefD := { at_ := ("require_change", none), name := "require_change", qual := "require_change", params := defArgs s_require_change, body := defBody s_require_change, scope := defScope s_require_change, dfl := [], kwd := [] }
def fd33 : He.DefD := { at_ := ("require_catalog", none), name := "require_catalog", qual := "require_catalog", params := defArgs s_require_catalog, body := defBody s_require_catalog, scope := defScope s_require_catalog, dfl := [], kwd := [] }
def fd34 : He.DefD := { at_ := ("roles", none), name := "roles", qual := "roles", params := defArgs s_roles, body := defBody s_roles, scope := defScope s_roles, dfl := [], kwd := [] }
def fd35 : He.DefD := { at_ := ("changed", none), name := "changed", qual := "changed", params := defArgs s_changed, body := defBody s_changed, scope := defScope s_changed, dfl := [], kwd := [] }
def fd36 : He.DefD := { at_ := ("spans_of", none), name := "spans_of", qual := "spans_of", params := defArgs s_spans_of, body := defBody s_spans_of, scope := defScope s_spans_of, dfl := [], kwd := [] }
def fd37 : He.DefD := { at_ := ("new_spans", none), name := "new_spans", qual := "new_spans", params := defArgs s_new_spans, body := defBody s_new_spans, scope := defScope s_new_spans, dfl := [], kwd := [] }
def fd38 : He.DefD := { at_ := ("split_spans", none), name := "split_spans", qual := "split_spans", params := defArgs s_split_spans, body := defBody s_split_spans, scope := defScope s_split_spans, dfl := [], kwd := [] }
def fd39 : He.DefD := { at_ := ("joined_spans", none), name := "joined_spans", qual := "joined_spans", params := defArgs s_joined_spans, body := defBody s_joined_spans, scope := defScope s_joined_spans, dfl := [], kwd := [] }
def fd40 : He.DefD := { at_ := ("fits", none), name := "fits", qual := "fits", params := defArgs s_fits, body := defBody s_fits, scope := defScope s_fits, dfl := [], kwd := [] }
def fd41 : He.DefD := { at_ := ("reverse", none), name := "reverse", qual := "reverse", params := defArgs s_reverse, body := defBody s_reverse, scope := defScope s_reverse, dfl := [], kwd := [] }
def fd42 : He.DefD := { at_ := ("_law_cell", none), name := "_law_cell", qual := "_law_cell", params := defArgs s_law_cell, body := defBody s_law_cell, scope := defScope s_law_cell, dfl := [], kwd := [] }
def fd43 : He.DefD := { at_ := ("_law_box", none), name := "_law_box", qual := "_law_box", params := defArgs s_law_box, body := defBody s_law_box, scope := defScope s_law_box, dfl := [], kwd := [] }
def fd44 : He.DefD := { at_ := ("_law_take", none), name := "_law_take", qual := "_law_take", params := defArgs s_law_take, body := defBody s_law_take, scope := defScope s_law_take, dfl := [], kwd := [] }
def fd45 : He.DefD := { at_ := ("_law_mixed", none), name := "_law_mixed", qual := "_law_mixed", params := defArgs s_law_mixed, body := defBody s_law_mixed, scope := defScope s_law_mixed, dfl := [], kwd := [] }
def fd46 : He.DefD := { at_ := ("_law_names", none), name := "_law_names", qual := "_law_names", params := defArgs s_law_names, body := defBody s_law_names, scope := defScope s_law_names, dfl := [], kwd := [] }
def fd47 : He.DefD := { at_ := ("_law_model", none), name := "_law_model", qual := "_law_model", params := defArgs s_law_model, body := defBody s_law_model, scope := defScope s_law_model, dfl := [], kwd := [] }
def fd48 : He.DefD := { at_ := ("_law_catalog", none), name := "_law_catalog", qual := "_law_catalog", params := defArgs s_law_catalog, body := defBody s_law_catalog, scope := defScope s_law_catalog, dfl := [], kwd := [] }
def fd49 : He.DefD := { at_ := ("_law_all_names", none), name := "_law_all_names", qual := "_law_all_names", params := defArgs s_law_all_names, body := defBody s_law_all_names, scope := defScope s_law_all_names, dfl := [], kwd := [] }
def fd50 : He.DefD := { at_ := ("_law_meet", none), name := "_law_meet", qual := "_law_meet", params := defArgs s_law_meet, body := defBody s_law_meet, scope := defScope s_law_meet, dfl := [], kwd := [] }
def fd51 : He.DefD := { at_ := ("_law_span_of", none), name := "_law_span_of", qual := "_law_span_of", params := defArgs s_law_span_of, body := defBody s_law_span_of, scope := defScope s_law_span_of, dfl := [], kwd := [] }
def fd52 : He.DefD := { at_ := ("_law_after", none), name := "_law_after", qual := "_law_after", params := defArgs s_law_after, body := defBody s_law_after, scope := defScope s_law_after, dfl := [], kwd := [] }
def fd53 : He.DefD := { at_ := ("_law_limits", none), name := "_law_limits", qual := "_law_limits", params := defArgs s_law_limits, body := defBody s_law_limits, scope := defScope s_law_limits, dfl := [], kwd := [] }
def fd54 : He.DefD := { at_ := ("_law_spare", none), name := "_law_spare", qual := "_law_spare", params := defArgs s_law_spare, body := defBody s_law_spare, scope := defScope s_law_spare, dfl := [], kwd := [] }
def fd55 : He.DefD := { at_ := ("_law_drawn_change", none), name := "_law_drawn_change", qual := "_law_drawn_change", params := defArgs s_law_drawn_change, body := defBody s_law_drawn_change, scope := defScope s_law_drawn_change, dfl := [], kwd := [] }
def fd56 : He.DefD := { at_ := ("_law_drawn_join", none), name := "_law_drawn_join", qual := "_law_drawn_join", params := defArgs s_law_drawn_join, body := defBody s_law_drawn_join, scope := defScope s_law_drawn_join, dfl := [], kwd := [] }
def fd57 : He.DefD := { at_ := ("_law_told", none), name := "_law_told", qual := "_law_told", params := defArgs s_law_told, body := defBody s_law_told, scope := defScope s_law_told, dfl := [], kwd := [] }
def fd58 : He.DefD := { at_ := ("law", none), name := "law", qual := "law", params := defArgs s_law, body := defBody s_law, scope := defScope s_law, dfl := [], kwd := [] }
def fnL : List He.DefD := [fd0, fd1, fd2, fd3, fd4, fd5, fd6, fd7, fd8, fd9, fd10, fd11, fd12, fd13, fd14, fd15, fd16, fd17, fd18, fd19, fd20, fd21, fd22, fd23, fd24, fd25, fd26, fd27, fd28, fd29, fd30, fd31, fd32, fd33, fd34, fd35, fd36, fd37, fd38, fd39, fd40, fd41, fd42, fd43, fd44, fd45, fd46, fd47, fd48, fd49, fd50, fd51, fd52, fd53, fd54, fd55, fd56, fd57, fd58]
def faL : List He.Fa := [.glo "is_integer", .glo "is_name", .glo "is_span", .glo "is_limit", .glo "require_name", .glo "require_span", .glo "meet", .glo "common", .glo "require_spans", .glo "require_rest", .glo "ordered_spans", .glo "first_meeting", .glo "all_stretches", .glo "low_place", .glo "is_change", .glo "are_different_names", .glo "require_change", .glo "require_catalog", .glo "roles", .glo "changed", .glo "spans_of", .glo "new_spans", .glo "split_spans", .glo "joined_spans", .glo "fits", .glo "reverse", .glo "_law_cell", .glo "_law_box", .glo "_law_take", .glo "_law_mixed", .glo "_law_names", .glo "_law_model", .glo "_law_catalog", .glo "_law_all_names", .glo "_law_meet", .glo "_law_span_of", .glo "_law_after", .glo "_law_limits", .glo "_law_spare", .glo "_law_drawn_change", .glo "_law_drawn_join", .glo "_law_told", .glo "law", .glo "InvalidName", .glo "InvalidSpan", .glo "InvalidSpans", .glo "InvalidCatalog", .glo "InvalidChange", .glo "UnknownPart", .glo "NameTaken", .glo "Overlap", .glo "NotInside", .glo "NotNeighbours", .glo "TooMany", .glo "PartsError", .cls "Catalog", .glo "Catalog", .mkr "Catalog", .meth "Catalog" "__init__", .meth "Catalog" "names", .meth "Catalog" "__contains__", .meth "Catalog" "__eq__", .meth "Catalog" "span", .noat "Catalog" "_spans", .noat "Catalog" "_rest", .noat "Catalog" "_names", .noat "Catalog" "_stretches", .exm "InvalidCatalog" "InvalidCatalog" true, .exm "InvalidChange" "InvalidCatalog" false, .exm "InvalidChange" "InvalidChange" true, .exm "UnknownPart" "InvalidCatalog" false, .exm "UnknownPart" "InvalidChange" false, .exm "UnknownPart" "UnknownPart" true, .exm "NameTaken" "InvalidCatalog" false, .exm "NameTaken" "InvalidChange" false, .exm "NameTaken" "UnknownPart" false, .exm "NameTaken" "NameTaken" true, .exm "Overlap" "InvalidCatalog" false, .exm "Overlap" "InvalidChange" false, .exm "Overlap" "UnknownPart" false, .exm "Overlap" "NameTaken" false, .exm "Overlap" "Overlap" true, .exm "NotInside" "InvalidCatalog" false, .exm "NotInside" "InvalidChange" false, .exm "NotInside" "UnknownPart" false, .exm "NotInside" "NameTaken" false, .exm "NotInside" "Overlap" false, .exm "NotInside" "NotInside" true, .exm "NotNeighbours" "InvalidCatalog" false, .exm "NotNeighbours" "InvalidChange" false, .exm "NotNeighbours" "UnknownPart" false, .exm "NotNeighbours" "NameTaken" false, .exm "NotNeighbours" "Overlap" false, .exm "NotNeighbours" "NotInside" false, .exm "NotNeighbours" "NotNeighbours" true, .exm "TooMany" "InvalidCatalog" false, .exm "TooMany" "InvalidChange" false, .exm "TooMany" "UnknownPart" false, .exm "TooMany" "NameTaken" false, .exm "TooMany" "Overlap" false, .exm "TooMany" "NotInside" false, .exm "TooMany" "NotNeighbours" false, .exm "TooMany" "TooMany" true, .exm "UnknownPart" "PartsError" true, .exm "NameTaken" "PartsError" true, .exm "Overlap" "PartsError" true, .exm "NotInside" "PartsError" true, .exm "NotNeighbours" "PartsError" true, .exm "TooMany" "PartsError" true, .int "LONGEST_NAME" 8, .int "MOST_PARTS" 8, .free "isinstance", .free "int", .free "bool", .free "all", .free "str", .free "len", .free "tuple", .free "max", .free "min", .free "sorted", .free "list", .free "property", .free "dict", .free "part", .free "set", .free "range"]
def clsL : List (Str × Str) := [(("InvalidName" : Str), ("value" : Str)), (("InvalidSpan" : Str), ("value" : Str)), (("InvalidSpans" : Str), ("value" : Str)), (("InvalidCatalog" : Str), ("value" : Str)), (("InvalidChange" : Str), ("value" : Str)), (("UnknownPart" : Str), ("name" : Str)), (("NameTaken" : Str), ("name" : Str)), (("Overlap" : Str), ("name" : Str)), (("NotInside" : Str), ("at" : Str)), (("NotNeighbours" : Str), ("name" : Str)), (("TooMany" : Str), ("bound" : Str))]
def tfL : List He.Defn := [("all_stretches", none)]
def exB (K : PySem.W.Frag) : Bool := clsL.all (clsX K) && (insX K "Catalog" && (decide (PySem.W.kitOne K (.type "NoneType") (.ref (He.ga K "Catalog")) = some false) && (decide (PySem.W.kitOne K (.type "bool") (.ref (He.ga K "Catalog")) = some false) && (decide (PySem.W.kitOne K (.type "int") (.ref (He.ga K "Catalog")) = some false) && (decide (PySem.W.kitOne K (.type "tuple") (.ref (He.ga K "Catalog")) = some false) && (decide (PySem.W.kitOne K (.type "dict") (.ref (He.ga K "Catalog")) = some false) && (prB K "Catalog" "rest" "Catalog.rest")))))))
def loose0 : List Str := ["_wall", "__name__", "PartsError", "InvalidName", "InvalidSpan", "InvalidSpans", "InvalidCatalog", "InvalidChange", "UnknownPart", "NameTaken", "Overlap", "NotInside", "NotNeighbours", "TooMany", "LONGEST_NAME", "is_integer", "is_name", "is_span", "is_limit", "require_name", "require_span", "meet", "common", "span_text", "limit_text", "MOST_PARTS", "Catalog", "require_spans", "require_rest", "ordered_spans"]
def loose1 : List Str := ["first_meeting", "all_stretches", "low_place", "is_change", "are_different_names", "require_change", "require_catalog", "roles", "changed", "spans_of", "new_spans", "split_spans", "joined_spans", "fits", "reverse", "_law_cell", "_law_box", "_law_take", "_law_mixed", "_law_names", "_law_model", "_law_catalog", "_law_all_names", "_law_meet", "_law_span_of", "_law_after", "_law_limits", "_law_spare", "_law_drawn_change", "_law_drawn_join"]
def loose2 : List Str := ["_law_told"]
def looseL : List Str := loose0 ++ loose1 ++ loose2
abbrev RW : PySem.W.OpenRow := PySem.W.OpenLaw.row PySem.Challenge.rw_hungparts_k12_catalogs_changed
def prL : List (Str × Str) := [(("Catalog" : Str), ("rest" : Str))]
def prV : List He.FnW := [some ("rest", "Catalog.rest", defArgs s_Catalog_rest, .stmts (defBody s_Catalog_rest), defScope s_Catalog_rest, mainGlobals, [], builtinsNs)]
abbrev hookM : PySem.W.Hook := hookRg 700 faL fnL tfL exB prL prV
def obN (s : PySem.W.SharedT) : He.AlX × List He.FnW := obsRg 700 faL fnL tfL exB prL (HandSHeadRun.getT s)
theorem obN_eq (s : PySem.W.SharedT) : obN s = hookM.obs s.abs := obsRg_eq (HandSHeadRun.getT_eq s)
theorem opt3 {α β γ δ : Type} {o : Option α} {f : α → β} {g : α → γ} {h : α → δ} {b : β} {c : γ} {d : δ} (h1 : o.map f = some b) (h2 : o.map g = some c) (h3 : o.map h = some d) : o.map (fun s => (f s, g s, h s)) = some (b, c, d) := by
  cases o with
  | none => cases h1
  | some a => cases h1; cases h2; cases h3; rfl
theorem runA (w : World) (os : PySem.OsState) : (HandSHeadRun.endF (HandSHeadRun.stepQ (HandSHeadRun.denQ HandSHeadRun.tabQ) RW.prog w) 6000 RW.prog w os).map (fun s => HandSHeadRun.looksF RW.prog (PySem.W.boot_heap w.params) s.abs) = some true := by
  kernel_rfl
theorem runB (w : World) (os : PySem.OsState) : (HandSHeadRun.endF (HandSHeadRun.stepQ (HandSHeadRun.denQ HandSHeadRun.tabQ) RW.prog w) 6000 RW.prog w os).map (fun s => HandSHeadRun.seenQ (PySem.W.view RW.prog [65]) looseL (PySem.importedModules RW.prog.main.body) (fun s => PySem.W.xlAt (PySem.W.view RW.prog [65]) [] s && PySem.W.recOk RW.toRowW.records s) s.abs) = some (PySem.W.openGood (PySem.W.view RW.prog [65]) looseL) := by
  kernel_rfl
theorem runC (w : World) (os : PySem.OsState) : (HandSHeadRun.endF (HandSHeadRun.stepQ (HandSHeadRun.denQ HandSHeadRun.tabQ) RW.prog w) 6000 RW.prog w os).map obN = some (hookM.val w) := by
  kernel_rfl
theorem run (w : World) : HandSHeadRun.RunEq RW (PySem.W.view RW.prog [65]) hookM obN 6000 looseL w := fun os => opt3 (runA w os) (runB w os) (runC w os)
/-! ### further rules -/
section
variable {X : Cx}
theorem holdAll_ints {h : Heap} : ∀ {us : List Value} {ns : List Int}, Vals (ns.map V.int) us → PySem.W.HoldAll (α := Int) h us ns
  | _, [], .nil => ⟨_, .nil⟩
  | _, n :: r, .cons ⟨t, e⟩ k => by
    subst e
    obtain ⟨as, q⟩ := holdAll_ints (h := h) k
    exact ⟨_, .cons (.int n t) q⟩
theorem holds_int {h : Heap} {v : Value} {n : Int} (H : PySem.W.Holds (α := Int) h v n) : ∃ t, v = .int n t := by
  obtain ⟨as, r⟩ := H
  cases r
  exact ⟨_, rfl⟩
theorem maxOf_ints : ∀ (ys : List Int) (y : Int), PySem.W.maxOf y ys ∈ y :: ys ∧ ∀ n ∈ y :: ys, n ≤ PySem.W.maxOf y ys := by
  intro ys
  induction ys with
  | nil =>
    intro y
    exact ⟨List.mem_cons_self, fun n hn => by cases List.mem_singleton.mp hn; exact Int.le_refl _⟩
  | cons z r ih =>
    intro y
    have e : PySem.W.maxOf y (z :: r) = PySem.W.maxOf (if y < z then z else y) r := by
      show List.foldl _ (if decide (y < z) = true then z else y) r = _
      simp only [decide_eq_true_eq]
      rfl
    rw [e]
    obtain ⟨h1, h2⟩ := ih (if y < z then z else y)
    have hy := h2 _ List.mem_cons_self
    have hyz : y ≤ (if y < z then z else y) ∧ z ≤ (if y < z then z else y) := by
      split <;> omega
    refine ⟨?_, fun n hn => ?_⟩
    · rcases List.mem_cons.mp h1 with q | q
      · rw [q]
        split <;> simp
      · exact List.mem_cons_of_mem _ (List.mem_cons_of_mem _ q)
    · rcases List.mem_cons.mp hn with rfl | hn
      · omega
      · rcases List.mem_cons.mp hn with rfl | hn
        · omega
        · exact h2 n (List.mem_cons_of_mem _ hn)
theorem minOf_ints : ∀ (ys : List Int) (y : Int), PySem.W.minOf y ys ∈ y :: ys ∧ ∀ n ∈ y :: ys, PySem.W.minOf y ys ≤ n := by
  intro ys
  induction ys with
  | nil =>
    intro y
    exact ⟨List.mem_cons_self, fun n hn => by cases List.mem_singleton.mp hn; exact Int.le_refl _⟩
  | cons z r ih =>
    intro y
    have e : PySem.W.minOf y (z :: r) = PySem.W.minOf (if z < y then z else y) r := by
      show List.foldl _ (if decide (z < y) = true then z else y) r = _
      simp only [decide_eq_true_eq]
      rfl
    rw [e]
    obtain ⟨h1, h2⟩ := ih (if z < y then z else y)
    have hy := h2 _ List.mem_cons_self
    have hyz : (if z < y then z else y) ≤ y ∧ (if z < y then z else y) ≤ z := by
      split <;> omega
    refine ⟨?_, fun n hn => ?_⟩
    · rcases List.mem_cons.mp h1 with q | q
      · rw [q]
        split <;> simp
      · exact List.mem_cons_of_mem _ (List.mem_cons_of_mem _ q)
    · rcases List.mem_cons.mp hn with rfl | hn
      · omega
      · rcases List.mem_cons.mp hn with rfl | hn
        · omega
        · exact h2 n (List.mem_cons_of_mem _ hn)
/-- max(xs, default=d), xs a list of whole numbers -/
def rMaxD (K : PySem.W.Frag) : List V → List V → Hp → VK → Prop := fun xs zs H Q => ∃ (a : Addr) (ns : List Int) (d : V), xs = [.ref a] ∧ zs = [d] ∧ SqL K H a (ns.map V.int) ∧ (ns = [] → Q d H) ∧ ∀ m, m ∈ ns → (∀ n ∈ ns, n ≤ m) → Q (.int m) H
def rMinD (K : PySem.W.Frag) : List V → List V → Hp → VK → Prop := fun xs zs H Q => ∃ (a : Addr) (ns : List Int) (d : V), xs = [.ref a] ∧ zs = [d] ∧ SqL K H a (ns.map V.int) ∧ (ns = [] → Q d H) ∧ ∀ m, m ∈ ns → (∀ n ∈ ns, m ≤ n) → Q (.int m) H
theorem cr_maxD (hc : X.calm = true) (hu : X.A.units + 64 < cLine) : CallRK X (.builtin "max") ["default"] (rMaxD X.K) := by
  intro pins s σ H xs zs us ws Q I rx rz h
  obtain ⟨a, ns, d, rfl, rfl, hS, h0, h1⟩ := h
  obtain ⟨its, rv, pl, _⟩ := I.list hS
  obtain ⟨u, rfl, ru⟩ := vals1 rx
  obtain ⟨dv, rfl, rd⟩ := vals1 rz
  cases ru
  refine PySem.W.max_list_datum_default (α := Int) (xs := ns) (I.ok.hd hc) pl.isList (holdAll_ints (by simpa using rv)) (by show X.A.units + 1 + 0 < cLine; omega) (fun e h' tk k => ⟨d, H, I.kept k, rd, h0 e⟩) fun y ys i v h' tk e hi hh k => ?_
  subst e
  obtain ⟨t, rfl⟩ := holds_int hh
  have m := maxOf_ints ys y
  exact ⟨.int _, H, I.kept k, ⟨t, rfl⟩, h1 _ m.1 m.2⟩
theorem cr_minD (hc : X.calm = true) (hu : X.A.units + 64 < cLine) : CallRK X (.builtin "min") ["default"] (rMinD X.K) := by
  intro pins s σ H xs zs us ws Q I rx rz h
  obtain ⟨a, ns, d, rfl, rfl, hS, h0, h1⟩ := h
  obtain ⟨its, rv, pl, _⟩ := I.list hS
  obtain ⟨u, rfl, ru⟩ := vals1 rx
  obtain ⟨dv, rfl, rd⟩ := vals1 rz
  cases ru
  refine PySem.W.min_list_datum_default (α := Int) (xs := ns) (I.ok.hd hc) pl.isList (holdAll_ints (by simpa using rv)) (by show X.A.units + 1 + 0 < cLine; omega) (fun e h' tk k => ⟨d, H, I.kept k, rd, h0 e⟩) fun y ys i v h' tk e hi hh k => ?_
  subst e
  obtain ⟨t, rfl⟩ := holds_int hh
  have m := minOf_ints ys y
  exact ⟨.int _, H, I.kept k, ⟨t, rfl⟩, h1 _ m.1 m.2⟩
/-- what is surely the same: a flat value, or one object -/
def sureV (v : V) : Bool := flatB v || (match v with | .ref _ => true | _ => false)
theorem sure_eq {A : Around} {s : Shared} {v : V} {u u' : Value} (r : RelV v u) (r' : RelV v u') (f : sureV v = true) : SeqAt.EqAt A s u u' true := by
  cases v with
  | ref a =>
    cases (show u = Value.ref a from r)
    cases (show u' = Value.ref a from r')
    exact SeqAt.EqAt.same _
  | ty n => cases f
  | flt b => cases f
  | _ => exact eqAt_same r r' rfl
/-- two lists of the same items: they are not unlike -/
def rNeS (K : PySem.W.Frag) : R2 := fun x y H Q => ∃ (a b : Addr) (xs : List V), x = .ref a ∧ y = .ref b ∧ SqL K H a xs ∧ SqL K H b xs ∧ xs.all sureV = true ∧ Q (.bl false) H
theorem op_neS (hu : X.A.units + 64 < cLine) : OpR X (compareOp .NotEq) (rNeS X.K) := by
  intro pins s σ H x y v u Q I rx ry h
  obtain ⟨a, b, xs, rfl, rfl, ha, hb, hf, q⟩ := h
  cases (show v = Value.ref a from rx)
  cases (show u = Value.ref b from ry)
  obtain ⟨us, r1, p1, _⟩ := I.list ha
  obtain ⟨ws, r2, p2, _⟩ := I.list hb
  have hl : us.toArray.size = ws.toArray.size := by
    rw [List.size_toArray, List.size_toArray, ← r1.length, ← r2.length]
  refine SeqAt.RcNeAt.lists (e := fun _ => true) p1.isList p2.isList hl (by omega) (fun j h1 h2 => ?_) X.prog X.w _ _ ?_
  · have hj : j < xs.length := by
      rw [r1.length]
      simpa using h1
    obtain ⟨u1, e1, q1⟩ := r1.get (List.getElem?_eq_getElem hj)
    obtain ⟨u2, e2, q2⟩ := r2.get (List.getElem?_eq_getElem hj)
    have k1 : us.toArray[j] = u1 := by
      have := List.getElem?_eq_some_iff.mp e1
      simpa using this.2
    have k2 : ws.toArray[j] = u2 := by
      have := List.getElem?_eq_some_iff.mp e2
      simpa using this.2
    rw [k1, k2]
    exact sure_eq q1 q2 (List.all_eq_true.mp hf _ (List.getElem_mem hj))
  · have ea : ((List.range us.toArray.size).all fun _ => true) = true := List.all_eq_true.mpr fun _ _ => rfl
    rw [ea]
    exact ⟨.bl false, H, I, rfl, q⟩
end
/-- list(..) within a comprehension -/
def rListOfN (K : PySem.W.Frag) : List V → Hp → VK → Prop := fun xs H Q => ∃ p ys, xs = [V.ref p] ∧ (SqL K H p ys ∨ SqT K H p ys) ∧ ∀ l, H l = none → Q (V.ref l) (upd H l (.lst ys))
/-! ### try with several clauses, each of which names the exception: slot i is the name's -/
/-- what the clauses wish of an exception of the body, one after the other -/
def wManyAs (K : PySem.W.Frag) (i : Nat) (Wout : WX) (D : Ends) : List (Value × (Addr → Value → Option Addr → TS)) → WX
  | [] => Wout
  | (c, ts) :: r => wAs K c i ts (wManyAs K i Wout D r) D
inductive HdsAs (X : Cx) (n : Str) : List ExceptHandler → List (Value × (Addr → Value → Option Addr → TS)) → Prop
  | nil : HdsAs X n [] []
  | cons {x : Str} {c : Value} {ts : Addr → Value → Option Addr → TS} {st : Stmt} {sts : List Stmt} {p1 p2 : Pos} {hs : List ExceptHandler} {l : List (Value × (Addr → Value → Option Addr → TS))} (hc : Names X x c)
      (hb : ∀ (a : Addr) (o : Obj) (cls : Value) (d : Option Addr) (pn : List (Addr × Obj)), Zc cls d o → (∃ vs, o.data = .fields vs) → PSs (X.suite a ((a, o) :: pn)) (st :: sts) (ts a cls d)) (r : HdsAs X n hs l) :
      HdsAs X n (.ExceptHandler (some (.Name x p1)) (some n) (st :: sts) p2 :: hs) ((c, ts) :: l)
section
variable {X : Cx} {n : Str} {i : Nat} {pos : Pos} {tb : WX → TS} {Wout : WX} {body : List Stmt}
theorem ps_try_manyAs {g₀ : ExceptHandler} {gs : List ExceptHandler} {l : List (Value × (Addr → Value → Option Addr → TS))} (stk : X.stack = X.env :: X.outer) (frm : X.env.frame = some X.env.locals) (nodup : X.N.Nodup) (at_i : X.N[i]? = some n) (lcl : X.env.kindOf n = some .local)
    (out : Takes X Wout) (hbody : ∀ (W : WX) (pn : List (Addr × Obj)) (xe : Value → Shared → Prop), Takes (X.tr pn xe) W → PassesOwn (model X.prog X.w) X.A X.env xe → PSs (X.tr pn xe) body (tb W)) (hands : HdsAs X n (g₀ :: gs) l) :
    PS X (.Try body (g₀ :: gs) [] [] pos) (fun D σ H => tb (wManyAs X.K i Wout D l) D σ H) := by
  constructor
  intro pins s σ H D I hw
  have fr2 : X.A.frames = some (X.env :: X.outer) := by
    rw [I.ok.frames, stk]
  apply wpAny_Try_except
  let xe' : Value → Shared → Prop := fun e s₁ => wpAny (model X.prog X.w) X.A (noteFrame e X.env)
    (fun _ s₂ => wpAny (model X.prog X.w) X.A (setFlight e none) (fun _ s₃ => wpAny (model X.prog X.w) X.A (handleBy e X.env (g₀ :: gs)) (SP X pins D) X.xe s₃) X.xe s₂) X.xe s₁
  have caught : Takes (X.tr (X.pn ++ pins) xe') (wManyAs X.K i Wout D l) := by
    rintro u s' ⟨a, B, sI, pins', σ', H', cls, d, rfl, J1, nb, up, sky, na, os, ag, wish⟩
    have J := J1.ofTry I.ok
    have sky2 : Sky B (X.env :: X.outer) a (Zc cls d) X.env.locals s'.heap := by
      rw [← stk]
      exact sky
    show wpAny _ X.A (noteFrame (.ref a) X.env) _ _ _
    apply Sky.land Zc.steady fr2 frm sky2
    intro hA fly upA
    have JA : Inv X pins σ' H' { s' with heap := hA } := J.landed nb fly.1 (up.trans upA) os ag
    obtain ⟨oA, wA, getA, zA, dataA⟩ := fly.there
    have off : a ∉ frs (X.env :: X.outer) := by
      intro hm
      obtain ⟨_, o2, get2, nodata⟩ := fly.2.2.1.mem hm
      have same := get2.symm.trans getA
      cases same
      exact nodata _ dataA
    have offL : a ≠ X.env.locals := by
      intro z
      refine off (List.mem_filterMap.mpr ⟨X.env, List.mem_cons_self, ?_⟩)
      rw [frm, z]
    have offF : a ∉ X.fs := by
      intro hm
      obtain ⟨e, he, q⟩ := List.mem_filterMap.mp hm
      exact off (List.mem_filterMap.mpr ⟨e, List.mem_cons_of_mem _ he, q⟩)
    have SA := JA.suite getA dataA na offL offF
    suffices go : ∀ {hs : List ExceptHandler} {l' : List (Value × (Addr → Value → Option Addr → TS))}, HdsAs X n hs l' → wManyAs X.K i Wout D l' cls d σ' H' →
        wpAny (model X.prog X.w) X.A (handleBy (.ref a) X.env hs) (SP X pins D) X.xe { s' with heap := hA } from go hands wish
    intro hs l' hk
    induction hk with
    | nil =>
      intro wi
      apply wpAny_handleBy_nil
      obtain ⟨_, _, _, o5, w5, T5, oT5, t5, g5, z5, d5, e5, r5⟩ := id fly
      unfold PySem.passOn
      apply wpAny_bind
      refine wpAny_field g5 d5 e5 ?_
      rw [if_neg (show ¬ ((Value.ref T5 == Value.none) = true) by simp)]
      have leave : wpAny (model X.prog X.w) X.A (setFlight (.ref a) X.env.frame) (fun _ s4 => wpAny (model X.prog X.w) X.A (throw (.ref a) : Sem Flow) (SP X pins D) X.xe s4) X.xe { s' with heap := hA } := by
        rw [frm]
        refine HandSPX.setFlight_upZ fly fun hB heldB upB => ?_
        apply wpAny_throw
        exact out _ _ ⟨a, B, sI, pins, σ', H', cls, d, rfl, J, nb, (up.trans upA).trans upB, .inr (.inr (by rw [stk]; exact heldB)), na, os, ag, wi⟩
      first
        | exact wpAny_bind leave
        | exact wpAny_bind (wpAny_pure (wpAny_bind leave))
    | @cons x c ts st sts p1 p2 hs2 l2 hc hb r ih =>
      rintro ⟨b, isb, yes, no⟩
      refine wpAny_handleBy_cons (codeAny_handlers_test ?_) (by intro q; cases q)
      have lookT : PySem.W.Looks (model X.prog X.w) hA (typeOf (.ref a)) cls := by
        intro A' Q E s2 k q
        exact wpAny_typeOf_ref (k _ _ getA) (by rw [zA.1]; exact q)
      have lookM := PySem.W.exm_one (M := model X.prog X.w) JA.kIn lookT isb
      have named : ∀ {Q E : Value → Shared → Prop}, Q c { s' with heap := hA } → wpAny (model X.prog X.w) (X.A.mark (some (.ref a))) (eval (.Name x p1) X.env) Q E { s' with heap := hA } := by
        intro Q E q
        obtain ⟨gl, nd, hm⟩ := hc
        rcases hm with hm | ⟨hm, bv, nn⟩
        · exact ld_glob (X := X.suite a ((a, oA) :: (X.pn ++ pins))) SA gl hm q nd
        · exact ld_blt (X := X.suite a ((a, oA) :: (X.pn ++ pins))) SA gl hm bv q nn nd
      apply named
      apply lookM.here
      cases b with
      | false =>
        show wpAny _ X.A (handleBy (.ref a) X.env hs2) _ _ _
        exact ih (no rfl)
      | true =>
        apply codeAny_handlers_suite_as
        refine HandSPX.lands_againZ fly fun hC flyC upC => ?_
        have JC : Inv X pins σ' H' { s' with heap := hC } := J.landed nb flyC.1 ((up.trans upA).trans upC) os ag
        obtain ⟨oC, wC, getC, zC, dataC⟩ := flyC.there
        have SC := JC.suite getC dataC na offL offF
        refine store_ok (X := X.suite a ((a, oC) :: (X.pn ++ pins))) (v := .ref a) SC nodup at_i (.inl lcl) rfl (fun s5 S5 => ?_) (.inr lcl)
        refine wpAny_mono ((hb a oC cls d (X.pn ++ pins) zC ⟨_, dataC⟩).run [] s5 _ H' _ S5 (yes rfl a na)) (fun fl s6 hq => ?_) (fun _ _ z => z.elim)
        have fin : ∀ {σ6 : L2.St} {H6 : Hp} {Q : Shared → Prop}, Inv (X.suite a ((a, oC) :: (X.pn ++ pins))) [] σ6 H6 s6 → (∀ s7, Inv X pins (σ6.set i none) H6 s7 → Q s7) →
            wpAny (model X.prog X.w) X.A (do bindName X.env n .none; unbindBehindTheSuite X.env n p2) (fun _ s7 => Q s7) X.xe s6 := by
          intro σ6 H6 Q S6 q
          exact gone_ok (S6.unsuite I.ok) nodup at_i lcl q
        cases fl with
        | ret u =>
          obtain ⟨v6, σ6, H6, S6, r6, q6⟩ := hq
          exact fin S6 fun s7 J7 => ⟨_, _, _, J7, r6, q6⟩
        | next =>
          obtain ⟨σ6, H6, S6, q6⟩ := hq
          exact fin S6 fun s7 J7 => ⟨_, _, J7, q6⟩
        | brk =>
          obtain ⟨σ6, H6, S6, q6⟩ := hq
          exact fin S6 fun s7 J7 => ⟨_, _, J7, q6⟩
        | cont =>
          obtain ⟨σ6, H6, S6, q6⟩ := hq
          exact fin S6 fun s7 J7 => ⟨_, _, J7, q6⟩
  refine wpAny_mono ((hbody _ (X.pn ++ pins) xe' caught PassesOwn.looking).run [] s σ H D (I.toTry _) hw) (fun fl s1 hq => ?_) (fun _ _ he => he)
  cases fl with
  | ret u =>
    obtain ⟨v, σ', H', J', r', q⟩ := hq
    exact ⟨v, σ', H', J'.ofTry I.ok, r', q⟩
  | next =>
    obtain ⟨σ', H', J', q⟩ := hq
    exact wpAny_execs_nil ⟨σ', H', J'.ofTry I.ok, q⟩
  | brk =>
    obtain ⟨σ', H', J', q⟩ := hq
    exact ⟨σ', H', J'.ofTry I.ok, q⟩
  | cont =>
    obtain ⟨σ', H', J', q⟩ := hq
    exact ⟨σ', H', J'.ofTry I.ok, q⟩
end
/-! ### a def called with keywords (and perhaps positional values ahead), what leaves it wished for at the caller's slots -/
/-- what such a call binds, the parameters' order by a permutation of the values -/
structure KwB (K : PySem.W.Frag) (fd : FuncData) (ps : List Str) (n : Nat) (ks : List Str) (g : {α : Type} → List α → List α → List α) : Prop where
  to : ∀ (us ws : List Value), us.length = n → ws.length = ks.length → bindArgs fd ⟨us, ks.zip ws⟩ = pure (ps.zip (g us ws))
  rel : ∀ {vs : List V} {us : List Value} {zs : List V} {ws : List Value}, vs.length = n → zs.length = ks.length → Vals vs us → Vals zs ws → Vals (g vs zs) (g us ws)
def tCallKw (n m : Nat) (sp : Sp) (g : List V → List V → List V) (E : L2.St → XK) (t tk : TA) : TE := fun σ H Q => t σ H fun vs H1 => tk σ H1 fun zs H2 => vs.length = n ∧ zs.length = m ∧ sp (g vs zs) H2 Q (E σ)
section
variable {X : Cx} {CX : CXT} {k n : Nat} {f : Addr} {fd : FuncData} {ps ks : List Str} {sp : Sp} {E : L2.St → XK} {x : Str} {p pos : Pos} {e : Expr} {es : List Expr} {kws : List Keyword} {t tk : TA} {g : {α : Type} → List α → List α → List α}
theorem run_kw {pins : List (Addr × Obj)} {σ : L2.St} {H : Hp} {s : Shared} {Q : VK} {us ws : List Value} {vs zs : List V} (F : FnOk X.prog X.w X.K X.mg X.base CX k f fd ps sp) (room : Room k X.A) (bnd : KwB X.K fd ps n ks g) (px : PassesAt CX X σ (E σ))
    (I : Inv X pins σ H s) (rv : Vals vs us) (rz : Vals zs ws) (l1 : vs.length = n) (l2 : zs.length = ks.length) (hsp : sp (g vs zs) H Q (E σ)) : wpAny (model X.prog X.w) X.A (call (.ref f) us (ks.zip ws)) (EP X pins σ Q) X.xe s := by
  apply wpAny_call
  refine codeAny_mono (F.run X.A X.stack s H ⟨us, ks.zip ws⟩ (g us ws) (g vs zs) Q (E σ) room I.env0 (.of_eq (bnd.to us ws (rv.length.symm.trans l1) (rz.length.symm.trans l2))) (bnd.rel l1 l2 rv rz) hsp) fun r s' got => ?_
  match r, got with
  | .error er, got => exact px pins H s er s' I got
  | .ok (.ret u), got => exact I.after got
  | .ok .next, got => exact got.elim
  | .ok .brk, got => exact got.elim
  | .ok .cont, got => exact got.elim
/-- f(k = v, ..) -/
theorem pe_kw0 (F : FnOk X.prog X.w X.K X.mg X.base CX k f fd ps sp) (room : Room k X.A) (gl : Gl X x) (m : X.mg x = some (.ref f)) (kp : PySem.W.keepIn X.K (.ref f) = true) (bnd : KwB X.K fd ps 0 ks g) (px : ∀ σ, PassesAt CX X σ (E σ)) (kw : PK X kws tk)
    (h1 : (backToKw pos (keywordEach kws X.env)).all (·.1.isSome) = true := by rfl) (h2 : (backToKw pos (keywordEach kws X.env)).filterMap (·.1) = ks := by rfl) (h3 : (x == ("__debug__" : Str)) = false := by decide)
    (h4 : ((backTo pos (starEach [] X.env)).any (·.1) || (backToKw pos (keywordEach kws X.env)).any (·.1.isNone)) = false := by rfl) : PE X (.Call (.Name x p) [] kws pos) (tCallKw 0 ks.length sp g E tNil tk) := by
  constructor
  intro pins s σ H Q I h
  apply wpAny_Call_Name_kw
  refine ld_glob I gl m ?_ h3
  refine PySem.W.callWith_KW0 (h₀ := X.base) I.ok.mod.kin kp h1 ?_ h4
  refine thn (kw.run pos pins s σ H _ I h) fun ws s2 got => ?_
  obtain ⟨zs, H2, I2, rz, l1, l2, q2⟩ := got
  rw [h2]
  exact ⟨I2.kIn, run_kw (us := []) (vs := []) F room bnd (px σ) I2 .nil rz rfl l2 q2⟩
/-- f(e, .., k = v, ..) -/
theorem pe_kw (F : FnOk X.prog X.w X.K X.mg X.base CX k f fd ps sp) (room : Room k X.A) (gl : Gl X x) (m : X.mg x = some (.ref f)) (kp : PySem.W.keepIn X.K (.ref f) = true) (bnd : KwB X.K fd ps n ks g) (px : ∀ σ, PassesAt CX X σ (E σ)) (ha : PA X (e :: es) t) (kw : PK X kws tk)
    (h1 : (backToKw pos (keywordEach kws X.env)).all (·.1.isSome) = true := by rfl) (h2 : (backToKw pos (keywordEach kws X.env)).filterMap (·.1) = ks := by rfl) (h3 : (x == ("__debug__" : Str)) = false := by decide)
    (h5 : starEach (e :: es) X.env = (false, eval e X.env) :: starEach es X.env := by rfl) (h4 : ((backTo pos (starEach (e :: es) X.env)).any (·.1) || (backToKw pos (keywordEach kws X.env)).any (·.1.isNone)) = false := by rfl) :
    PE X (.Call (.Name x p) (e :: es) kws pos) (tCallKw n ks.length sp g E t tk) := by
  constructor
  intro pins s σ H Q I h
  apply wpAny_Call_Name_kw
  refine ld_glob I gl m ?_ h3
  refine PySem.W.callWith_KW (h₀ := X.base) I.ok.mod.kin kp h1 (thn (ha.run pos pins s σ H _ I h) fun us s1 got => ?_) h4 h5
  obtain ⟨vs, H1, I1, rv, q⟩ := got
  refine thn (kw.run pos pins s1 σ H1 _ I1 q) fun ws s2 got => ?_
  obtain ⟨zs, H2, I2, rz, l1, l2, q2⟩ := got
  rw [h2]
  exact ⟨I2.kIn, run_kw F room bnd (px σ) I2 rv rz l1 l2 q2⟩
theorem passAt_of {X : Cx} {CX : CXT} {E : XK} (h : Passes CX X E) (σ : L2.St) : PassesAt CX X σ E := fun pins H s e s' I c => h pins σ H s e s' I c
/-- in a def that lets exceptions out: what a callee lets out goes on -/
theorem passC {X : Cx} {E : XK} (tk : Takes X (fun cls d _ H => E cls d H)) : Passes (L2.CX X.prog X.w) X E := passes_call tk fun _ _ _ _ h => h
end
/-- the drawing box at p: three ints, drawn n times at most -/
def BoxAt (H : Hp) (p : Addr) (n : Nat) : Prop := ∃ d s c : Int, H p = some (.lst [.int d, .int s, .int c]) ∧ 0 ≤ d ∧ 0 ≤ s ∧ s < 2147483629 ∧ 0 ≤ c ∧ c ≤ n
/-- H0: all that is known beside the box -/
structure BoxIn (H0 H : Hp) (p : Addr) (n : Nat) : Prop where
  same : Same H0 H
  free : H0 p = none
  box : BoxAt H p n
theorem BoxAt.mono {H : Hp} {p : Addr} {n m : Nat} (b : BoxAt H p n) (h : n ≤ m) : BoxAt H p m := by
  obtain ⟨d, s, c, h1, h2, h3, h4, h5, h6⟩ := b
  exact ⟨d, s, c, h1, h2, h3, h4, h5, by omega⟩
theorem BoxIn.mono {H0 H : Hp} {p : Addr} {n m : Nat} (b : BoxIn H0 H p n) (h : n ≤ m) : BoxIn H0 H p m := ⟨b.same, b.free, b.box.mono h⟩
/-- a pure step behind it -/
theorem BoxIn.keep {H0 H H' : Hp} {p : Addr} {n : Nat} (b : BoxIn H0 H p n) (s : Same H H') : BoxIn H0 H' p n := by
  obtain ⟨d, s', c, h1, h⟩ := b.box
  exact ⟨b.same.trans s, b.free, d, s', c, s _ _ h1, h⟩
/-- a new object becomes known -/
theorem BoxIn.new {H0 H : Hp} {p q : Addr} {n : Nat} {o : HO} (b : BoxIn H0 H p n) (hq : H q = none) : BoxIn (upd H0 q o) (upd H q o) p n ∧ Same H0 (upd H0 q o) := by
  obtain ⟨d, s', c, h1, h⟩ := b.box
  have npq : p ≠ q := ne_of_none h1 hq
  refine ⟨⟨fun x u e => ?_, by rw [upd_ne npq]; exact b.free, d, s', c, by rw [upd_ne npq]; exact h1, h⟩, fun x u e => ?_⟩
  · by_cases hx : x = q
    · subst hx
      rw [upd_same] at e ⊢
      exact e
    · rw [upd_ne hx] at e ⊢
      exact b.same _ _ e
  · rw [upd_ne (ne_of_none e (b.same.free hq))]
    exact e
/-- all that is tracked now, the box aside, is known -/
def but (H : Hp) (p : Addr) : Hp := fun q => if q = p then none else H q
theorem but_same {H : Hp} {p : Addr} : but H p p = none := by unfold but; rw [if_pos rfl]
theorem but_ne {H : Hp} {p q : Addr} (h : q ≠ p) : but H p q = H q := by unfold but; rw [if_neg h]
theorem BoxIn.all {H0 H : Hp} {p : Addr} {n : Nat} (b : BoxIn H0 H p n) : BoxIn (but H p) H p n ∧ Same H0 (but H p) := by
  refine ⟨⟨fun x u e => ?_, but_same, b.box⟩, fun x u e => ?_⟩
  · by_cases hx : x = p
    · subst hx
      rw [but_same] at e
      cases e
    · rw [but_ne hx] at e
      exact e
  · have hx : x ≠ p := fun q => by
      rw [q, b.free] at e
      cases e
    rw [but_ne hx]
    exact b.same _ _ e

def sp_law_cell (K : PySem.W.Frag) : Sp := fun vs H Q _ => ∃ (a : Addr) (ns : List Int) (k : Int), vs = [.ref a, .int k] ∧ SqL K H a (ns.map V.int) ∧ 0 ≤ k ∧ ∀ z, Q (.int z) H
def sp_law_box : Sp := fun vs H Q _ => ∃ z : Int, vs = [.int z] ∧ ∀ p o, H p = none → BoxAt (upd H p o) p 0 → Q (.ref p) (upd H p o)
def sp_law_take : Sp := fun vs H Q _ => ∃ (H0 : Hp) (p : Addr) (n : Nat) (m : Int), vs = [.ref p, .int m] ∧ BoxIn H0 H p n ∧ n < 1000000 ∧ 0 < m ∧ m < 1000000 ∧
  ∀ (z : Int) (H' : Hp), 0 ≤ z → z < m → BoxIn H0 H' p (n + 1) → Q (.int z) H'
/-- what the law's promise is: a list of at most 63 ints is handed in, True comes out -/
def sp_law (K : PySem.W.Frag) : Sp := fun vs H Q _ => ∃ (a : Addr) (ns : List Int), vs = [.ref a] ∧ SqL K H a (ns.map V.int) ∧ ns.length ≤ 63 ∧ ∀ H', Q (.bl true) H'
/-! ### values as data -/
theorem same_t {K : PySem.W.Frag} {H H' : Hp} {a : Addr} {xs : List V} (e : Same H H') (h : SqT K H a xs) : SqT K H' a xs := by
  rcases h with (h | ⟨o, h⟩) | h
  · exact .inl (.inl (e _ _ h))
  · exact .inl (.inr ⟨o, e _ _ h⟩)
  · exact .inr h
mutual
theorem dp_mono {K : PySem.W.Frag} {H H' : Hp} (e : Same H H') : ∀ {v : V} {d : PyData}, Dp K H v d → Dp K H' v d
  | _, _, .non => .non
  | _, _, .bl b => .bl b
  | _, _, .int i => .int i
  | _, _, .str x => .str x
  | _, _, .lst h a => .lst (e.seq h) (dpAll_mono e a)
  | _, _, .tup h a => .tup (same_t e h) (dpAll_mono e a)
theorem dpAll_mono {K : PySem.W.Frag} {H H' : Hp} (e : Same H H') : ∀ {vs : List V} {ds : List PyData}, DpAll K H vs ds → DpAll K H' vs ds
  | _, _, .nil => .nil
  | _, _, .cons a b => .cons (dp_mono e a) (dpAll_mono e b)
end
theorem dpAll_get {K : PySem.W.Frag} {H : Hp} : ∀ {vs : List V} {ds : List PyData} {i : Nat} {v : V}, DpAll K H vs ds → vs[i]? = some v → ∃ d, ds[i]? = some d ∧ Dp K H v d
  | _, _, 0, _, .cons a _, h => ⟨_, rfl, by cases h; exact a⟩
  | _, _, i + 1, _, .cons _ b, h => dpAll_get (i := i) b h
theorem dpAll_len {K : PySem.W.Frag} {H : Hp} : ∀ {vs : List V} {ds : List PyData}, DpAll K H vs ds → vs.length = ds.length
  | _, _, .nil => rfl
  | _, _, .cons _ b => congrArg (· + 1) (dpAll_len b)
theorem dpAll_strs {K : PySem.W.Frag} {H : Hp} : ∀ ss : List Str, DpAll K H (ss.map V.str) (ss.map PyData.str)
  | [] => .nil
  | s :: r => .cons (.str s) (dpAll_strs r)
theorem dpAll_bls {K : PySem.W.Frag} {H : Hp} : ∀ bs : List Bool, DpAll K H (bs.map V.bl) (bs.map PyData.bool)
  | [] => .nil
  | b :: r => .cons (.bl b) (dpAll_bls r)
theorem eqv_nil (ds : List PyData) : PyData.eqv (.list ds) (.list []) = ds.isEmpty := by
  cases ds with
  | nil => simp [PyData.eqv, PyData.eqvAll]
  | cons d r => simp [PyData.eqv, PyData.eqvAll]
theorem shaped_nil : SeqAt.shaped (.list []) = true := by decide +kernel
theorem canAll_mem {ds : List PyData} : PyData.canLayAll0 ds = true ↔ ∀ d ∈ ds, d.canLay0 = true := by
  induction ds with
  | nil => simp [PyData.canLayAll0]
  | cons d r ih => simp [PyData.canLayAll0, ih]
theorem depthAll_le {ds : List PyData} {n : Nat} (h : ∀ d ∈ ds, d.depth ≤ n) : PyData.depthAll ds ≤ n := by
  induction ds with
  | nil => simp [PyData.depthAll]
  | cons d r ih =>
    have h1 := h d (List.mem_cons_self)
    have h2 := ih fun x hx => h x (List.mem_cons_of_mem _ hx)
    simp only [PyData.depthAll]
    omega
theorem depthAll_mem {ds : List PyData} {d : PyData} (h : d ∈ ds) : d.depth ≤ PyData.depthAll ds := by
  induction ds with
  | nil => cases h
  | cons e r ih =>
    simp only [PyData.depthAll]
    rcases List.mem_cons.mp h with rfl | h
    · omega
    · have := ih h
      omega
theorem shaped_iff {d : PyData} : SeqAt.shaped d = true ↔ d.canLay0 = true ∧ d.depth ≤ 64 := by
  unfold SeqAt.shaped
  rw [Bool.and_eq_true, decide_eq_true_iff]
/-- a list of data that are d deep at most -/
theorem shaped_list {ds : List PyData} {n : Nat} (hn : n < 64) (h : ∀ d ∈ ds, d.canLay0 = true ∧ d.depth ≤ n) : SeqAt.shaped (.list ds) = true := by
  refine shaped_iff.mpr ⟨?_, ?_⟩
  · simp only [PyData.canLay0]
    exact canAll_mem.mpr fun d hd => (h d hd).1
  · have := depthAll_le fun d hd => (h d hd).2
    simp only [PyData.depth]
    omega
theorem shaped_of_tuple {ds : List PyData} (h : SeqAt.shaped (.tuple ds) = true) {d : PyData} (hd : d ∈ ds) : d.canLay0 = true ∧ d.depth ≤ 63 := by
  obtain ⟨h1, h2⟩ := shaped_iff.mp h
  simp only [PyData.canLay0] at h1
  simp only [PyData.depth] at h2
  have := depthAll_mem hd
  exact ⟨canAll_mem.mp h1 d hd, by omega⟩
/-- a value and what it is: data of any depth, or a dict (none) -/
inductive VD (K : PySem.W.Frag) (H : Hp) : V → Option PyData → Prop where
  | dat {v : V} {d : PyData} : Dp K H v d → SeqAt.shaped d = true → (∀ s, d = .str s → s.length ≤ 1000) → VD K H v (some d)
  | dic {a : Addr} {kvs : List (Key × V)} : H a = some (.dK kvs) → VD K H (.ref a) none
theorem VD.mono {K : PySem.W.Frag} {H H' : Hp} (e : Same H H') {v : V} {o : Option PyData} (h : VD K H v o) : VD K H' v o := by
  cases h with
  | dat a b c => exact .dat (dp_mono e a) b c
  | dic a => exact .dic (e _ _ a)
def tyD : PyData → String
  | .none => "NoneType" | .bool _ => "bool" | .int _ => "int" | .str _ => "str" | .list _ => "list" | .tuple _ => "tuple" | .dict _ => "dict"
def tyO : Option PyData → String
  | none => "dict"
  | some d => tyD d
theorem dp_ty {K : PySem.W.Frag} {H : Hp} {v : V} {d : PyData} (h : Dp K H v d) : TyX K H v (.type (tyD d)) := by
  cases h with
  | non => exact .base .non
  | bl b => exact .base (.bl b)
  | int i => exact .base (.int i)
  | str x => exact .base (.str x)
  | lst h _ =>
    rcases h with (h | ⟨o, h⟩) | ⟨o, its, n, h, c, _⟩
    · exact .base (.lst h)
    · exact .base (.frz h)
    · exact .kList h c
  | tup h _ =>
    rcases h with (h | ⟨o, h⟩) | ⟨o, its, n, h, c, _⟩
    · exact .base (.tup h)
    · exact .fTuple h
    · exact .kTuple h c
theorem VD.ty {K : PySem.W.Frag} {H : Hp} {v : V} {o : Option PyData} (h : VD K H v o) : TyX K H v (.type (tyO o)) := by
  cases h with
  | dat a _ _ => exact dp_ty a
  | dic a => exact .base (.dK a)
def isT (T : String) (o : Option PyData) : Bool := tyO o == T || (T == "int" && tyO o == "bool")
theorem tyO_mem (o : Option PyData) : tyO o = "NoneType" ∨ tyO o = "bool" ∨ tyO o = "int" ∨ tyO o = "str" ∨ tyO o = "list" ∨ tyO o = "tuple" ∨ tyO o = "dict" := by
  rcases o with _ | d
  · simp [tyO]
  · cases d <;> simp [tyO, tyD]
theorem kit_o {K : PySem.W.Frag} (o : Option PyData) {T : String} (hT : T = "int" ∨ T = "bool" ∨ T = "str" ∨ T = "tuple") : PySem.W.kitOne K (.type (tyO o)) (.type T) = some (isT T o) := by
  have h := tyO_mem o
  unfold isT
  generalize tyO o = nm at h ⊢
  rcases hT with rfl | rfl | rfl | rfl
  all_goals
    rcases h with rfl | rfl | rfl | rfl | rfl | rfl | rfl
    all_goals exact kit_ty (by decide +kernel)
def nonO : Option PyData → Bool
  | some .none => true
  | _ => false
theorem vd_non {K : PySem.W.Frag} {H : Hp} {v : V} {o : Option PyData} (h : VD K H v o) : decide (v = .non) = nonO o := by
  cases h with
  | dat a _ _ => cases a <;> rfl
  | dic a => rfl
theorem iteFe {c : Bool} {A B : Prop} (h : c = false) (q : B) : if c = true then A else B := by
  subst h
  exact iteF q
theorem iteTe {c : Bool} {A B : Prop} (h : c = true) (q : A) : if c = true then A else B := by
  subst h
  exact iteT q
theorem tyes {te : TE} {σ : L2.St} {H : Hp} {R : V → Hp → Prop} {S : Hp → Prop} (h : te σ H R) : tYes σ H (fun b H3 => if b = true then te σ H3 R else S H3) := by
  show (if true = true then te σ H R else S H)
  exact iteT h
/-! ### comprehensions that change nothing: acc i is what is made behind i turns -/
theorem lc_acc {J : It} {n : Nat} {G : Hp → Prop} {item : Nat → V → Prop} {g : TG} {tt : TT} {te : TE} {vs : List Nat} {σ : L2.St} {H1 : Hp} {D : Addr} {Qd : Hp → Prop} (w : Walk J n G (fun i H x H' => H' = H ∧ item i x)) (hD : H1 D = none) (hG : ∀ H, Same H1 H → G H) (acc : Nat → List V) (h0 : acc 0 = []) (hz : ∀ i, i < n → (acc i).length < sizeLine)
    (hs : ∀ (i : Nat) (x : V) (H : Hp), i < n → item i x → Same H1 H → ∀ (R : V → Hp → Prop) (S : Hp → Prop), (∀ y H4, acc (i + 1) = acc i ++ [y] → Same H H4 → R y H4) → (∀ H3, acc (i + 1) = acc i → Same H H3 → S H3) →
      g x (wipe σ vs) H fun σ2 H2 => wipe σ2 vs = wipe σ vs ∧ tt σ2 H2 fun b H3 => if b = true then te σ2 H3 R else S H3)
    (hd : ∀ H, Same H1 H → H D = some (.lst (acc n)) → Qd H) : ∃ W : Nat → Nat → Hp → Prop, (∃ m, W 0 m (upd H1 D (.lst []))) ∧ ∀ i m H, W i m H →
      (J.stop i H ∧ Qd H) ∨ (J.go i H ∧ ∃ Nx : Hp → Prop, (∀ H', Nx H' → ∃ m', m' < m ∧ W (i + 1) m' H') ∧ ∀ x H', J.yld i H x H' → g x (wipe σ vs) H' fun σ2 H2 => wipe σ2 vs = wipe σ vs ∧ tt σ2 H2 fun b H3 =>
        if b = true then te σ2 H3 fun y H4 => ∃ acc, H4 D = some (.lst acc) ∧ acc.length < sizeLine ∧ Nx (upd H4 D (.lst (acc ++ [y]))) else Nx H3) := by
  refine lc_it w (fun i H => Same H1 H ∧ H D = some (.lst (acc i))) ⟨fun b o e => ?_, ?_⟩ (fun i H _ p => hG H p.1) ?_ (fun H p => hd H p.1 p.2)
  · rw [upd_ne (ne_of_none e hD)]
    exact e
  · rw [upd_same, h0]
  · rintro i x H H' hi ⟨s1, hl⟩ ⟨rfl, hx⟩
    refine hs i x _ hi hx s1 _ _ (fun y H4 e s2 => ⟨acc i, s2 _ _ hl, hz i hi, ⟨fun b o eb => ?_, by rw [upd_same, e]⟩⟩) (fun H3 e s2 => ⟨s1.trans s2, by rw [e]; exact s2 _ _ hl⟩)
    rw [upd_ne (ne_of_none eb hD)]
    exact s2 _ _ (s1 _ _ eb)
/-! ### texts and their bounds -/
theorem same_new {H : Hp} {q : Addr} {o : HO} (h : H q = none) : Same H (upd H q o) := fun b u e => by
  rw [upd_ne (ne_of_none e h)]
  exact e
/-- at most n signs, all of them signs -/
def sOk (n : Nat) (s : Str) : Prop := s.length ≤ n ∧ PyData.strOk s = true
theorem strOk_iff {s : Str} : PyData.strOk s = true ↔ ∀ c ∈ s.cps.toList, c < 0x110000 := by
  unfold PyData.strOk
  rw [Array.all_eq_true']
  constructor
  · intro h c hc
    exact of_decide_eq_true (h c (by simpa using hc))
  · intro h c hc
    exact decide_eq_true (h c (by simpa using hc))
theorem sOk.mono {n m : Nat} {s : Str} (h : sOk n s) (e : n ≤ m) : sOk m s := ⟨Nat.le_trans h.1 e, h.2⟩
theorem sOk.app {n m : Nat} {a b : Str} (h : sOk n a) (k : sOk m b) : sOk (n + m) (a ++ b) := by
  refine ⟨?_, strOk_iff.mpr fun c hc => ?_⟩
  · rw [Str.length_append]
    exact Nat.add_le_add h.1 k.1
  · rw [Str.cps_append, Array.toList_append] at hc
    rcases List.mem_append.mp hc with q | q
    · exact strOk_iff.mp h.2 c q
    · exact strOk_iff.mp k.2 c q
theorem sOk.cut {n : Nat} {a : Str} (h : sOk n a) (lo hi : Option Int) : sOk n (cutS a lo hi) := by
  refine ⟨Nat.le_trans (cutS_length _ _ _) h.1, strOk_iff.mpr fun c hc => ?_⟩
  unfold cutS at hc
  have hc' : c ∈ a.cps.toList := List.mem_of_mem_drop (List.mem_of_mem_take (by simpa using hc))
  exact strOk_iff.mp h.2 c hc'
theorem joinL_nil : ∀ ps : List (List Nat), TL.joinL [] ps = ps.flatten
  | [] => rfl
  | [p] => by simp [TL.joinL]
  | p :: q :: r => by
    have ih := joinL_nil (q :: r)
    simp only [TL.joinL, ih]
    simp
theorem flat_len : ∀ (ys : List Str) (n : Nat), (∀ y ∈ ys, y.length ≤ n) → ((ys.map TL.tl).flatten).length ≤ ys.length * n
  | [], _, _ => by simp
  | y :: r, n, h => by
    have ih := flat_len r n fun z hz => h z (List.mem_cons_of_mem _ hz)
    have h1 : y.length ≤ n := h y List.mem_cons_self
    have h2 : (TL.tl y).length = y.length := by simp [TL.tl, Str.length]
    simp only [List.map_cons, List.flatten_cons, List.length_append, List.length_cons, Nat.add_mul, Nat.one_mul]
    omega
theorem join_ok {ys : List Str} {n : Nat} (h : ∀ y ∈ ys, sOk n y) : sOk (ys.length * n) (Txt.join Str.empty ys) := by
  have e : TL.tl (Txt.join Str.empty ys) = (ys.map TL.tl).flatten := by
    rw [TL.join_eq, TL.tl_join]
    exact joinL_nil _
  refine ⟨?_, strOk_iff.mpr fun c hc => ?_⟩
  · have h1 : (Txt.join Str.empty ys).length = (TL.tl (Txt.join Str.empty ys)).length := by simp [TL.tl, Str.length]
    rw [h1, e]
    exact flat_len ys n fun y hy => (h y hy).1
  · have hc' : c ∈ TL.tl (Txt.join Str.empty ys) := hc
    rw [e] at hc'
    obtain ⟨l, hl, hcl⟩ := List.mem_flatten.mp hc'
    obtain ⟨y, hy, rfl⟩ := List.mem_map.mp hl
    exact strOk_iff.mp (h y hy).2 c hcl
theorem sum_le : ∀ (ys : List Str) (n : Nat), (∀ y ∈ ys, y.length ≤ n) → (ys.map (·.length)).sum ≤ ys.length * n
  | [], _, _ => by simp
  | y :: r, n, h => by
    have ih := sum_le r n fun z hz => h z (List.mem_cons_of_mem _ hz)
    have h1 : y.length ≤ n := h y List.mem_cons_self
    simp only [List.map_cons, List.sum_cons, List.length_cons, Nat.add_mul, Nat.one_mul]
    omega
/-- an item at an open place within -/
theorem atI_in {α : Type} {xs : List α} {z : Int} (h0 : 0 ≤ z) (h1 : z < xs.length) : ∃ v, atI xs z = some v ∧ v ∈ xs := by
  obtain ⟨j, rfl⟩ := Int.eq_ofNat_of_zero_le h0
  have hj : j < xs.length := by omega
  exact ⟨xs[j], atI_nat (List.getElem?_eq_getElem hj), List.getElem_mem hj⟩
theorem op_mul_str {X : Cx} : OpR X (binaryOp .Mult) (fun x y H Q => ∃ z n, x = .str z ∧ y = .int n ∧ MulOk z n ∧ Q (.str (Txt.mul z n)) H) := by
  intro pins s σ H x y v u Q I rx ry h
  obtain ⟨z, n, rfl, rfl, hz, q⟩ := h
  obtain ⟨t, rfl⟩ := rx
  obtain ⟨t', rfl⟩ := ry
  exact SB.mul hz fun t' tk => ⟨.str (Txt.mul z n), H, I.tok _, ⟨_, rfl⟩, q⟩
theorem BoxIn.low {H0 H1 H : Hp} {p : Addr} {n : Nat} (b : BoxIn H1 H p n) (s : Same H0 H1) : BoxIn H0 H p n := ⟨s.trans b.same, s.free b.free, b.box⟩
theorem BoxIn.mut {H0 H : Hp} {p D : Addr} {n : Nat} {o : HO} (b : BoxIn H0 H p n) (h1 : D ≠ p) (h2 : H0 D = none) : BoxIn H0 (upd H D o) p n := by
  obtain ⟨d, s', c, h, hh⟩ := b.box
  refine ⟨fun x u e => ?_, b.free, d, s', c, by rw [upd_ne h1.symm]; exact h, hh⟩
  rw [upd_ne (ne_of_none e h2)]
  exact b.same _ _ e
/-- what a def draws: Good of the value, with what is known then -/
def sp_draw (c : Nat) (Good : Hp → V → Prop) : Sp := fun vs H Q _ => ∃ (H0 : Hp) (p : Addr) (n : Nat), vs = [.ref p] ∧ BoxIn H0 H p n ∧ n + c < 1000000 ∧ ∀ (H1 H' : Hp) (v : V), Same H0 H1 → BoxIn H1 H' p (n + c) → Good H1 v → Q v H'
/-! ### the mirror -/
def intO (o : Option PyData) : Bool := isT "int" o && !isT "bool" o
def limO (o : Option PyData) : Bool := nonO o || intO o
def okSign (c : Nat) : Bool := !decide (([c] : List Nat) < [97]) && !decide (([122] : List Nat) < [c])
def nameS (s : Str) : Bool := !(s == ("table" : Str)) && (decide ((1 : Int) ≤ s.length) && (decide ((s.length : Int) ≤ 8) && s.cps.toList.all okSign))
def nameO : Option PyData → Bool
  | some (.str s) => nameS s
  | _ => false
def ltO : PyData → PyData → Bool
  | .int i, .int j => decide (i < j)
  | _, _ => true
def spanO : Option PyData → Bool
  | some (.tuple [l, h]) => limO (some l) && (limO (some h) && ltO l h)
  | _ => false
theorem spanO_no {ds : List PyData} (h : ds.length ≠ 2) : spanO (some (.tuple ds)) = false := by
  match ds, h with
  | [], _ => rfl
  | [_], _ => rfl
  | [_, _], hl => exact absurd rfl hl
  | _ :: _ :: _ :: _, _ => rfl
theorem dp_two {K : PySem.W.Frag} {H : Hp} {xs : List V} {ds : List PyData} (h : DpAll K H xs ds) (e : xs.length = 2) : ∃ x y d e, xs = [x, y] ∧ ds = [d, e] ∧ Dp K H x d ∧ Dp K H y e := by
  match xs, ds, h, e with
  | [x, y], [d, e], .cons h1 (.cons h2 .nil), _ => exact ⟨x, y, d, e, rfl, rfl, h1, h2⟩
theorem spanO_ty {o : Option PyData} (e : isT "tuple" o = false) : spanO o = false := by
  rcases o with _ | d
  · rfl
  · cases d with
    | tuple s => cases e
    | _ => rfl
theorem nameO_no {o : Option PyData} (e : isT "str" o = false) : nameO o = false := by
  rcases o with _ | d
  · rfl
  · cases d with
    | str s => cases e
    | _ => rfl
theorem VD.str_of {K : PySem.W.Frag} {H : Hp} {v : V} {o : Option PyData} (hv : VD K H v o) (e : isT "str" o = true) : ∃ s, v = .str s ∧ o = some (.str s) ∧ s.length ≤ 1000 ∧ PyData.strOk s = true := by
  cases hv with
  | dat a b c =>
    cases a with
    | str s =>
      have := (shaped_iff.mp b).1
      simp only [PyData.canLay0] at this
      exact ⟨s, rfl, rfl, c s rfl, this⟩
    | _ => cases e
  | dic a => cases e
theorem VD.tup_of {K : PySem.W.Frag} {H : Hp} {v : V} {o : Option PyData} (hv : VD K H v o) (e : isT "tuple" o = true) : ∃ a xs ds, v = .ref a ∧ o = some (.tuple ds) ∧ SqT K H a xs ∧ DpAll K H xs ds ∧ SeqAt.shaped (.tuple ds) = true := by
  cases hv with
  | dat a b c =>
    cases a with
    | tup h1 h2 => exact ⟨_, _, _, rfl, rfl, h1, h2, b⟩
    | _ => cases e
  | dic a => cases e
theorem strOk_mem {s : Str} (h : PyData.strOk s = true) {c : Nat} (hc : c ∈ s.cps.toList) : c < 0x110000 := by
  unfold PyData.strOk at h
  rw [Array.all_eq_true'] at h
  exact of_decide_eq_true (h c (by simpa using hc))
theorem strOk_sign {c : Nat} (h : c < 0x110000) : PyData.strOk ⟨#[c]⟩ = true := by
  unfold PyData.strOk
  simp
  omega
/-- the values that are no limits -/
def filt : List V → List PyData → List V
  | x :: xs, d :: ds => if limO (some d) = true then filt xs ds else x :: filt xs ds
  | _, _ => []
theorem filt_len : ∀ (xs : List V) (ds : List PyData), (filt xs ds).length ≤ xs.length
  | [], _ => by simp [filt]
  | _ :: _, [] => by simp [filt]
  | x :: xs, d :: ds => by
    have ih := filt_len xs ds
    simp only [filt]
    split
    · simp only [List.length_cons]
      omega
    · simp only [List.length_cons]
      omega
theorem filt_step : ∀ {xs : List V} {ds : List PyData} {i : Nat} {x : V} {d : PyData}, xs[i]? = some x → ds[i]? = some d → filt (xs.take (i + 1)) (ds.take (i + 1)) = if limO (some d) = true then filt (xs.take i) (ds.take i) else filt (xs.take i) (ds.take i) ++ [x]
  | [], _, _, _, _, h, _ => by simp at h
  | _ :: _, [], _, _, _, _, h => by simp at h
  | y :: ys, e :: es, 0, x, d, h1, h2 => by
    cases h1
    cases h2
    simp [filt]
  | y :: ys, e :: es, i + 1, x, d, h1, h2 => by
    have ih := filt_step (xs := ys) (ds := es) (i := i) (x := x) (d := d) (by simpa using h1) (by simpa using h2)
    simp only [List.take_succ_cons, filt, ih]
    split <;> split <;> simp
theorem filt_dp {K : PySem.W.Frag} {H : Hp} : ∀ {xs : List V} {ds : List PyData}, DpAll K H xs ds → DpAll K H (filt xs ds) (ds.filter fun d => !limO (some d))
  | _, _, .nil => by simp [filt]; exact .nil
  | _, _, .cons (v := v) (d := d) a b => by
    have ih := filt_dp b
    simp only [filt]
    cases h : limO (some d) with
    | true =>
      simp [h]
      exact ih
    | false =>
      simp [h]
      exact .cons a ih
theorem okSign_is (c : Nat) : okSign c = decide (c ∈ ("abcdefghijklmnopqrstuvwxyz" : Str).cps.toList) := by
  have e : ("abcdefghijklmnopqrstuvwxyz" : Str).cps.toList = [97, 98, 99, 100, 101, 102, 103, 104, 105, 106, 107, 108, 109, 110, 111, 112, 113, 114, 115, 116, 117, 118, 119, 120, 121, 122] := by decide +kernel
  rw [e]
  unfold okSign
  rw [Bool.eq_iff_iff, Bool.and_eq_true, decide_eq_true_iff, Bool.not_eq_true', Bool.not_eq_true', decide_eq_false_iff_not, decide_eq_false_iff_not]
  simp only [List.cons_lt_cons_iff, List.not_lt_nil, and_false, or_false, List.mem_cons, List.not_mem_nil]
  omega
def sp_v1 (K : PySem.W.Frag) (f : Option PyData → Bool) : Sp := fun vs H Q _ => ∃ (v : V) (o : Option PyData), vs = [v] ∧ VD K H v o ∧ ∀ H', Same H H' → Q (.bl (f o)) H'
/-- the same without a word on the heap: nothing is made -/
def sp_v0 (K : PySem.W.Frag) (f : Option PyData → Bool) : Sp := fun vs H Q _ => ∃ (v : V) (d : PyData), vs = [v] ∧ Dp K H v d ∧ Q (.bl (f (some d))) H
def sp_vO (K : PySem.W.Frag) (f : Option PyData → Bool) : Sp := fun vs H Q _ => ∃ (v : V) (o : Option PyData), vs = [v] ∧ TyX K H v (.type (tyO o)) ∧ decide (v = .non) = nonO o ∧ Q (.bl (f o)) H
theorem dp_vO {K : PySem.W.Frag} {H : Hp} {v : V} {d : PyData} (h : Dp K H v d) : TyX K H v (.type (tyO (some d))) ∧ decide (v = .non) = nonO (some d) := by
  refine ⟨dp_ty h, ?_⟩
  cases h <;> rfl
theorem vd_vO {K : PySem.W.Frag} {H : Hp} {v : V} {o : Option PyData} (h : VD K H v o) : TyX K H v (.type (tyO o)) ∧ decide (v = .non) = nonO o := ⟨h.ty, vd_non h⟩
/-! ### spans as two limits -/
abbrev Span := Option Int × Option Int
def limV : Option Int → V
  | none => .non
  | some i => .int i
def limD : Option Int → PyData
  | none => .none
  | some i => .int i
def okS : Span → Bool
  | (some l, some h) => decide (l < h)
  | _ => true
def spD (s : Span) : PyData := .tuple [limD s.1, limD s.2]
def spV (s : Span) : List V := [limV s.1, limV s.2]
def loB (l : Option Int) (k : Int) : Bool := match l with | none => true | some i => decide (i ≤ k)
def hiB (h : Option Int) (k : Int) : Bool := match h with | none => true | some i => decide (k < i)
def inS (s : Span) (k : Int) : Bool := loB s.1 k && hiB s.2 k
def maxO : Option Int → Option Int → Option Int
  | none, b => b
  | a, none => a
  | some a, some b => some (max a b)
def minO : Option Int → Option Int → Option Int
  | none, b => b
  | a, none => a
  | some a, some b => some (min a b)
def comS (s t : Span) : Span := (maxO s.1 t.1, minO s.2 t.2)
theorem spanO_ok (s : Span) : spanO (some (spD s)) = okS s := by
  obtain ⟨l, h⟩ := s
  cases l <;> cases h <;> rfl
theorem limO_of {d : PyData} (h : limO (some d) = true) : ∃ l, d = limD l := by
  cases d with
  | none => exact ⟨none, rfl⟩
  | int i => exact ⟨some i, rfl⟩
  | _ => cases h
theorem spanO_of {o : Option PyData} (h : spanO o = true) : ∃ s, o = some (spD s) ∧ okS s = true := by
  rcases o with _ | d
  · cases h
  · cases d with
    | tuple ds =>
      by_cases e : ds.length = 2
      · match ds, e with
        | [a, b], _ =>
          have h' : (limO (some a) && (limO (some b) && ltO a b)) = true := h
          rw [Bool.and_eq_true, Bool.and_eq_true] at h'
          obtain ⟨l, rfl⟩ := limO_of h'.1
          obtain ⟨u, rfl⟩ := limO_of h'.2.1
          exact ⟨(l, u), rfl, (spanO_ok (l, u)).symm.trans h⟩
      · rw [spanO_no e] at h
        cases h
    | _ => cases h
theorem dp_lim {K : PySem.W.Frag} {H : Hp} (l : Option Int) : Dp K H (limV l) (limD l) := by
  cases l with
  | none => exact .non
  | some i => exact .int i
theorem limD_inj {l u : Option Int} (h : limD l = limD u) : l = u := by
  cases l <;> cases u <;> cases h <;> rfl
theorem lim_of_dp {K : PySem.W.Frag} {H : Hp} {v : V} {l : Option Int} (h : Dp K H v (limD l)) : v = limV l := by
  cases l with
  | none => cases h; rfl
  | some i => cases h; rfl
theorem dpAll_spV {K : PySem.W.Frag} {H : Hp} (s : Span) : DpAll K H (spV s) [limD s.1, limD s.2] := .cons (dp_lim _) (.cons (dp_lim _) .nil)
theorem shaped_sp (s : Span) : SeqAt.shaped (spD s) = true := by
  obtain ⟨l, h⟩ := s
  cases l <;> cases h <;> rfl
theorem vd_sp {K : PySem.W.Frag} {H : Hp} {a : Addr} {s : Span} (h : SqT K H a (spV s)) : VD K H (.ref a) (some (spD s)) := .dat (.tup h (dpAll_spV s)) (shaped_sp s) fun x e => by cases e
theorem VD.sp {K : PySem.W.Frag} {H : Hp} {v : V} {s : Span} (h : VD K H v (some (spD s))) : ∃ a, v = .ref a ∧ SqT K H a (spV s) := by
  cases h with
  | dat d _ _ =>
    cases d with
    | tup h1 h2 =>
      cases h2 with
      | cons a b =>
        cases b with
        | cons c e =>
          cases e
          rw [lim_of_dp a, lim_of_dp c] at h1
          exact ⟨_, rfl, h1⟩
theorem intO_of {K : PySem.W.Frag} {H : Hp} {v : V} {o : Option PyData} (h : VD K H v o) (e : intO o = true) : ∃ i, v = .int i ∧ o = some (.int i) := by
  cases h with
  | dat a _ _ =>
    cases a with
    | int i => exact ⟨i, rfl, rfl⟩
    | _ => cases e
  | dic a => cases e
/-! ### what is raised -/
/-- an exception of the class at C leaves, with v as its field f -/
def Rz (H : Hp) (E : XK) (C : Addr) (f : Str) (v : V) : Prop := ∀ (d : Addr) (H' : Hp), H d = none → H' d = some (.xd [(f, v)]) → Same H H' → E (.ref C) (some d) H'
theorem Rz.back {H H1 : Hp} {E : XK} {C : Addr} {f : Str} {v : V} (s : Same H H1) (h : Rz H E C f v) : Rz H1 E C f v := fun d H' n x k => h d H' (s.free n) x (s.trans k)
/-- X.__init__: the one field -/
def sp_xinit (K : PySem.W.Frag) (C : Addr) (f : Str) : Sp := fun vs H Q _ => ∃ (a : Addr) (v : V), vs = [.ref a, v] ∧ OexC K C ∧ PySem.W.findIn K (.ref C) f = some none ∧ H a = some (exo a C none) ∧ ∀ dx, H dx = none → dx ≠ a → Q .non (upd (upd H dx (exd dx [(f, v)])) a (exo a C (some dx)))
/-- the reading of «raise X(v)» -/
theorem raise_x {K : PySem.W.Frag} {H : Hp} {E : XK} {C : Addr} {f : Str} {v : V} (x : OexC K C) (n : PySem.W.findIn K (.ref C) f = some none) (h : Rz H E C f v) : ([v] : List V).length ≤ 1000 ∧ ∀ a, H a = none → sp_xinit K C f (.ref a :: ([v] ++ [])) (upd H a (exo a C none))
    (fun v' H2 => v' = .non ∧ ∃ (d : Addr) (fs : List (Str × V)), H2 a = some (exo a C (some d)) ∧ H2 d = some (exd d fs) ∧ H d = none ∧ E (.ref C) (some d) (upd (del H2 a) d (.xd fs))) (fun _ _ _ => False) := by
  refine ⟨by show 1 ≤ 1000; decide, fun a ha => ⟨a, v, rfl, x, n, upd_same, fun dx hdx ne => ⟨rfl, dx, [(f, v)], upd_same, by rw [upd_ne ne, upd_same], ?_, ?_⟩⟩⟩
  · rw [upd_ne ne] at hdx
    exact hdx
  · rw [upd_ne ne] at hdx
    refine h dx _ hdx upd_same fun b o e => ?_
    have nb : b ≠ a := ne_of_none e ha
    have nd : b ≠ dx := ne_of_none e hdx
    rw [upd_ne nd, del_ne nb, upd_ne nb, upd_ne nd, upd_ne nb]
    exact e
/-! ### promises -/
def sp_req (K : PySem.W.Frag) (f : Option PyData → Bool) (C : Addr) (fld : Str) : Sp := fun vs H Q E => ∃ (v : V) (o : Option PyData), vs = [v] ∧ VD K H v o ∧ (f o = true → ∀ H', Same H H' → Q .non H') ∧ (f o = false → Rz H E C fld v)
def sp_in_span (K : PySem.W.Frag) (CS CK : Addr) : Sp := fun vs H Q E => ∃ (x y : V) (o o2 : Option PyData), vs = [x, y] ∧ VD K H x o ∧ VD K H y o2 ∧ (spanO o = false → Rz H E CS "value" x) ∧ (spanO o = true → intO o2 = false → Rz H E CK "value" y) ∧
  ∀ (s : Span) (k : Int), o = some (spD s) → okS s = true → o2 = some (.int k) → ∀ H', Same H H' → Q (.bl (inS s k)) H'
def sp_common (K : PySem.W.Frag) (CS : Addr) : Sp := fun vs H Q E => ∃ (x y : V) (o o2 : Option PyData), vs = [x, y] ∧ VD K H x o ∧ VD K H y o2 ∧ (spanO o = false → Rz H E CS "value" x) ∧ (spanO o = true → spanO o2 = false → Rz H E CS "value" y) ∧
  ∀ (s t : Span), o = some (spD s) → okS s = true → o2 = some (spD t) → okS t = true → (okS (comS s t) = true → ∀ p H', Same H H' → H p = none → H' p = some (.tup (spV (comS s t))) → Q (.ref p) H') ∧ (okS (comS s t) = false → ∀ H', Same H H' → Q .non H')
def sp_meet (K : PySem.W.Frag) (CS : Addr) : Sp := fun vs H Q E => ∃ (x y : V) (o o2 : Option PyData), vs = [x, y] ∧ VD K H x o ∧ VD K H y o2 ∧ (spanO o = false → Rz H E CS "value" x) ∧ (spanO o = true → spanO o2 = false → Rz H E CS "value" y) ∧
  ∀ (s t : Span), o = some (spD s) → okS s = true → o2 = some (spD t) → okS t = true → ∀ H', Same H H' → Q (.bl (okS (comS s t))) H'
def lowsL (a b : Option Int) : List Int := (a.toList ++ b.toList)
theorem limV_non (l : Option Int) : decide (limV l = .non) = l.isNone := by
  cases l <;> rfl
theorem max_none {a b : Option Int} (e : lowsL a b = []) : V.non = limV (maxO a b) := by
  cases a <;> cases b <;> first | rfl | cases e
theorem min_none {a b : Option Int} (e : lowsL a b = []) : V.non = limV (minO a b) := by
  cases a <;> cases b <;> first | rfl | cases e
theorem max_some {a b : Option Int} {m : Int} (h1 : m ∈ lowsL a b) (h2 : ∀ n ∈ lowsL a b, n ≤ m) : V.int m = limV (maxO a b) := by
  cases a with
  | none =>
    cases b with
    | none => cases h1
    | some y =>
      obtain rfl : m = y := by simpa [lowsL] using h1
      rfl
  | some x =>
    cases b with
    | none =>
      obtain rfl : m = x := by simpa [lowsL] using h1
      rfl
    | some y =>
      have hx := h2 x (by simp [lowsL])
      have hy := h2 y (by simp [lowsL])
      have hm : m = x ∨ m = y := by simpa [lowsL] using h1
      show V.int m = V.int (max x y)
      congr 1
      omega
theorem min_some {a b : Option Int} {m : Int} (h1 : m ∈ lowsL a b) (h2 : ∀ n ∈ lowsL a b, m ≤ n) : V.int m = limV (minO a b) := by
  cases a with
  | none =>
    cases b with
    | none => cases h1
    | some y =>
      obtain rfl : m = y := by simpa [lowsL] using h1
      rfl
  | some x =>
    cases b with
    | none =>
      obtain rfl : m = x := by simpa [lowsL] using h1
      rfl
    | some y =>
      have hx := h2 x (by simp [lowsL])
      have hy := h2 y (by simp [lowsL])
      have hm : m = x ∨ m = y := by simpa [lowsL] using h1
      show V.int m = V.int (min x y)
      congr 1
      omega
/-! ### texts of whole numbers -/
abbrev tl := TL.tl
def isDig (c : Nat) : Bool := decide (48 ≤ c) && decide (c ≤ 57)
def sgn (w : List Nat) : Bool × List Nat := match w with
  | 45 :: r => (true, r)
  | _ => (false, w)
def digOk (r : List Nat) : Bool := decide (1 ≤ r.length) && (decide (r.length ≤ 30) && r.all isDig)
def zeroed (w : List Nat) : Bool := ((sgn w).2.head? == some 48) && !(w == [48])
def worth (w : List Nat) : Int := if (sgn w).1 = true then -((NumText.digitsVal (sgn w).2 : Nat) : Int) else ((NumText.digitsVal (sgn w).2 : Nat) : Int)
/-- the number that a text is, if it is one's -/
def numO (w : List Nat) : Option Int := if (digOk (sgn w).2 && !zeroed w) = true then some (worth w) else none
theorem allDig {r : List Nat} : r.all isDig = true ↔ NumText.AllDigits r := by
  unfold NumText.AllDigits
  simp [isDig, List.all_eq_true]
theorem snocInd {P : List Nat → Prop} (h0 : P []) (h1 : ∀ r c, P r → P (r ++ [c])) (r : List Nat) : P r := by
  have : ∀ n (r : List Nat), r.length = n → P r := by
    intro n
    induction n with
    | zero => intro r h; cases r with
      | nil => exact h0
      | cons a r => cases h
    | succ n ih =>
      intro r h
      have hr : r ≠ [] := fun z => by rw [z] at h; cases h
      rw [← List.dropLast_concat_getLast hr]
      exact h1 _ _ (ih _ (by rw [List.length_dropLast, h]; rfl))
  exact this _ r rfl
theorem val_snoc (r : List Nat) (c : Nat) : NumText.digitsVal (r ++ [c]) = NumText.digitsVal r * 10 + (c - 48) := by
  unfold NumText.digitsVal
  rw [List.foldl_append]
  rfl
theorem num_head {n : Nat} (h : 0 < n) : (TL.numL n).head? ≠ some 48 := by
  induction n using Nat.strongRecOn with
  | _ n ih =>
    by_cases h10 : n < 10
    · rw [TL.numL_lt h10]
      simp
      omega
    · rw [TL.numL_step (by omega)]
      have e := ih (n / 10) (by omega) (by omega)
      cases hn : TL.numL (n / 10) with
      | nil => exact absurd hn (TL.numL_ne _)
      | cons a r =>
        rw [hn] at e
        exact e
theorem val_pos : ∀ (r : List Nat), NumText.AllDigits r → r.head? ≠ some 48 → r ≠ [] → 0 < NumText.digitsVal r := by
  refine snocInd ?_ ?_
  · intro _ _ h
    exact absurd rfl h
  · intro r c ih hd hh _
    rw [val_snoc]
    cases r with
    | nil =>
      have h1 := hd c (by simp)
      have h2 : c ≠ 48 := fun e => hh (by rw [e]; rfl)
      omega
    | cons a r =>
      have := ih (fun x hx => hd x (List.mem_append_left _ hx)) hh (by simp)
      omega
theorem num_back : ∀ (r : List Nat), NumText.AllDigits r → r ≠ [] → (r.head? ≠ some 48 ∨ r = [48]) → TL.numL (NumText.digitsVal r) = r := by
  refine snocInd ?_ ?_
  · intro _ h
    exact absurd rfl h
  · intro r c ih hd _ hh
    have hc := hd c (by simp)
    rw [val_snoc]
    cases r with
    | nil =>
      have e : NumText.digitsVal [] * 10 + (c - 48) = c - 48 := by
        show 0 * 10 + (c - 48) = c - 48
        omega
      rw [e, TL.numL_lt (by omega)]
      show [48 + (c - 48)] = [c]
      congr 1
      omega
    | cons a r =>
      have hd' : NumText.AllDigits (a :: r) := fun x hx => hd x (List.mem_append_left _ hx)
      have hh' : (a :: r).head? ≠ some 48 := by
        rcases hh with h | h
        · exact h
        · simp at h
      have hp := val_pos (a :: r) hd' hh' (by simp)
      have hi := ih hd' (by simp) (.inl hh')
      rw [TL.numL_step (by omega)]
      have e1 : (NumText.digitsVal (a :: r) * 10 + (c - 48)) / 10 = NumText.digitsVal (a :: r) := by omega
      have e2 : 48 + (NumText.digitsVal (a :: r) * 10 + (c - 48)) % 10 = c := by omega
      rw [e1, e2, hi]
theorem num_zero {n : Nat} (h : (TL.numL n).head? = some 48) : TL.numL n = [48] := by
  by_cases hn : 0 < n
  · exact absurd h (num_head hn)
  · obtain rfl : n = 0 := by omega
    exact TL.numL_lt (by decide)
/-- the signs of str(i) -/
def intL (i : Int) : List Nat := if i < 0 then 45 :: TL.numL i.natAbs else TL.numL i.natAbs
theorem tl_int (i : Int) : tl (Str.ofString (toString i)) = intL i := by
  cases i with
  | ofNat n =>
    have : intL (Int.ofNat n) = TL.numL n := by
      unfold intL
      rw [if_neg (by simp)]
      rfl
    rw [this]
    exact TL.tl_num n
  | negSucc n =>
    have e1 : intL (Int.negSucc n) = 45 :: TL.numL (n + 1) := by
      unfold intL
      rw [if_pos (Int.negSucc_lt_zero n)]
      rfl
    have e2 : (toString (Int.negSucc n) : String) = "-" ++ toString (n + 1) := rfl
    rw [e1, e2]
    show (Str.ofString ("-" ++ toString (n + 1))).cps.toList = _
    rw [Str.ofString_eq_toList]
    show (("-" ++ toString (n + 1)).toList.map Char.toNat) = _
    rw [String.toList_append, List.map_append]
    have e3 := TL.tl_num (n + 1)
    have e4 : TL.tl (Str.ofString (toString (((n + 1 : Nat)) : Int))) = ((toString (n + 1)).toList.map Char.toNat) := by
      show (Str.ofString (toString (n + 1))).cps.toList = _
      rw [Str.ofString_eq_toList]
    rw [e4] at e3
    rw [e3]
    rfl
theorem sgn_cases (w : List Nat) : (∃ r, w = 45 :: r ∧ sgn w = (true, r)) ∨ (w.head? ≠ some 45 ∧ sgn w = (false, w)) := by
  cases w with
  | nil => exact .inr ⟨by simp, rfl⟩
  | cons c r =>
    by_cases h : c = 45
    · subst h
      exact .inl ⟨r, rfl, rfl⟩
    · refine .inr ⟨by simpa using h, ?_⟩
      unfold sgn
      split
      · rename_i heq
        injection heq with h1 _
        exact absurd h1 h
      · rfl
theorem digOk_iff {r : List Nat} : digOk r = true ↔ 1 ≤ r.length ∧ r.length ≤ 30 ∧ NumText.AllDigits r := by
  unfold digOk
  rw [Bool.and_eq_true, Bool.and_eq_true, decide_eq_true_iff, decide_eq_true_iff, allDig]
/-- int(w), digits with a sign or none -/
theorem int_of {x : Str} (h : digOk (sgn (tl x)).2 = true) : PySem.intText? x = some (worth (tl x)) := by
  obtain ⟨h1, h2, h3⟩ := digOk_iff.mp h
  have hx : x.length = (tl x).length := TL.len_tl x
  rcases sgn_cases (tl x) with ⟨r, e, e2⟩ | ⟨_, e2⟩
  · rw [e2] at h1 h2 h3
    have hr : r ≠ [] := fun z => by rw [z] at h1; simp at h1
    have := PySem.intText_neg (x := x) e h3 hr (by have h4 : r.length ≤ 30 := h2; rw [hx, e, List.length_cons]; omega)
    rw [this]
    unfold worth
    rw [e2]
    rfl
  · rw [e2] at h1 h2 h3
    have hr : tl x ≠ [] := fun z => by rw [z] at h1; simp at h1
    have := PySem.intText_digits (x := x) h3 hr (by have h4 : (tl x).length ≤ 30 := h2; rw [hx]; omega)
    rw [this]
    unfold worth
    rw [e2]
    rfl
/-- it is written back just if no zero is needless -/
theorem back_iff {w : List Nat} (h : digOk (sgn w).2 = true) : (intL (worth w) = w) ↔ zeroed w = false := by
  obtain ⟨h1, h2, h3⟩ := digOk_iff.mp h
  rcases sgn_cases w with ⟨r, e, e2⟩ | ⟨hh, e2⟩
  · rw [e2] at h1 h2 h3
    have hr : r ≠ [] := fun z => by rw [z] at h1; simp at h1
    have ew : worth w = -((NumText.digitsVal r : Nat) : Int) := by unfold worth; rw [e2]; rfl
    have ez : zeroed w = (r.head? == some 48) := by
      unfold zeroed
      rw [e2, e]
      cases r with
      | nil => exact absurd rfl hr
      | cons a b => simp
    rw [ew, ez]
    by_cases hz : r.head? = some 48
    · constructor
      · intro hb
        exfalso
        unfold intL at hb
        by_cases hn : -((NumText.digitsVal r : Nat) : Int) < 0
        · rw [if_pos hn, e] at hb
          injection hb with _ hb
          have e3 : (-((NumText.digitsVal r : Nat) : Int)).natAbs = NumText.digitsVal r := by omega
          rw [e3] at hb
          have hp : 0 < NumText.digitsVal r := by omega
          exact num_head hp (by rw [hb]; exact hz)
        · have h0 : NumText.digitsVal r = 0 := by omega
          rw [if_neg hn, h0, e] at hb
          have : TL.numL 0 = [48] := TL.numL_lt (by decide)
          rw [show (-((0 : Nat) : Int)).natAbs = 0 from rfl, this] at hb
          injection hb with hb _
          cases hb
      · intro hb
        rw [hz] at hb
        cases hb
    · constructor
      · intro _
        simpa using hz
      · intro _
        have hp := val_pos r h3 hz hr
        unfold intL
        rw [if_pos (by omega)]
        have e3 : (-((NumText.digitsVal r : Nat) : Int)).natAbs = NumText.digitsVal r := by omega
        rw [e3, num_back r h3 hr (.inl hz), e]
  · rw [e2] at h1 h2 h3
    have hr : w ≠ [] := fun z => by rw [z] at h1; simp at h1
    have ew : worth w = ((NumText.digitsVal w : Nat) : Int) := by unfold worth; rw [e2]; rfl
    have ei : intL (worth w) = TL.numL (NumText.digitsVal w) := by
      rw [ew]
      unfold intL
      rw [if_neg (by omega)]
      rfl
    have ez : zeroed w = ((w.head? == some 48) && !(w == [48])) := by unfold zeroed; rw [e2]
    rw [ei, ez]
    by_cases hz : w.head? = some 48
    · constructor
      · intro hb
        have := num_zero (n := NumText.digitsVal w) (by rw [hb]; exact hz)
        rw [hb] at this
        rw [this]
        rfl
      · intro hb
        rw [hz] at hb
        have hw : w = [48] := by simpa using hb
        exact num_back w h3 hr (.inr hw)
    · constructor
      · intro _
        simp [hz]
      · intro _
        exact num_back w h3 hr (.inl hz)
/-- what str writes is read back -/
theorem intL_digits (i : Int) : NumText.AllDigits (sgn (intL i)).2 ∧ (sgn (intL i)).2 ≠ [] := by
  unfold intL
  split
  · exact ⟨TL.numL_digits _, TL.numL_ne _⟩
  · rcases sgn_cases (TL.numL i.natAbs) with ⟨r, e, _⟩ | ⟨_, e2⟩
    · exact absurd (show 45 ∈ TL.numL i.natAbs by rw [e]; exact List.mem_cons_self) (TL.numL_free (.inl (by decide)))
    · rw [e2]
      exact ⟨TL.numL_digits _, TL.numL_ne _⟩
theorem worth_intL (i : Int) : worth (intL i) = i := by
  unfold intL
  split
  · show -((NumText.digitsVal (TL.numL i.natAbs) : Nat) : Int) = i
    rw [TL.numL_val]
    omega
  · rcases sgn_cases (TL.numL i.natAbs) with ⟨r, e, _⟩ | ⟨_, e2⟩
    · exact absurd (show 45 ∈ TL.numL i.natAbs by rw [e]; exact List.mem_cons_self) (TL.numL_free (.inl (by decide)))
    · unfold worth
      rw [e2]
      show ((NumText.digitsVal (TL.numL i.natAbs) : Nat) : Int) = i
      rw [TL.numL_val]
      omega
theorem numO_intL {i : Int} (h : (sgn (intL i)).2.length ≤ 30) : numO (intL i) = some i := by
  obtain ⟨h1, h2⟩ := intL_digits i
  have hd : digOk (sgn (intL i)).2 = true := digOk_iff.mpr ⟨List.length_pos_iff.mpr h2, h, h1⟩
  have hz : zeroed (intL i) = false := (back_iff hd).mp (by rw [worth_intL])
  unfold numO
  rw [hd, hz, worth_intL]
  rfl
/-! ### texts of spans -/
theorem val_lt : ∀ r : List Nat, NumText.AllDigits r → NumText.digitsVal r < 10 ^ r.length := by
  refine snocInd (fun _ => by show 0 < 10 ^ 0; decide) ?_
  intro r c ih hd
  have hc := hd c (by simp)
  have h1 := ih fun x hx => hd x (List.mem_append_left _ hx)
  rw [val_snoc, List.length_append, List.length_singleton, Nat.pow_succ]
  omega
theorem log_lt {n : Nat} (h : n < 10 ^ 30) : n.log2 < 1920 := by
  by_cases h0 : n = 0
  · rw [h0]
    decide
  · exact Nat.lt_trans ((Nat.log2_lt h0).mpr (Nat.lt_trans h (show 10 ^ 30 < 2 ^ 100 by decide))) (by decide)
theorem worth_log {w : List Nat} (h : digOk (sgn w).2 = true) : (worth w).natAbs.log2 < 1920 := by
  obtain ⟨_, h2, h3⟩ := digOk_iff.mp h
  have h4 := val_lt _ h3
  have h5 : NumText.digitsVal (sgn w).2 < 10 ^ 30 := Nat.lt_of_lt_of_le h4 (Nat.pow_le_pow_right (by decide) h2)
  refine log_lt ?_
  unfold worth
  split <;> omega
theorem str_nil {w : Str} : (w == ("" : Str)) = (tl w).isEmpty := by
  cases h : tl w with
  | nil =>
    have : w = ("" : Str) := TL.ext_tl h
    rw [this]
    rfl
  | cons a r =>
    rw [beq_eq_false_iff_ne.mpr]
    · rfl
    · intro e
      rw [e] at h
      cases h
theorem minus_tl : TL.tl ("-" : Str) = [45] := by decide +kernel
theorem dots_tl : TL.tl (".." : Str) = [46, 46] := by decide +kernel
theorem rm_tl (w : Str) : tl (Txt.removeprefix w ("-" : Str)) = (sgn (tl w)).2 := by
  have hy : TL.tl ("-" : Str) ≠ [] := by rw [minus_tl]; simp
  have hat := TL.at_iff (x := w) hy 0
  rw [minus_tl, List.drop_zero] at hat
  have hl : ("-" : Str).length = 1 := by decide +kernel
  have hw := TL.len_tl w
  unfold Txt.removeprefix
  rcases sgn_cases (tl w) with ⟨r, e, e2⟩ | ⟨hh, e2⟩
  · have hp : TL.pre [45] (tl w) = true := by rw [e]; rfl
    have hs := (hat.mpr hp).2
    rw [if_pos hs, hl, e2]
    show tl (if w.length - 1 == w.length then w else PySem.Builtin.Str.strSub w 1 w.length) = r
    have hlen : w.length = r.length + 1 := by
      rw [hw]
      show (tl w).length = _
      rw [e]
      rfl
    rw [if_neg (by rw [beq_iff_eq]; omega)]
    show TL.tl _ = _
    rw [TL.tl_strSub_end]
    show (tl w).drop 1 = r
    rw [e]
    rfl
  · have hs : ¬ PySem.Builtin.Str.subAt w ("-" : Str) 0 = true := by
      intro hs
      cases hc : tl w with
      | nil =>
        have : w = ("" : Str) := TL.ext_tl hc
        rw [this] at hs
        revert hs
        decide +kernel
      | cons a r =>
        have hp := hat.mp ⟨by rw [hl, hw]; show 0 + 1 ≤ (tl w).length; rw [hc]; simp, hs⟩
        have hc' : TL.tl w = a :: r := hc
        rw [hc'] at hp
        rw [hc] at hh
        have h2 : ((a :: r).take 1 == [45]) = true := hp
        apply hh
        simpa using h2
    rw [if_neg hs, e2]
    rfl
theorem cut_head (x : Str) (i : Nat) (h : i ≤ x.length) : cutS x none (some (i : Int)) = PySem.Builtin.Str.strSub x 0 i := by
  refine TL.ext_tl ?_
  rw [TL.tl_strSub]
  unfold cutS
  rw [TL.tl_mk, HT.sIx_none, HT.sIx_nat, Nat.min_eq_left h]
theorem cut_tail (x : Str) (i : Nat) (h : i ≤ x.length) : cutS x (some (i : Int)) none = PySem.Builtin.Str.strSub x i x.length := by
  refine TL.ext_tl ?_
  rw [TL.tl_strSub]
  unfold cutS
  rw [TL.tl_mk, HT.sIx_none, HT.sIx_nat, Nat.min_eq_left h]
theorem cut_cases (x : Str) : (Txt.find x ("..") = -1 ∧ Txt.partition x ".." = (x, Str.empty, Str.empty)) ∨ ∃ i : Nat, i + 2 ≤ x.length ∧ Txt.find x ".." = (i : Int) ∧ Txt.partition x ".." = (cutS x none (some (i : Int)), (".." : Str), cutS x (some ((i : Int) + 2)) none) := by
  have hl : (".." : Str).length = 2 := by decide +kernel
  rcases PyProof.Rows.find_whole x ".." with ⟨e1, n1⟩ | ⟨i, e1, a1, n1⟩
  · rcases PyProof.Rows.partition_whole x ".." with ⟨e2, n2⟩ | ⟨j, e2, a2, n2⟩
    · exact .inl ⟨e1, e2⟩
    · exact absurd a2 (n1 j)
  · rcases PyProof.Rows.partition_whole x ".." with ⟨e2, n2⟩ | ⟨j, e2, a2, n2⟩
    · exact absurd a1 (n2 i)
    · have hij : i = j := by
        by_cases h1 : i < j
        · exact absurd a1 (n2 i h1)
        · by_cases h2 : j < i
          · exact absurd a2 (n1 j h2)
          · omega
      subst hij
      have hle := a1.1
      rw [hl] at hle e2
      refine .inr ⟨i, hle, e1, ?_⟩
      rw [e2, cut_head x i (by omega)]
      have := cut_tail x (i + 2) hle
      rw [Int.natCast_add] at this
      rw [← this]
      rfl
/-- a limit that a text is -/
def limT (w : Str) : Option (Option Int) := if (w == ("" : Str)) = true then some none else (numO (tl w)).map some
def pairO : Option (Option Int) → Option (Option Int) → Option Span
  | some a, some b => if okS (a, b) = true then some (a, b) else none
  | _, _ => none
/-- the span that a text is -/
def rdO (x : Str) : Option Span := if (Txt.find x ".." = -1) then none else pairO (limT (Txt.partition x "..").1) (limT (Txt.partition x "..").2.2)
def rdT : Option PyData → Option Span
  | some (.str x) => rdO x
  | _ => none
theorem numO_nil : numO (tl ("" : Str)) = none := by decide +kernel
/-- the number or None that the law takes -/
theorem limT_num {w : Str} {o : Option Int} (h : limT w = some o) : limV o = limV (numO (tl w)) := by
  unfold limT at h
  split at h
  · rename_i e
    have : w = ("" : Str) := by simpa using e
    cases h
    rw [this, numO_nil]
  · cases hn : numO (tl w) with
    | none => rw [hn] at h; cases h
    | some n => rw [hn] at h; cases h; rfl
theorem limT_none {w : Str} : limT w = none ↔ ((w == ("" : Str)) = false ∧ numO (tl w) = none) := by
  unfold limT
  cases e : w == ("" : Str) with
  | true => simp
  | false =>
    cases hn : numO (tl w) with
    | none => simp
    | some n => simp
def limS : Option Int → Str
  | none => ""
  | some i => Str.ofString (toString i)
def spS (s : Span) : Str := limS s.1 ++ ".." ++ limS s.2
def smO : Option Int → Prop
  | none => True
  | some i => i.natAbs < 10 ^ 30
theorem intL_len {i : Int} (h : i.natAbs < 10 ^ 30) : (sgn (intL i)).2.length ≤ 30 ∧ (intL i).length ≤ 31 := by
  have h1 := TL.numL_len (k := 30) (by decide) h
  unfold intL
  split
  · exact ⟨h1, by rw [List.length_cons]; omega⟩
  · rcases sgn_cases (TL.numL i.natAbs) with ⟨r, e, _⟩ | ⟨_, e2⟩
    · exact absurd (show 45 ∈ TL.numL i.natAbs by rw [e]; exact List.mem_cons_self) (TL.numL_free (.inl (by decide)))
    · rw [e2]
      exact ⟨h1, by omega⟩
theorem intL_mem {i : Int} {c : Nat} (h : c ∈ intL i) : c = 45 ∨ (48 ≤ c ∧ c ≤ 57) := by
  unfold intL at h
  split at h
  · rcases List.mem_cons.mp h with h | h
    · exact .inl h
    · exact .inr (TL.numL_digits _ c h)
  · exact .inr (TL.numL_digits _ c h)
theorem limS_tl (o : Option Int) : tl (limS o) = match o with | none => [] | some i => intL i := by
  cases o with
  | none => rfl
  | some i => exact tl_int i
theorem limS_ok {o : Option Int} (h : smO o) : sOk 31 (limS o) := by
  have e := limS_tl o
  cases o with
  | none => exact ⟨by decide, by decide +kernel⟩
  | some i =>
    refine ⟨?_, strOk_iff.mpr fun c hc => ?_⟩
    · rw [TL.len_tl]
      show (tl (limS (some i))).length ≤ 31
      rw [e]
      exact (intL_len h).2
    · have hc' : c ∈ tl (limS (some i)) := hc
      rw [e] at hc'
      rcases intL_mem hc' with q | q <;> omega
theorem limS_free (o : Option Int) : 46 ∉ tl (limS o) := by
  rw [limS_tl]
  cases o with
  | none => simp
  | some i =>
    intro h
    rcases intL_mem h with q | q <;> omega
theorem limS_back {o : Option Int} (h : smO o) : limT (limS o) = some o := by
  cases o with
  | none => rfl
  | some i =>
    have e : tl (limS (some i)) = intL i := tl_int i
    unfold limT
    rw [str_nil, e]
    have hd := intL_digits i
    have hn : intL i ≠ [] := fun z => by
      rw [z] at hd
      exact hd.2 rfl
    have hb : (intL i).isEmpty = false := by
      cases h2 : intL i with
      | nil => exact absurd h2 hn
      | cons a r => rfl
    rw [hb, numO_intL (intL_len h).1]
    rfl
theorem spS_cut (s : Span) : Txt.partition (spS s) ".." = (limS s.1, (".." : Str), limS s.2) := TL.partition_app (s := 46) (S := [46]) dots_tl (limS_free s.1)
theorem spS_back {s : Span} (o : okS s = true) (h1 : smO s.1) (h2 : smO s.2) : rdO (spS s) = some s := by
  unfold rdO
  rw [if_neg, spS_cut, limS_back h1, limS_back h2]
  · show (if okS (s.1, s.2) = true then some (s.1, s.2) else none) = some s
    rw [if_pos o]
  · intro e
    rcases cut_cases (spS s) with ⟨_, e2⟩ | ⟨i, _, e2, _⟩
    · rw [spS_cut] at e2
      have := congrArg (fun q => tl q.2.1) e2
      revert this
      show TL.tl (".." : Str) = [] → False
      rw [dots_tl]
      simp
    · rw [e] at e2
      omega
theorem spS_ok {s : Span} (h1 : smO s.1) (h2 : smO s.2) : sOk 64 (spS s) := by
  have := ((limS_ok h1).app (show sOk 2 (".." : Str) from ⟨by decide +kernel, by decide +kernel⟩)).app (limS_ok h2)
  exact this.mono (by decide)
theorem spS_join (s : Span) : Txt.join ".." [limS s.1, limS s.2] = spS s := by
  refine TL.ext_tl ?_
  rw [TL.join_eq, TL.tl_join]
  unfold spS
  rw [TL.tl_append, TL.tl_append, List.append_assoc]
  rfl
theorem emp_app (a : Str) : Str.empty ++ a = a := TL.ext_tl (by rw [TL.tl_append]; rfl)
theorem dig_is (c : Nat) : (!decide (([c] : List Nat) < [48]) && !decide (([57] : List Nat) < [c])) = isDig c := by
  unfold isDig
  rw [Bool.eq_iff_iff, Bool.and_eq_true, Bool.and_eq_true, decide_eq_true_iff, decide_eq_true_iff, Bool.not_eq_true', Bool.not_eq_true', decide_eq_false_iff_not, decide_eq_false_iff_not]
  simp only [List.cons_lt_cons_iff, List.not_lt_nil, and_false, or_false]
  omega
theorem dig_in (c : Nat) : decide (c ∈ ("0123456789" : Str).cps.toList) = isDig c := by
  have e : ("0123456789" : Str).cps.toList = [48, 49, 50, 51, 52, 53, 54, 55, 56, 57] := by decide +kernel
  rw [e]
  unfold isDig
  rw [Bool.eq_iff_iff, Bool.and_eq_true, decide_eq_true_iff, decide_eq_true_iff, decide_eq_true_iff]
  simp only [List.mem_cons, List.not_mem_nil, or_false]
  omega
theorem back_eq {w : Str} (h : digOk (sgn (tl w)).2 = true) : (Str.ofString (toString (worth (tl w))) == w) = !zeroed (tl w) := by
  have hb := back_iff h
  cases hz : zeroed (tl w) with
  | false =>
    have e : Str.ofString (toString (worth (tl w))) = w := TL.ext_tl (by
      show tl _ = tl _
      rw [tl_int]
      exact hb.mpr hz)
    rw [e]
    simp
  | true =>
    rw [beq_eq_false_iff_ne.mpr]
    · rfl
    · intro e
      have : intL (worth (tl w)) = tl w := by
        rw [← tl_int, e]
      have := hb.mp this
      rw [hz] at this
      cases this
theorem digOk_len {w : Str} (h : digOk (sgn (tl w)).2 = true) : w.length ≤ 31 := by
  obtain ⟨_, h2, _⟩ := digOk_iff.mp h
  have e : w.length = (tl w).length := TL.len_tl w
  rw [e]
  rcases sgn_cases (tl w) with ⟨r, e1, e2⟩ | ⟨_, e2⟩
  · rw [e2] at h2
    have h3 : r.length ≤ 30 := h2
    rw [e1, List.length_cons]
    omega
  · rw [e2] at h2
    have h3 : (tl w).length ≤ 30 := h2
    omega
/-- the cut, as the program makes it -/
theorem cut_parts (x : Str) (hx : x.length ≤ 1000) : ∃ low dots high : Str, Txt.partition x ".." = (low, dots, high) ∧ low.length ≤ 1000 ∧ high.length ≤ 1000 ∧ rdO x = if (dots == ("" : Str)) = true then none else pairO (limT low) (limT high) := by
  have he : (".." : Str) ≠ ("" : Str) := fun q => by
    have := congrArg TL.tl q
    rw [dots_tl] at this
    cases this
  rcases cut_cases x with ⟨e1, e2⟩ | ⟨i, hi, e1, e2⟩
  · refine ⟨_, _, _, e2, hx, by show 0 ≤ 1000; decide, ?_⟩
    unfold rdO
    rw [if_pos e1]
    rfl
  · refine ⟨_, _, _, e2, Nat.le_trans (cutS_length _ _ _) hx, Nat.le_trans (cutS_length _ _ _) hx, ?_⟩
    unfold rdO
    rw [if_neg (by rw [e1]; omega), e2, if_neg (by simpa using he)]
theorem minus_is (w : Str) : (cutS w none (some (1 : Int)) == ("-" : Str)) = (sgn (tl w)).1 := by
  have e : TL.tl (cutS w none (some (1 : Int))) = (tl w).take 1 := by
    unfold cutS
    rw [TL.tl_mk, HT.sIx_none, show (some (1 : Int)) = some ((1 : Nat) : Int) from rfl, HT.sIx_nat]
    show List.take (min 1 w.length - 0) (List.drop 0 (tl w)) = _
    have hw : w.length = (tl w).length := TL.len_tl w
    rw [List.drop_zero, hw]
    cases tl w with
    | nil => rfl
    | cons a r => simp
  rcases sgn_cases (tl w) with ⟨r, e1, e2⟩ | ⟨hh, e2⟩
  · rw [e2]
    have : cutS w none (some (1 : Int)) = ("-" : Str) := TL.ext_tl (by rw [e, e1, minus_tl]; rfl)
    rw [this]
    show (("-" : Str) == ("-" : Str)) = true
    decide +kernel
  · rw [e2]
    refine beq_eq_false_iff_ne.mpr fun q => hh ?_
    have := congrArg TL.tl q
    rw [e, minus_tl] at this
    cases h : tl w with
    | nil => rw [h] at this; cases this
    | cons a r =>
      rw [h] at this
      simpa using this
theorem cut1_tl (w : Str) (h : (sgn (tl w)).1 = true) : tl (cutS w (some (1 : Int)) none) = (sgn (tl w)).2 := by
  rcases sgn_cases (tl w) with ⟨r, e1, e2⟩ | ⟨hh, e2⟩
  · have hw : w.length = (tl w).length := TL.len_tl w
    have h1 : (1 : Nat) ≤ w.length := by rw [hw, e1]; simp
    have := cut_tail w 1 h1
    rw [show (1 : Int) = ((1 : Nat) : Int) from rfl, this, e2]
    show TL.tl _ = _
    rw [TL.tl_strSub_end]
    show (tl w).drop 1 = r
    rw [e1]
    rfl
  · rw [e2] at h
    cases h
theorem zero_tl : TL.tl ("0" : Str) = [48] := by decide +kernel
theorem zero_is (w : Str) : (w == ("0" : Str)) = (tl w == [48]) := by
  by_cases h : tl w = [48]
  · have : w = ("0" : Str) := TL.ext_tl (by rw [zero_tl]; exact h)
    rw [this]
    decide +kernel
  · rw [beq_eq_false_iff_ne.mpr h]
    refine beq_eq_false_iff_ne.mpr fun q => h ?_
    rw [q]
    exact zero_tl
theorem zeroed_is (w : Str) : zeroed (tl w) = ((sgn (tl w)).2.head? == some 48 && !(w == ("0" : Str))) := by
  rw [zero_is]
  rfl
theorem sign_is (c : Nat) : ((⟨#[c]⟩ : Str) == ("0" : Str)) = (some c == some 48) := by
  rw [zero_is]
  show ([c] == [48]) = _
  rw [Bool.eq_iff_iff, beq_iff_eq, beq_iff_eq]
  simp
/-- the places of the words that are no limits -/
def badK (a b : Option (Option Int)) (i : Nat) : List Int := (([((0 : Int), a), (1, b)].take i).filter fun q => q.2.isNone).map (·.1)
theorem badK_len (a b : Option (Option Int)) (i : Nat) : (badK a b i).length ≤ 2 := by
  unfold badK
  rw [List.length_map]
  refine Nat.le_trans (List.length_filter_le _ _) ?_
  rw [List.length_take]
  exact Nat.min_le_right _ _
theorem badK_some (a b : Option Int) : (badK (some a) (some b) 2).isEmpty = true := rfl
theorem badK_none {a b : Option (Option Int)} (h : a = none ∨ b = none) : (badK a b 2).isEmpty = false := by
  rcases h with rfl | rfl
  · rfl
  · cases a <;> rfl
theorem pairO_none {a b : Option (Option Int)} (h : a = none ∨ b = none) : pairO a b = none := by
  rcases h with rfl | rfl
  · rfl
  · cases a <;> rfl
/-! ### x in t, t a tuple, data of any depth -/
section
variable {X : Cx}
def rInT (K : PySem.W.Frag) : R2 := fun x y H Q => ∃ d ds, Dp K H x d ∧ Dp K H y (.tuple ds) ∧ SeqAt.shaped d = true ∧ SeqAt.shaped (.tuple ds) = true ∧ Q (.bl (ds.any fun z => PyData.eqv z d)) H
theorem op_inT (hu : X.A.units + 65 < cLine) : OpR X (compareOp .In) (rInT X.K) := by
  intro pins s σ H x y v u Q I rx ry h
  obtain ⟨d, ds, hd, he, sd, se, q⟩ := h
  obtain ⟨as, r1⟩ := Dp.reads I d x v hd rx
  obtain ⟨bs, r2⟩ := Dp.reads I (.tuple ds) y u he ry
  exact SeqAt.in_tuple_reads r2 r1 (SeqAt.canLay_of_shaped se) (SeqAt.canLay_of_shaped sd) (PyProof.Rows.room_in_shaped sd hu) ⟨.bl _, H, I, rfl, q⟩
end
/-! ### what stands written at the top: tuples of texts, dicts of such -/
def seqK (K : PySem.W.Frag) (a : Addr) : Option (List Value) := match K.lookup a with
  | some ⟨.type c, _, .seq its _, _⟩ => if (c == "tuple" && decide (its.size ≤ 1000)) = true then some its.toList else none
  | _ => none
def mapO {α β : Type} (f : α → Option β) : List α → Option (List β)
  | [] => some []
  | x :: r => (f x).bind fun y => (mapO f r).bind fun ys => some (y :: ys)
def datK (K : PySem.W.Frag) : Nat → Value → Option PyData
  | n, .str x _ => some (.str x)
  | n + 1, .ref a => (seqK K a).bind fun us => (mapO (datK K n) us).bind fun ds => some (.tuple ds)
  | _, _ => none
def nsD (K : PySem.W.Frag) (a : Addr) (x : Str) : Option PyData := match PySem.W.nsIn K a x with
  | some (some u) => datK K 4 u
  | _ => none
theorem seqK_ok {K : PySem.W.Frag} {a : Addr} {us : List Value} {xs : List V} (h : seqK K a = some us) (r : Vals xs us) (H : Hp) : SqT K H a xs := by
  unfold seqK at h
  split at h
  · rename_i c dd its n sl q
    split at h
    · rename_i z
      rw [Bool.and_eq_true] at z
      have e1 : c = "tuple" := of_decide_eq_true (by simpa using z.1)
      have e2 := of_decide_eq_true z.2
      have e3 : its.toList = us := Option.some.inj h
      subst e1 e3
      exact .inr ⟨_, its, n, q, rfl, rfl, Nat.le_trans e2 (by decide), r⟩
    · cases h
  · cases h
mutual
theorem datK_ok {K : PySem.W.Frag} : ∀ (n : Nat) {u : Value} {d : PyData}, datK K n u = some d → ∃ v, RelV v u ∧ ∀ H, Dp K H v d
  | 0, .str x t, d, h => by
    have e : PyData.str x = d := Option.some.inj (by simpa [datK] using h)
    subst e
    exact ⟨.str x, ⟨t, rfl⟩, fun H => .str x⟩
  | n + 1, .str x t, d, h => by
    have e : PyData.str x = d := Option.some.inj (by simpa [datK] using h)
    subst e
    exact ⟨.str x, ⟨t, rfl⟩, fun H => .str x⟩
  | n + 1, .ref a, d, h => by
    have h' : ((seqK K a).bind fun us => (mapO (datK K n) us).bind fun ds => some (.tuple ds)) = some d := by simpa [datK] using h
    cases e1 : seqK K a with
    | none => rw [e1] at h'; cases h'
    | some us =>
      rw [e1, Option.bind_some] at h'
      cases e2 : mapO (datK K n) us with
      | none => rw [e2] at h'; cases h'
      | some ds =>
        rw [e2, Option.bind_some] at h'
        have e3 : PyData.tuple ds = d := Option.some.inj h'
        subst e3
        obtain ⟨vs, r, q⟩ := datsK_ok n us e2
        exact ⟨.ref a, rfl, fun H => .tup (seqK_ok e1 r H) (q H)⟩
theorem datsK_ok {K : PySem.W.Frag} : ∀ (n : Nat) (us : List Value) {ds : List PyData}, mapO (datK K n) us = some ds → ∃ vs, Vals vs us ∧ ∀ H, DpAll K H vs ds
  | n, [], ds, h => by
    have e : [] = ds := Option.some.inj h
    subst e
    exact ⟨[], .nil, fun H => .nil⟩
  | n, u :: r, ds, h => by
    have h' : ((datK K n u).bind fun y => (mapO (datK K n) r).bind fun ys => some (y :: ys)) = some ds := h
    cases e1 : datK K n u with
    | none => rw [e1] at h'; cases h'
    | some d =>
      rw [e1, Option.bind_some] at h'
      cases e2 : mapO (datK K n) r with
      | none => rw [e2] at h'; cases h'
      | some es =>
        rw [e2, Option.bind_some] at h'
        have e3 : d :: es = ds := Option.some.inj h'
        subst e3
        obtain ⟨v, rv, qv⟩ := datK_ok n e1
        obtain ⟨vs, rvs, qvs⟩ := datsK_ok n r e2
        exact ⟨v :: vs, .cons rv rvs, fun H => .cons (qv H) (qvs H)⟩
end
/-- an item of a dict of the top -/
theorem nsD_ok {K : PySem.W.Frag} {w : World} {a : Addr} {tb : List (Str × PyData)} (l : ∃ es n, K.lookup a = some ⟨.type "dict", none, .dict es n, #[]⟩ ∧ PySem.W.KeysLit w.params es.toList) (h : tb.map (fun p => nsD K a p.1) = tb.map fun p => some p.2)
    {x : Str} {d : PyData} (m : (x, d) ∈ tb) : ∃ v, KDct K w a x v ∧ ∀ H, Dp K H v d := by
  have e : nsD K a x = some d := by
    have : ∀ {l : List (Str × PyData)}, l.map (fun p => nsD K a p.1) = l.map (fun p => some p.2) → (x, d) ∈ l → nsD K a x = some d := by
      intro l
      induction l with
      | nil => intro _ m; cases m
      | cons p r ih =>
        intro hl m
        rw [List.map_cons, List.map_cons] at hl
        injection hl with h1 h2
        rcases List.mem_cons.mp m with q | q
        · subst q; exact h1
        · exact ih h2 q
    exact this h m
  obtain ⟨es, n, hl, hk⟩ := l
  unfold nsD at e
  split at e
  · rename_i u q
    obtain ⟨v, rv, qv⟩ := datK_ok 4 e
    exact ⟨v, ⟨es, n, u, hl, hk, q, rv⟩, qv⟩
  · cases e
theorem relref {v : V} {a : Addr} (h : RelV v (.ref a)) : v = .ref a := by
  cases v with
  | ref b => cases h; rfl
  | _ => first | cases h; done | exact (by obtain ⟨_, h⟩ := h; exact absurd h (by simp))
theorem u65 {A : Around} {k : Nat} (hr : Room k A) : A.units + 65 < cLine := by
  have := hr.un
  omega
theorem dp_three {K : PySem.W.Frag} {H : Hp} {xs : List V} {ds : List PyData} (h : DpAll K H xs ds) (e : xs.length = 3) : ∃ x y z d e f, xs = [x, y, z] ∧ ds = [d, e, f] ∧ Dp K H x d ∧ Dp K H y e ∧ Dp K H z f := by
  match xs, ds, h, e with
  | [x, y, z], [d, e, f], .cons h1 (.cons h2 (.cons h3 .nil)), _ => exact ⟨x, y, z, d, e, f, rfl, rfl, h1, h2, h3⟩
/-! ### names drawn -/
/-- the items of l, in another order -/
def sp_mixed : Sp := fun vs H Q _ => ∃ (H0 : Hp) (p l : Addr) (n : Nat) (xs : List V), vs = [.ref p, .ref l] ∧ BoxIn H0 H p n ∧ H l = some (.lst xs) ∧ xs.length ≤ 100 ∧ n + xs.length < 1000000 ∧
  ∀ (q : Addr) (H' : Hp) (ys : List V), Same H0 H' → H0 q = none → q ≠ p → H' q = some (.lst ys) → ys.Perm xs → BoxIn H0 H' p (n + xs.length) → Q (.ref q) H'
/-- m names -/
def sp_names : Sp := fun vs H Q _ => ∃ (H0 : Hp) (p : Addr) (n m : Nat), vs = [.ref p, .int m] ∧ BoxIn H0 H p n ∧ m ≤ 13 ∧ n + 40 < 1000000 ∧
  ∀ (q : Addr) (H' : Hp) (ss : List Str), Same H0 H' → H0 q = none → q ≠ p → H' q = some (.lst (ss.map V.str)) → ss.length = m → (∀ s ∈ ss, sOk 16 s) → (∀ s ∈ ss, nameS s = true ∧ s ≠ ("pqz" : Str) ∧ s ≠ ("zzzz" : Str)) → ss.Nodup → BoxIn H0 H' p (n + 40) → Q (.ref q) H'
theorem strs_of {W : List Str} : ∀ {xs : List V}, (∀ y ∈ xs, ∃ s, s ∈ W ∧ y = V.str s) → ∃ ss : List Str, xs = ss.map V.str ∧ ∀ s ∈ ss, s ∈ W
  | [], _ => ⟨[], rfl, fun s h => by cases h⟩
  | x :: r, h => by
    obtain ⟨s, hs, rfl⟩ := h x List.mem_cons_self
    obtain ⟨ss, rfl, h2⟩ := strs_of (xs := r) fun y hy => h y (List.mem_cons_of_mem _ hy)
    refine ⟨s :: ss, rfl, fun y hy => ?_⟩
    rcases List.mem_cons.mp hy with rfl | q
    · exact hs
    · exact h2 y q
/-! ### the names drawn are names, all different -/
def nmC (stem : Str) (w c : Nat) : Str :=
  let nm : Str := if w = 0 then stem ++ ⟨#[c]⟩ else if w = 1 then (⟨#[c]⟩ : Str) ++ stem else ⟨#[c]⟩
  if nm = "table" then "tables" else nm
def stemsL : List Str := ["", "a", "tabl", "rest", "part", "zzzzzzz"]
theorem nmC_ok : ∀ stem ∈ stemsL, ∀ w ∈ List.range 3, ∀ c ∈ List.range 26, nameS (nmC stem w (97 + c)) = true ∧ nmC stem w (97 + c) ≠ ("pqz" : Str) ∧ nmC stem w (97 + c) ≠ ("zzzz" : Str) := by decide +kernel
theorem nmC_ne : ∀ stem ∈ stemsL, ∀ w ∈ List.range 3, ∀ c ∈ List.range 26, ∀ d ∈ List.range 26, c ≠ d → nmC stem w (97 + c) ≠ nmC stem w (97 + d) ∧ nmC stem 0 (97 + c) ≠ nmC stem w (97 + d) := by decide +kernel
def nmS (stem : Str) (f st zw : Int) (i : Nat) : Str := nmC stem (if i = 0 then 0 else zw.toNat) (97 + ((f + st * (i : Int)) % 26).toNat)
theorem sign_ne {f st : Int} (hs : st ∈ ([1, 3, 5, 7, 9, 11] : List Int)) {i j : Nat} (hi : i < 14) (hj : j < 14) (h : i ≠ j) : ((f + st * (i : Int)) % 26).toNat ≠ ((f + st * (j : Int)) % 26).toNat := by
  simp only [List.mem_cons, List.not_mem_nil, or_false] at hs
  rcases hs with rfl | rfl | rfl | rfl | rfl | rfl
  all_goals omega
theorem sign_lt {f st : Int} {i : Nat} : ((f + st * (i : Int)) % 26).toNat ∈ List.range 26 := by
  rw [List.mem_range]
  omega
theorem nmS_ok {stem : Str} (hst : stem ∈ stemsL) {f st zw : Int} (h0 : 0 ≤ zw) (h1 : zw < 3) (i : Nat) : nameS (nmS stem f st zw i) = true ∧ nmS stem f st zw i ≠ ("pqz" : Str) ∧ nmS stem f st zw i ≠ ("zzzz" : Str) := by
  refine nmC_ok stem hst _ ?_ _ sign_lt
  rw [List.mem_range]
  split <;> omega
theorem nmS_ne {stem : Str} (hst : stem ∈ stemsL) {f st zw : Int} (hs : st ∈ ([1, 3, 5, 7, 9, 11] : List Int)) (h0 : 0 ≤ zw) (h1 : zw < 3) {i j : Nat} (hi : i < 14) (hj : j < 14) (h : i < j) : nmS stem f st zw i ≠ nmS stem f st zw j := by
  have ne := sign_ne (f := f) hs hi hj (Nat.ne_of_lt h)
  have hw : zw.toNat ∈ List.range 3 := by rw [List.mem_range]; omega
  have hj0 : j ≠ 0 := by omega
  have k := nmC_ne stem hst _ hw _ (sign_lt (f := f) (st := st) (i := i)) _ (sign_lt (f := f) (st := st) (i := j)) ne
  unfold nmS
  rw [if_neg hj0]
  by_cases hi0 : i = 0
  · rw [if_pos hi0]
    exact k.2
  · rw [if_neg hi0]
    exact k.1
theorem nmS_nodup {stem : Str} (hst : stem ∈ stemsL) {f st zw : Int} (hs : st ∈ ([1, 3, 5, 7, 9, 11] : List Int)) (h0 : 0 ≤ zw) (h1 : zw < 3) {m : Nat} (hm : m ≤ 13) : ((List.range m).map (nmS stem f st zw)).Nodup := by
  unfold List.Nodup
  rw [List.pairwise_map]
  refine List.Pairwise.imp_of_mem (fun {a b} ha hb hlt => ?_) (List.pairwise_lt_range (n := m))
  have ha := List.mem_range.mp ha
  have hb := List.mem_range.mp hb
  exact nmS_ne hst hs h0 h1 (by omega) (by omega) hlt
def wordsL : List Str := ["begin", "empty", "rest", "step", "end", "look", "old", "new", "put", "part", "move", "split", "lock"]
theorem wordsL_ok : (∀ s ∈ wordsL, nameS s = true ∧ s ≠ ("pqz" : Str) ∧ s ≠ ("zzzz" : Str)) ∧ wordsL.Nodup := by
  constructor
  · decide +kernel
  · decide +kernel
theorem nodup_of_map {ss : List Str} (h : (ss.map V.str).Nodup) : ss.Nodup := by
  unfold List.Nodup at h ⊢
  rw [List.pairwise_map] at h
  exact h.imp fun k e => k (by rw [e])
theorem nodup_map {ss : List Str} (h : ss.Nodup) : (ss.map V.str).Nodup := by
  unfold List.Nodup at h ⊢
  rw [List.pairwise_map]
  exact h.imp fun k e => k (by injection e)
/-- the sign at a place, as a number -/
theorem letter_at {z : Int} (h0 : 0 ≤ z) (h1 : z < 26) {ch : Nat} (h : atI ("abcdefghijklmnopqrstuvwxyz" : Str).cps.toList z = some ch) : ch = 97 + z.toNat := by
  have all : ∀ n ∈ List.range 26, ("abcdefghijklmnopqrstuvwxyz" : Str).cps.toList[n]? = some (97 + n) := by decide +kernel
  obtain ⟨n, rfl⟩ := Int.eq_ofNat_of_zero_le h0
  have := all n (List.mem_range.mpr (by omega))
  rw [atI_nat this] at h
  injection h with h
  rw [← h]
  rfl
/-- the name at a place of the three forms -/
theorem form_at {a b c : Str} {z : Int} (h0 : 0 ≤ z) (h1 : z < 3) {s : Str} (h : atI [V.str a, .str b, .str c] z = some (.str s)) : s = if z.toNat = 0 then a else if z.toNat = 1 then b else c := by
  obtain ⟨n, rfl⟩ := Int.eq_ofNat_of_zero_le h0
  have : n = 0 ∨ n = 1 ∨ n = 2 := by omega
  rcases this with rfl | rfl | rfl
  all_goals
    cases h
    rfl
/-! ### rules that more than one law wants -/
def filtG (f : PyData → Bool) : List V → List PyData → List V
  | x :: xs, d :: ds => if f d = true then x :: filtG f xs ds else filtG f xs ds
  | _, _ => []
theorem filtG_len (f : PyData → Bool) : ∀ (xs : List V) (ds : List PyData), (filtG f xs ds).length ≤ xs.length
  | [], _ => by simp [filtG]
  | _ :: _, [] => by simp [filtG]
  | x :: xs, d :: ds => by
    have ih := filtG_len f xs ds
    simp only [filtG]
    split
    · simp only [List.length_cons]
      omega
    · simp only [List.length_cons]
      omega
theorem filtG_step {f : PyData → Bool} : ∀ {xs : List V} {ds : List PyData} {i : Nat} {x : V} {d : PyData}, xs[i]? = some x → ds[i]? = some d → filtG f (xs.take (i + 1)) (ds.take (i + 1)) = if f d = true then filtG f (xs.take i) (ds.take i) ++ [x] else filtG f (xs.take i) (ds.take i)
  | [], _, _, _, _, h, _ => by simp at h
  | _ :: _, [], _, _, _, _, h => by simp at h
  | y :: ys, e :: es, 0, x, d, h1, h2 => by
    cases h1
    cases h2
    simp [filtG]
  | y :: ys, e :: es, i + 1, x, d, h1, h2 => by
    have ih := filtG_step (f := f) (xs := ys) (ds := es) (i := i) (x := x) (d := d) (by simpa using h1) (by simpa using h2)
    simp only [List.take_succ_cons, filtG, ih]
    split <;> split <;> simp
theorem filtG_dp {K : PySem.W.Frag} {H : Hp} {f : PyData → Bool} : ∀ {xs : List V} {ds : List PyData}, DpAll K H xs ds → DpAll K H (filtG f xs ds) (ds.filter f)
  | _, _, .nil => by simp [filtG]; exact .nil
  | _, _, .cons (v := v) (d := d) a b => by
    have ih := filtG_dp (f := f) b
    simp only [filtG]
    cases h : f d with
    | true =>
      simp [h]
      exact .cons a ih
    | false =>
      simp [h]
      exact ih
theorem range_filter_step (c : Nat → Bool) (i : Nat) : (List.range (i + 1)).filter c = if c i = true then (List.range i).filter c ++ [i] else (List.range i).filter c := by
  rw [List.range_succ, List.filter_append]
  cases h : c i with
  | true => simp [h]
  | false => simp [h]
theorem dpAll_take {K : PySem.W.Frag} {H : Hp} : ∀ {xs : List V} {ds : List PyData} (n : Nat), DpAll K H xs ds → DpAll K H (xs.take n) (ds.take n)
  | _, _, 0, _ => .nil
  | _, _, _ + 1, .nil => .nil
  | _, _, n + 1, .cons a b => .cons a (dpAll_take n b)
theorem dpAll_drop {K : PySem.W.Frag} {H : Hp} : ∀ {xs : List V} {ds : List PyData} (n : Nat), DpAll K H xs ds → DpAll K H (xs.drop n) (ds.drop n)
  | _, _, 0, h => h
  | _, _, _ + 1, .nil => .nil
  | _, _, n + 1, .cons _ b => dpAll_drop n b
theorem dpAll_app {K : PySem.W.Frag} {H : Hp} : ∀ {xs ys : List V} {ds es : List PyData}, DpAll K H xs ds → DpAll K H ys es → DpAll K H (xs ++ ys) (ds ++ es)
  | _, _, _, _, .nil, h => h
  | _, _, _, _, .cons a b, h => .cons a (dpAll_app b h)
theorem cut_takeV (ys : List V) {i : Nat} (h : i ≤ ys.length) : cutV ys none (some (i : Int)) = ys.take i := by
  unfold cutV
  rw [HT.sIx_none, HT.sIx_nat, List.drop_zero, Nat.sub_zero, Nat.min_eq_left h]
theorem cut_dropV (ys : List V) {i : Nat} (h : i ≤ ys.length) : cutV ys (some (i : Int)) none = ys.drop i := by
  unfold cutV
  rw [HT.sIx_none, HT.sIx_nat, Nat.min_eq_left h]
  exact List.take_of_length_le (by rw [List.length_drop]; exact Nat.le_refl _)
/-- a datum of three deep at most, its texts short -/
theorem in_strs (k : Str) (ss : List Str) : inV (.str k) (ss.map V.str) = decide (k ∈ ss) := by
  unfold inV
  rw [Bool.eq_iff_iff, List.any_eq_true, decide_eq_true_iff]
  constructor
  · rintro ⟨z, hz, e⟩
    obtain ⟨t, ht, rfl⟩ := List.mem_map.mp hz
    have : (t == k) = true := e
    rw [← eq_of_beq this]
    exact ht
  · intro h
    exact ⟨_, List.mem_map.mpr ⟨k, h, rfl⟩, by show (k == k) = true; simp⟩
theorem flat_strs (ss : List Str) : (ss.map V.str).all flatV = true := by
  rw [List.all_eq_true]
  intro x hx
  obtain ⟨s, _, rfl⟩ := List.mem_map.mp hx
  rfl
theorem dpAll_ints {K : PySem.W.Frag} {H : Hp} : ∀ ns : List Int, DpAll K H (ns.map V.int) (ns.map PyData.int)
  | [] => .nil
  | n :: r => .cons (.int n) (dpAll_ints r)
theorem ints_shaped (ns : List Int) : SeqAt.shaped (.list (ns.map PyData.int)) = true := shaped_list (n := 0) (by decide) fun d hd => by
  obtain ⟨i, _, rfl⟩ := List.mem_map.mp hd
  exact ⟨rfl, by simp [PyData.depth]⟩
theorem sure2 {w : Str} {v : V} (h : sureV v = true) : ([.str w, v] : List V).all sureV = true := by
  show (sureV (.str w) && (sureV v && true)) = true
  rw [h]
  rfl
/-! ### objects of own classes: ==, str, made within a try, dicts of data -/
section
open PySem.Spec PySem.Calls PyProof.Rows
section
variable {X : Cx} {CX : CXT} {k : Nat} {f C : Addr} {fd : FuncData} {ps : List Str} {sp : Sp}
/-- x == y by the own __eq__ of x, whatever y is -/
def rEqI (K : PySem.W.Frag) (C : Addr) (sp : Sp) (E : XK) : R2 := fun x y H Q => ∃ (a dx : Addr) (fs : List (Str × V)) (tb : Value), x = .ref a ∧ H a = some (.ins C dx fs) ∧ TyX K H y tb ∧ PySem.W.notFirst K C tb = true ∧ sp [x, y] H Q E
theorem op_eqI {E : XK} (F : FnOk X.prog X.w X.K X.mg X.base CX k f fd ps sp) (hr : Room k X.A) (hb : Binds X.K fd ps []) (hs : PySem.W.findIn X.K (.ref C) "__eq__" = some (some (.ref f))) (hf : PySem.W.isFn X.K (.ref f) = true) (hx : Passes CX X E) : OpR X (compareOp .Eq) (rEqI X.K C sp E) := by
  intro pins s σ H x y v u Q I rx ry h
  obtain ⟨a, dx, fs, tb, rfl, ha, ty, hn, q⟩ := h
  cases (show v = Value.ref a from rx)
  obtain ⟨mA, J, _⟩ := ins_get I.hok ha
  obtain ⟨od, J, _⟩ := J.look
  obtain ⟨Pt, kx, pt, _⟩ := kit_of I ry ty
  obtain ⟨m, hF⟩ := I.fr
  refine PySem.W.cmp_K (op := .Eq) (tb := tb) hr.units0 hF I.ok.mod.kin J (kx.ty _ _ I.kIn pt) hn hs hf ?_
  refine wpAny_mono (run_fn (us := [.ref a, u]) (vs := [.ref a, y]) (ds := []) (dvs := []) F hr hb .nil hx I (.cons rfl (.cons ry .nil)) (by simpa using q)) (fun w s' z => ?_) fun _ _ x => x
  obtain ⟨z', H', I', rz, qz⟩ := z
  exact SlX.cmpback rz ⟨z', H', I', rz, qz⟩
/-- str(x) by the own __str__ of x -/
def rStrI (C : Addr) (sp : Sp) (E : XK) : List V → Hp → VK → Prop := fun xs H Q => ∃ (a dx : Addr) (fs : List (Str × V)), xs = [.ref a] ∧ H a = some (.ins C dx fs) ∧ sp [.ref a] H (fun z H' => ∃ t, z = .str t ∧ Q z H') E
theorem call_strI {E : XK} (F : FnOk X.prog X.w X.K X.mg X.base CX k f fd ps sp) (hr : Room (k + 2) X.A) (hb : Binds X.K fd ps []) (hs : PySem.W.findIn X.K (.ref C) "__str__" = some (some (.ref f))) (hf : PySem.W.isFn X.K (.ref f) = true) (hx : Passes CX X E) : CallR X (.type "str") (rStrI C sp E) := by
  intro pins s σ H xs us Q I r h
  obtain ⟨a, dx, fs, rfl, ha, q⟩ := h
  obtain ⟨u, rfl, ru⟩ := r.one
  cases (show u = Value.ref a from ru)
  obtain ⟨mA, J, _⟩ := ins_get I.hok ha
  obtain ⟨od, J, _⟩ := J.look
  have hr2 : Room k X.A.in1.in1 := (show Room (k + 1) X.A.in1 from Room.in1 hr).in1
  have hl := F.len _ _ _ _ q
  refine PySem.W.kso_call hr2.units0 I.kIn J hs hf (wpAny_call (codeAny_mono (F.run X.A.in1.in1 X.stack s H ⟨[.ref a], []⟩ [.ref a] [.ref a] _ E hr2 I.env0.in1.in1 (by
    have := hb s [.ref a] I.kIn (by simpa using hl)
    simpa using this) (.cons rfl .nil) q) fun r s' hq => ?_))
  cases r with
  | error e => exact hx pins σ H s e s' I hq
  | ok fl =>
    cases fl with
    | ret w =>
      obtain ⟨z, H', I', rz, t, ez, qz⟩ := I.after hq
      subst ez
      obtain ⟨tk, e⟩ := rz
      cases e
      exact ⟨.str t, H', I', ⟨tk, rfl⟩, qz⟩
    | next => exact False.elim hq
    | brk => exact False.elim hq
    | cont => exact False.elim hq
end
section
variable {X : Cx} {CX : CXT} {k : Nat} {f C : Addr} {fd : FuncData} {ps : List Str} {sp : Sp} {x : Str} {p pos : Pos} {e : Expr} {es : List Expr} {t : TA}
theorem run_makeS {E : L2.St → XK} {pins : List (Addr × Obj)} {σ : L2.St} {H : Hp} {s : Shared} {Q : VK} {us : List Value} {vs : List V} (M : Mk X.K C f) (F : FnOk X.prog X.w X.K X.mg X.base CX k f fd ps sp) (hr : Room (k + 1) X.A) (hb : Binds X.K fd ps [])
    (hx : PassesAt CX X σ (E σ)) (I : Inv X pins σ H s) (r : Vals vs us)
    (h : ∀ x dx, H x = none → H dx = none → dx ≠ x → sp (.ref x :: vs) (upd (upd H dx (.own x)) x (.ins C dx [])) (fun v H2 => v = .non ∧ Q (.ref x) H2) (E σ)) :
    wpAny (model X.prog X.w) X.A (call (.ref C) us) (EP X pins σ Q) X.xe s := by
  have hq := h (s.heap.objs.size + 1) s.heap.objs.size (I.hok.fresh (Nat.le_succ _)) (I.hok.fresh (Nat.le_refl _)) (Nat.ne_of_lt (Nat.lt_succ_self _))
  have I2 := Inv.made (C := C) I
  have r2 : Vals (V.ref (s.heap.objs.size + 1) :: vs) (Value.ref (s.heap.objs.size + 1) :: us) := .cons rfl r
  have hl : (Value.ref (s.heap.objs.size + 1) :: us).length = ps.length := by
    have e := r2.length
    rw [F.len _ _ _ _ hq] at e
    exact e.symm
  have bd := hb _ (Value.ref (s.heap.objs.size + 1) :: us) I2.kIn (by rw [List.append_nil]; exact hl)
  rw [List.append_nil] at bd
  refine wpAny_call (make_map (f := f) I.kIn M.makes M.init (beq_iff_eq.mp M.fn) (codeAny_mono (F.run _ X.stack _ _ ⟨Value.ref (s.heap.objs.size + 1) :: us, []⟩ (Value.ref (s.heap.objs.size + 1) :: us) _ _ (E σ) (hr.make C us [])
    (I2.env0.make C us []) bd r2 hq) fun r s' hq' => ?_))
  cases r with
  | error e => exact hx pins _ _ e s' I2 hq'
  | ok fl =>
    cases fl with
    | ret u =>
      obtain ⟨v, H', I3, rv, ev, q3⟩ := I2.after hq'
      subst ev
      exact ⟨rv, ⟨V.ref (s.heap.objs.size + 1), H', I3, rfl, q3⟩⟩
    | next => exact False.elim hq'
    | brk => exact False.elim hq'
    | cont => exact False.elim hq'
/-- C(..), whose __init__ may raise, within a try -/
def tMakeS (C : Addr) (sp : Sp) (E : L2.St → XK) (t : TA) : TE := fun σ H Q => t σ H fun vs H1 => ∀ x dx, H1 x = none → H1 dx = none → dx ≠ x → sp (.ref x :: vs) (upd (upd H1 dx (.own x)) x (.ins C dx [])) (fun v H2 => v = .non ∧ Q (.ref x) H2) (E σ)
theorem pe_makeS {E : L2.St → XK} (M : Mk X.K C f) (F : FnOk X.prog X.w X.K X.mg X.base CX k f fd ps sp) (hr : Room (k + 1) X.A) (hg : Gl X x) (hm : X.mg x = some (.ref C)) (hb : Binds X.K fd ps []) (hx : ∀ σ, PassesAt CX X σ (E σ))
    (ha : PA X (e :: es) t) (hdb : (x == ("__debug__" : Str)) = false := by decide) (he : starEach (e :: es) X.env = (false, eval e X.env) :: starEach es X.env := by rfl) (hpl : (backTo pos (starEach es X.env)).any (·.1) = false := by rfl) :
    PE X (.Call (.Name x p) (e :: es) [] pos) (tMakeS C sp E t) := by
  refine ⟨fun pins s σ H Q I h => ?_⟩
  refine wpAny_Call_Name_kw (ld_glob I hg hm ?_ hdb)
  refine PySem.W.callWith_K (h₀ := X.base) I.ok.mod.kin M.kp (thn (ha.run pos pins s σ H _ I h) fun us s1 ⟨vs, H1, I1, r, q⟩ => ⟨I1.kIn, ?_⟩) he hpl
  exact run_makeS M F hr hb (hx σ) I1 r q
/-- C(k = v, ..) -/
def tMakeKw (C : Addr) (m : Nat) (sp : Sp) (g : List V → List V → List V) (E : L2.St → XK) (tk : TA) : TE := fun σ H Q => tk σ H fun zs H2 => zs.length = m ∧ ∀ x dx, H2 x = none → H2 dx = none → dx ≠ x → sp (g [.ref x] zs) (upd (upd H2 dx (.own x)) x (.ins C dx [])) (fun v H3 => v = .non ∧ Q (.ref x) H3) (E σ)
theorem run_makeKw {E : L2.St → XK} {ks : List Str} {g : {α : Type} → List α → List α → List α} {pins : List (Addr × Obj)} {σ : L2.St} {H : Hp} {s : Shared} {Q : VK} {ws : List Value} {zs : List V} (M : Mk X.K C f) (F : FnOk X.prog X.w X.K X.mg X.base CX k f fd ps sp) (hr : Room (k + 1) X.A)
    (bnd : KwB X.K fd ps 1 ks g) (hx : PassesAt CX X σ (E σ)) (I : Inv X pins σ H s) (rz : Vals zs ws) (l2 : zs.length = ks.length)
    (h : ∀ x dx, H x = none → H dx = none → dx ≠ x → sp (g [.ref x] zs) (upd (upd H dx (.own x)) x (.ins C dx [])) (fun v H2 => v = .non ∧ Q (.ref x) H2) (E σ)) :
    wpAny (model X.prog X.w) X.A (call (.ref C) [] (ks.zip ws)) (EP X pins σ Q) X.xe s := by
  have hq := h (s.heap.objs.size + 1) s.heap.objs.size (I.hok.fresh (Nat.le_succ _)) (I.hok.fresh (Nat.le_refl _)) (Nat.ne_of_lt (Nat.lt_succ_self _))
  have I2 := Inv.made (C := C) I
  have r1 : Vals [V.ref (s.heap.objs.size + 1)] [Value.ref (s.heap.objs.size + 1)] := .cons rfl .nil
  have r2 := bnd.rel (vs := [V.ref (s.heap.objs.size + 1)]) rfl l2 r1 rz
  refine wpAny_call (make_map (f := f) I.kIn M.makes M.init (beq_iff_eq.mp M.fn) (codeAny_mono (F.run _ X.stack _ _ ⟨[Value.ref (s.heap.objs.size + 1)], ks.zip ws⟩ (g [Value.ref (s.heap.objs.size + 1)] ws) _ _ (E σ) (hr.make C [] (ks.zip ws))
    (I2.env0.make C [] (ks.zip ws)) (.of_eq (bnd.to [Value.ref (s.heap.objs.size + 1)] ws rfl (rz.length.symm.trans l2))) r2 hq) fun r s' hq' => ?_))
  cases r with
  | error e => exact hx pins _ _ e s' I2 hq'
  | ok fl =>
    cases fl with
    | ret u =>
      obtain ⟨v, H', I3, rv, ev, q3⟩ := I2.after hq'
      subst ev
      exact ⟨rv, ⟨V.ref (s.heap.objs.size + 1), H', I3, rfl, q3⟩⟩
    | next => exact False.elim hq'
    | brk => exact False.elim hq'
    | cont => exact False.elim hq'
theorem pe_makeKw0 {E : L2.St → XK} {ks : List Str} {g : {α : Type} → List α → List α → List α} {kws : List Keyword} {tk : TA} (M : Mk X.K C f) (F : FnOk X.prog X.w X.K X.mg X.base CX k f fd ps sp) (room : Room (k + 1) X.A) (gl : Gl X x) (m : X.mg x = some (.ref C)) (bnd : KwB X.K fd ps 1 ks g) (px : ∀ σ, PassesAt CX X σ (E σ)) (kw : PK X kws tk)
    (h1 : (backToKw pos (keywordEach kws X.env)).all (·.1.isSome) = true := by rfl) (h2 : (backToKw pos (keywordEach kws X.env)).filterMap (·.1) = ks := by rfl) (h3 : (x == ("__debug__" : Str)) = false := by decide)
    (h4 : ((backTo pos (starEach [] X.env)).any (·.1) || (backToKw pos (keywordEach kws X.env)).any (·.1.isNone)) = false := by rfl) : PE X (.Call (.Name x p) [] kws pos) (tMakeKw C ks.length sp g E tk) := by
  constructor
  intro pins s σ H Q I h
  apply wpAny_Call_Name_kw
  refine ld_glob I gl m ?_ h3
  refine PySem.W.callWith_KW0 (h₀ := X.base) I.ok.mod.kin M.kp h1 ?_ h4
  refine thn (kw.run pos pins s σ H _ I h) fun ws s2 got => ?_
  obtain ⟨zs, H2, I2, rz, l2, q2⟩ := got
  rw [h2]
  exact ⟨I2.kIn, run_makeKw M F room bnd (px σ) I2 rz l2 q2⟩
end
/-- the entries of a dict as data -/
inductive Ents (K : PySem.W.Frag) (H : Hp) : List (Key × V) → List (Key × PyData) → Prop
  | nil : Ents K H [] []
  | cons {k : Key} {v : V} {d : PyData} {r : List (Key × V)} {rd : List (Key × PyData)} : Dp K H v d → SeqAt.shaped d = true → Ents K H r rd → Ents K H ((k, v) :: r) ((k, d) :: rd)
theorem Ents.mono {K : PySem.W.Frag} {H H' : Hp} (s : Same H H') {ks : List (Key × V)} {ds : List (Key × PyData)} (h : Ents K H ks ds) : Ents K H' ks ds := by
  induction h with
  | nil => exact .nil
  | cons a b _ ih => exact .cons (dp_mono s a) b ih
def findD : List (Key × PyData) → Key → Option PyData
  | [], _ => none
  | (j, d) :: r, k => if j = k then some d else findD r k
theorem Ents.at_ {K : PySem.W.Frag} {H : Hp} {ks : List (Key × V)} {ds : List (Key × PyData)} (h : Ents K H ks ds) (k : Key) : (valV ks k = none ∧ findD ds k = none) ∨ ∃ v d, valV ks k = some v ∧ findD ds k = some d ∧ Dp K H v d ∧ SeqAt.shaped d = true := by
  induction h with
  | nil => exact .inl ⟨rfl, rfl⟩
  | @cons j v d r rd a b c ih =>
    by_cases e : j = k
    · exact .inr ⟨v, d, valV_pos e, if_pos e, a, b⟩
    · rw [valV_neg (p := (j, v)) e, show findD ((j, d) :: rd) k = findD rd k from if_neg e]
      exact ih
theorem Ents.len {K : PySem.W.Frag} {H : Hp} {ks : List (Key × V)} {ds : List (Key × PyData)} (h : Ents K H ks ds) : ks.length = ds.length := by
  induction h with
  | nil => rfl
  | cons a b _ ih => exact congrArg (· + 1) ih
def entsEq (dk dl : List (Key × PyData)) : Bool := dk.all fun p => match findD dl p.1 with
  | some e => PyData.eqv p.2 e
  | none => false
section
variable {X : Cx} {pins : List (Addr × Obj)} {σ : L2.St} {H : Hp} {s : Shared}
theorem ents_hits (I : Inv X pins σ H s) (hu : X.A.units + 65 < cLine) {ls : List (Key × V)} {dl : List (Key × PyData)} (el : Ents X.K H ls dl) {vb : List (Key × Value)} (rb : KV ls vb) {ks : List (Key × V)} {dk : List (Key × PyData)} (ek : Ents X.K H ks dk) :
    ∀ {va : List (Key × Value)}, KV ks va → PySem.W.KeqHitsP X.prog X.w X.A.in1 s vb va (entsEq dk dl) := by
  induction ek with
  | nil =>
    intro va ra
    cases ra
    exact .nil
  | @cons k v d r rd a b c ih =>
    intro va ra
    cases ra with
    | @cons p q ps qs h t =>
      obtain ⟨h1, h2⟩ := h
      obtain ⟨key, u⟩ := q
      have h1 : k = key := h1
      subst h1
      have rr : RelO (valV ls k) (valueAt vb k) := rb.val k
      rcases el.at_ k with ⟨e1, e2⟩ | ⟨y, e, e1, e2, de, se⟩
      · rw [e1] at rr
        have hn : valueAt vb k = none := by
          cases hv : valueAt vb k with
          | none => rfl
          | some z =>
            rw [hv] at rr
            exact rr.elim
        have ee : entsEq ((k, d) :: rd) dl = false := by
          unfold entsEq
          rw [List.all_cons, e2]
          rfl
        rw [ee]
        exact .miss hn
      · rw [e1] at rr
        obtain ⟨z, hz, rz⟩ := rr.some_of
        have ee : entsEq ((k, d) :: rd) dl = (PyData.eqv d e && entsEq rd dl) := by
          unfold entsEq
          rw [List.all_cons, e2]
        rw [ee]
        obtain ⟨as, r1⟩ := Dp.reads I d v u a h2
        obtain ⟨bs, r2⟩ := Dp.reads I e y z de rz
        have s1 := shaped_iff.mp b
        have s2 := shaped_iff.mp se
        refine .hit hz (SeqAt.EqAt.eqP (SeqAt.eqAt_reads d e X.A.in1 s u z as bs r1 r2 s1.1 s2.1 ?_)) (ih t)
        have : X.A.in1.units = X.A.units + 1 := rfl
        rw [this]
        have := s1.2
        omega
/-- two dicts whose values are data -/
def rEqDD (K : PySem.W.Frag) : R2 := fun x y H Q => ∃ (a b : Addr) (ks ls : List (Key × V)) (dk dl : List (Key × PyData)), x = .ref a ∧ y = .ref b ∧ H a = some (.dK ks) ∧ H b = some (.dK ls) ∧ Ents K H ks dk ∧ Ents K H ls dl ∧ Q (.bl (dk.length == dl.length && entsEq dk dl)) H
end
theorem op_eqDD {X : Cx} (hu : X.A.units + 65 < cLine) : OpR X (compareOp .Eq) (rEqDD X.K) := by
  intro pins s σ H x y v u Q I rx ry h
  obtain ⟨a, b, ks, ls, dk, dl, rfl, rfl, ea, eb, ek, el, q⟩ := h
  cases (show v = Value.ref a from rx)
  cases (show u = Value.ref b from ry)
  obtain ⟨_, ya, va, ra, da⟩ := (show ObjOk X.prog X.w H s.heap a (.dK ks) from I.hok a _ ea)
  obtain ⟨_, yb, vb, rb, db⟩ := (show ObjOk X.prog X.w H s.heap b (.dK ls) from I.hok b _ eb)
  refine PySem.W.rcP_dicts (knd := mixKind X.prog X.w) (r := entsEq dk dl) ya yb da db (by omega) (fun _ => ents_hits I hu el rb ek ra) _ _ ?_
  have e1 : va.length = dk.length := by rw [← ra.length]; exact ek.len
  have e2 : vb.length = dl.length := by rw [← rb.length]; exact el.len
  rw [e1, e2]
  exact ⟨.bl _, H, I, rfl, q⟩
end
/-- a dict comprehension over what is walked -/
theorem dc_it {J : It} {n : Nat} {G : Hp → Prop} {Y : Nat → Hp → V → Hp → Prop} (w : Walk J n G Y) {g : TG} {tt : TT} {tk tv : TE} {vs : List Nat} {σ : L2.St} {H1 : Hp} {D : Addr} {Qd : Hp → Prop} (Pv : Nat → Hp → Prop) (h0 : Pv 0 (upd H1 D (.dK []))) (hG : ∀ i H, i ≤ n → Pv i H → G H)
    (hs : ∀ i x H H', i < n → Pv i H → Y i H x H' → g x (wipe σ vs) H' fun σ2 H2 => wipe σ2 vs = wipe σ vs ∧ tt σ2 H2 fun b H3 =>
      if b = true then tk σ2 H3 fun y H4 => tv σ2 H4 fun z H5 => ∃ kvs k, y = kV k ∧ H5 D = some (.dK kvs) ∧ kvs.length < sizeLine ∧ Pv (i + 1) (upd H5 D (.dK (putK kvs k z))) else Pv (i + 1) H3) (hd : ∀ H, Pv n H → Qd H) :
    ∃ W : Nat → Nat → Hp → Prop, (∃ m, W 0 m (upd H1 D (.dK []))) ∧ ∀ i m H, W i m H →
      (J.stop i H ∧ Qd H) ∨ (J.go i H ∧ ∃ Nx : Hp → Prop, (∀ H', Nx H' → ∃ m', m' < m ∧ W (i + 1) m' H') ∧ ∀ x H', J.yld i H x H' → g x (wipe σ vs) H' fun σ2 H2 => wipe σ2 vs = wipe σ vs ∧ tt σ2 H2 fun b H3 =>
        if b = true then tk σ2 H3 fun y H4 => tv σ2 H4 fun z H5 => ∃ kvs k, y = kV k ∧ H5 D = some (.dK kvs) ∧ kvs.length < sizeLine ∧ Nx (upd H5 D (.dK (putK kvs k z))) else Nx H3) := by
  refine ⟨fun i m H => m = n - i ∧ i ≤ n ∧ Pv i H, ⟨n, by simp, Nat.zero_le _, h0⟩, ?_⟩
  rintro i m H ⟨rfl, hi, p⟩
  have q := hG i H hi p
  by_cases hlt : i < n
  · exact .inr ⟨w.goes i H hlt q, Pv (i + 1), fun H' p' => ⟨n - (i + 1), by omega, rfl, hlt, p'⟩, fun x H' y => hs i x H H' hlt p (w.yields i H x H' hlt q y)⟩
  · have e : i = n := by omega
    subst e
    exact .inl ⟨w.stops H q, hd H p⟩
/-- what a join asks, within a comprehension too -/
def rJoinK (K : PySem.W.Frag) : V → List V → Hp → VK → Prop := fun x xs H Q => ∃ (a : Str) (p : Addr), ∃ ys : List Str, x = .str a ∧ xs = [.ref p] ∧ (SqL K H p (ys.map V.str) ∨ SqT K H p (ys.map V.str)) ∧ (ys.map (·.length)).sum + ys.length * a.length ≤ 16777216 ∧ Q (.str (Txt.join a ys)) H
/-- f'..' within a comprehension -/
def tJoined (ts : List TE) : TE := fun σ H Q => tJs ts Str.empty σ H fun out H1 => Q (.str out) H1
theorem pe_joinedN {X : Cx} {v1 v2 : Expr} {rest : List Expr} {ts : List TE} {pos : Pos} (h : PJ X (v1 :: v2 :: rest) ts) : PE X (.JoinedStr (v1 :: v2 :: rest) pos) (tJoined ts) := pe_joined h
/-! ### xs[::-1] -/
section
open PySem.Spec PySem.Calls PyProof.Rows
def tRev (K : PySem.W.Frag) (te : TE) (ts : TO) : TE := fun σ H Q => te σ H fun x H1 => ts σ H1 fun st H2 => ∃ (a : Addr) (xs : List V), x = .ref a ∧ st = some (-1) ∧ SqL K H2 a xs ∧ ∀ p, H2 p = none → Q (.ref p) (upd H2 p (.lst xs.reverse))
theorem Vals.rev {xs : List V} {us : List Value} (r : Vals xs us) : Vals xs.reverse us.reverse := by
  induction r with
  | nil => exact .nil
  | cons a b ih =>
    rw [List.reverse_cons, List.reverse_cons]
    exact ih.append (.cons a .nil)
theorem pe_rev {X : Cx} {e : Expr} {te : TE} {st : Expr} {ts : TO} {pos p2 : Pos} (he : PE X e te) (hs : PO X (some st) ts) : PE X (.Subscript e (.Slice none none (some st) p2) pos) (tRev X.K te ts) := by
  refine ⟨fun pins s σ H Q I h => ?_⟩
  refine Subscript_ (thn (he.run pins s σ H _ I h) fun v s1 ⟨x, H1, I1, r1, q1⟩ => ?_)
  refine wpAny_Slice ?_
  rw [evalPart_none]
  refine wpAny_pure (wpAny_pure (thn (hs.run pins s1 σ H1 _ I1 q1) fun vs s3 ⟨stp, H3, I3, ps, a, xs, ex, est, sq, q⟩ => ?_))
  subst ex est
  cases (show v = Value.ref a from r1)
  have I4 : Inv X pins σ H3 { s3 with heap := s3.heap.push { cls := .type "slice", data := .fields #[.none, .none, vs] } } := I3.kept (t' := s3.toks) fun b ob q => Heap.get?_push_of_some _ q
  obtain ⟨its, r, ht, hz⟩ := I4.list sq
  have hlen := r.length
  show wpAny (model X.prog X.w) X.A (subscriptTail e (.Slice none none (some st) p2) (.ref a) (.ref s3.heap.objs.size)) (EP X pins σ Q) X.xe { s3 with heap := s3.heap.push { cls := .type "slice", data := .fields #[.none, .none, vs] } }
  refine tail_any (ops := [.ref a, .ref s3.heap.objs.size]) ht.isList.typeIs slot_list_getitem.lookup ?_ (by with_unfolding_all rfl)
  refine wpAny_getItem_list_slice ht.isList (Heap.IsSliceOf.new ..) .none .none ps (by decide) ?_ (by rw [List.size_toArray]; omega)
  rw [PySem.W.krv_pick]
  refine ⟨.ref _, _, I4.laid (t' := s3.toks) (o := .lst xs.reverse) (fun b ob q => Heap.get?_push_of_some _ q) (Nat.le_refl _) ?_, rfl, q _ (I4.hok.fresh (Nat.le_refl _))⟩
  have rr : Vals xs.reverse its.reverse := Vals.rev r
  exact ⟨by rw [List.length_reverse]; exact hz, _, 0, rr, Heap.get?_push_size _ rfl⟩
end
/-! ### sorted(d, key=lambda k: ..) of a dict with text keys; the lambda reads a local -/
section
open PySem.Spec PySem.Calls PyProof.Rows LamX NdefX PySem.W
/-- the heap without the object at k -/
def goneAt (h : Heap) (k : Addr) : Heap := h.update k fun o => { o with data := .freed }
theorem goneAt_at {h : Heap} {k : Addr} : (goneAt h k).get? k = none := by
  obtain ⟨objs, l⟩ := h
  unfold goneAt Heap.update Heap.get?
  simp only [Array.getElem?_modify, if_true]
  cases objs[k]? <;> rfl
theorem goneAt_ne {h : Heap} {k b : Addr} (e : b ≠ k) : (goneAt h k).get? b = h.get? b := Heap.get?_update_ne _ _ _ _ e
def KAt (kS a : Addr) (kA : Array Value) (e1 : Nat) (s : Shared) : Prop := (∃ e, s.heap.get? kS = some (seqObj "list" kA e)) ∧ s.heap.get? a = some (seqObj "list" #[] e1)
section
variable {prog : Program} {w : World} {A : Around} {E : Value → Shared → Prop} {s : Shared} {a : Addr} {b : Bool} {vs : List Value} {P : PySem.Fin → Shared → Prop} {kz : List PyData} {f : Value}
theorem key_rest {kS : Addr} {e1 : Nat} (J : Array Value → Shared → Prop) (h0 : J #[] s) (at0 : KAt kS a #[] e1 s) (hka : kS ≠ a) (hlen : kz.length = vs.length) (hZ : vs.length ≤ sizeLine) (hal : AllAlike kz) (hsk : Sortable kz) (hu : ∀ d, d ∈ kz → A.units + d.depth < cLine)
    (turn : ∀ (kA : Array Value) (v : Value) (s1 : Shared), vs[kA.size]? = some v → J kA s1 → KAt kS a kA e1 s1 →
      wpAny (model prog w) A (call f [v]) (fun u s2 => KAt kS a kA e1 s2 ∧ ∀ h', Heap.SameBut kS s2.heap h' → J (kA.push u) { s2 with heap := h' }) (fun _ _ => False) s1)
    (done : ∀ (kA : Array Value) (s1 : Shared), kA.size = vs.length → J kA s1 → KAt kS a kA e1 s1 → EachIs (fun v k => ∃ as, Reads s1.heap v k as) kA.toList kz ∧
      ∀ h' tk out c, KeepsBut a (goneAt s1.heap kS) h' → h'.get? a = some (seqObj "list" (List.toArray out) c) → KeyedOut b kz vs out → P (.done (.ret .none)) { s1 with heap := h', toks := tk }) :
    wpAny (model prog w) A (ksk_rest a f b vs.toArray e1 (.ref kS)) P E s := by
  unfold ksk_rest
  refine wpAny_bind (wpAny_rule ?_)
  first
    | rw [List.forIn_toArray]
    | (rw [← Array.forIn_toList]; simp only [List.toList_toArray])
  refine wpAny_bind (ksk_fold (fun i s' => ∃ kA, kA.size = i ∧ J kA s' ∧ KAt kS a kA e1 s') vs 0 s ⟨#[], rfl, h0, at0⟩ (fun j x s1 hx hI => ?_) fun s1 hI => ?_)
  · obtain ⟨kA, hs, hJ, hK⟩ := hI
    have hs : kA.size = j := hs.trans (Nat.zero_add j)
    have hj : j < vs.length := (List.getElem?_eq_some_iff.mp hx).1
    refine wpAny_bind (wpAny_attempt (wpAny_mono (turn kA x s1 (by rw [hs]; exact hx) hJ hK) (fun u s2 hq => ?_) fun _ _ z => z.elim))
    obtain ⟨⟨⟨e, nk⟩, na⟩, hn⟩ := hq
    try dsimp only
    have sb := Heap.SameBut.update s2.heap kS (Obj.mapSeq fun ks => ks.push u)
    obtain ⟨c2, hc2⟩ : ∃ c2, (s2.heap.update kS (Obj.mapSeq fun ks => ks.push u)).get? kS = some (seqObj "list" (kA.push u) c2) := ⟨_, get?_update_seq nk fun ks => ks.push u⟩
    refine wpAny_bind (listUpdate_at nk rfl ?_ (by omega) (by rw [Array.size_push]; omega))
    refine wpAny_pure ⟨rfl, kA.push u, ?_, hn _ sb, ⟨c2, hc2⟩, (sb.2 a hka.symm).trans na⟩
    rw [Array.size_push, hs, Nat.zero_add]
  · obtain ⟨kA, hs, hJ, hK⟩ := hI
    have hs : kA.size = vs.length := hs.trans (Nat.zero_add _)
    obtain ⟨hk, hfin⟩ := done kA s1 hs hJ hK
    obtain ⟨⟨e, nk⟩, na⟩ := hK
    try dsimp only
    refine wpAny_bind (listItems_at nk rfl ?_)
    refine keyH_end (κ := dataKind s1.heap kz) (h₁ := goneAt s1.heap kS) (fun b' o hb q => ?_) goneAt_at nk na hka (SortsAt.data (s := s1) hk hal hsk hu) hs hZ fun h3 tk3 c k3 n3 => hfin h3 tk3 _ c k3 n3 ⟨s1.heap, kA.toList, hal, rfl, hk⟩
    by_cases hbk : b' = kS
    · rw [hbk, goneAt_at] at q
      cases q
    · rw [goneAt_ne hbk] at q
      exact q
theorem key_tree {n : Nat} (ho : s.heap.get? a = some (seqObj "list" vs.toArray n)) (hZ : vs.length ≤ sizeLine)
    (go : ∀ (kS : Addr) (e1 : Nat) (h1 : Heap), s.heap.objs.size ≤ kS → KeepsBut a s.heap h1 → KAt kS a #[] e1 { s with heap := h1 } → wpAny (model prog w) A (ksk_rest a f b vs.toArray e1 (.ref kS)) P E { s with heap := h1 }) :
    wpAny (model prog w) A (ksk_tree a f b) P E s := by
  have ha : a < s.heap.objs.size := Heap.lt_size ho
  obtain ⟨e1, ho1⟩ : ∃ e1, (s.heap.update a (Obj.mapSeq fun _ => (#[] : Array Value))).get? a = some (seqObj "list" #[] e1) := ⟨_, get?_update_seq ho fun _ => #[]⟩
  have hsz : ((s.heap.update a (Obj.mapSeq fun _ => (#[] : Array Value))).push (seqObj "tuple" vs.toArray 0)).objs.size = s.heap.objs.size + 1 := by
    rw [PyProof.Rows.size_push', Heap.size_update]
  unfold ksk_tree
  refine wpAny_bind (listItems_at ho rfl ?_)
  refine wpAny_bind (listUpdate_at ho rfl ?_ (by rw [List.size_toArray]; exact hZ) (Nat.zero_le _))
  refine wpAny_bind (seqEpoch_at ho1 rfl ?_)
  refine wpAny_bind (wpAny_newTuple ?_ (by show vs.length ≤ _; exact hZ))
  refine wpAny_bind (wpAny_newList ?_ (Nat.zero_le _))
  refine wpAny_holding ?_
  refine go _ e1 _ (by rw [hsz]; exact Nat.le_succ _) (fun b' o hb q => ?_) ⟨⟨0, Heap.get?_push_size _ rfl⟩, Heap.get?_push_of_some _ (Heap.get?_push_of_some _ ho1)⟩
  exact Heap.get?_push_of_some _ (Heap.get?_push_of_some _ ((Heap.get?_update_ne _ _ _ _ hb).trans q))
end
/-! the frame's own view: objects that are not tracked, made since, may change -/
section
variable {X : Cx} {pins : List (Addr × Obj)} {σ : L2.St} {H H' : Hp} {s s' : Shared}
def Off (X : Cx) (pins : List (Addr × Obj)) (b : Addr) : Prop := (b ∈ X.ex ∨ X.s_0.heap.objs.size ≤ b) ∧ b ≠ X.env.locals ∧ (∀ x c, X.env.cells.lookup x = some c → c ≠ b) ∧ ∀ p ∈ X.pn ++ pins, p.1 ≠ b
theorem off_of (I : Inv X pins σ H s) {b : Addr} (h : s.heap.objs.size ≤ b) : Off X pins b := by
  have lt : ∀ {c : Addr} {o : Obj}, s.heap.get? c = some o → c ≠ b := fun {c o} e z => by
    rw [z] at e
    exact Nat.lt_irrefl _ (Nat.lt_of_lt_of_le (Heap.lt_size e) h)
  refine ⟨.inr (Nat.le_trans I.sz h), fun z => Nat.lt_irrefl _ (Nat.lt_of_lt_of_le (by rw [z]; exact I.lt) h), fun x c e => ?_, fun p hp => lt (I.pin p hp).1⟩
  obtain ⟨v, o, ho, _⟩ := I.cell x c e
  exact lt ho
theorem offr_of (I : Inv X pins σ H s) {b : Addr} (h : s.heap.objs.size ≤ b) : b ∉ frs X.stack := fun z => by
  rcases List.mem_cons.mp (I.stkSub _ z) with e | e
  · exact Nat.lt_irrefl _ (Nat.lt_of_lt_of_le (by rw [e]; exact I.lt) h)
  · exact I.nofs h e
theorem inv_but {ch : List Addr} (I : Inv X pins σ H s) (hos : s'.os = s.os) (hg : AllBare s'.gens) (hn : ∀ b ∈ ch, H b = none ∧ Off X pins b) (k : ∀ b u, b ∉ ch → s.heap.get? b = some u → s'.heap.get? b = some u) (hH : ∀ b, b ∉ ch → H' b = H b)
    (new : ∀ b ∈ ch, ∀ o, H' b = some o → ObjOk X.prog X.w H' s'.heap b o) : Inv X pins σ H' s' := by
  have nch : ∀ {b : Addr} {u : HO}, H b = some u → b ∉ ch := fun {b u} e z => by
    rw [(hn b z).1] at e
    cases e
  have sm : ∀ {b : Addr} {u : HO}, H b = some u → H' b = some u := fun {b u} e => (hH b (nch e)).trans e
  refine I.call' hos (ch := ch) ⟨fun b o e n _ hc => k b o hc e, fun b o e n _ hc => ⟨o.slots, k b o hc e⟩, fun b o e n hc => (hH b hc).trans n, fun b o e hc => ⟨o, k b o hc e⟩, fun b xs e => sm e, fun b o u e => sm e, fun b ps e => ⟨#[], by rw [sm e]; simp⟩⟩ (fun b o e => ?_) hg fun b hb => (hn b hb).2
  by_cases hb : b ∈ ch
  · exact new b hb o e
  · rw [hH b hb] at e
    refine (I.hok b o e).stay (fun d u hd q => k d u ?_ q) (fun d q => sm q) (fun d xs q => sm q)
    rcases hd with z | z
    · rw [z]
      exact hb
    · exact nch z
/-- the lambda is called: N its names, ps its parameters, fr the captured names, ws their values -/
theorem lam_call {P : Program} {w : World} {K : PySem.W.Frag} {mg : Str → Option Value} {base : Heap} {A : Around} {outer : List Env} {s1 : Shared} {Hj : Hp} {k : Nat} {f c' : Addr} {q : Str} {params : Arguments} {body : Expr} {scope : Scope} {cl : List (Str × Addr)} {pm ctv : Value} {N ps fr : List Str} {us : List Value} {vs : List V} {ws : List (Option V)}
    {tb : TE} {Q : VK} (e0 : Env0 P w K mg base A outer s1 Hj) (hr : Room (k + 1) A) (hf : s1.heap.get? f = some (PySem.W.kla_obj "<lambda>" q params body scope cl pm c' ctv)) (hc : Hj c' = some (CodeO c' q)) (S : NScope N ps fr scope) (C : CellsAt cl fr ws s1.heap Hj)
    (hb : bindArgs (PySem.W.kla_fn "<lambda>" q params body scope cl pm (.ref c') ctv) ⟨us, []⟩ = pure (ps.zip us)) (rv : Vals vs us) (hl : vs.length = ps.length)
    (hbody : Room k (A.deeper (envF ⟨"<lambda>", q, params, [], scope, cl, c'⟩ f s1.heap.objs.size)) → PE (ncx CX0 P w K mg base N ⟨"<lambda>", q, params, [], scope, cl, c'⟩ f A outer s1 Hj E0) body tb) (ht : tb (startF N vs ws) Hj Q) :
    codeAny (model P w) A (.call (.ref f) ⟨us, []⟩) (CR CX0 outer P w Hj s1 Q E0) s1 := by
  have lim : s1.heap.NoLimit := e0.mod.nolimit.keeps fun b o e => (e0.bs b o e).1
  refine PySem.W.kla_callFunE hr.depth hf rfl S.co S.gen rfl (codeO_at e0.hok hc) ?_
  rw [hb]
  refine wpAny_pure (wpAny_newFunctionEnv S.nocell (fun ⟨n, _⟩ hy => S.par n (List.of_mem_zip hy).1) (fun h₁ hns hsb => ⟨lim.fresh _ hsb, ?_⟩) S.kind)
  show codeAny _ _ (.expr body (envF ⟨"<lambda>", q, params, [], scope, cl, c'⟩ f s1.heap.objs.size)) _ _
  have kp : ∀ b o, s1.heap.get? b = some o → h₁.get? b = some o := fun b o e => hsb.extBut b o (Nat.ne_of_lt (Heap.lt_size e)) (Heap.get?_push_of_some _ e)
  have J : Inv (ncx CX0 P w K mg base N ⟨"<lambda>", q, params, [], scope, cl, c'⟩ f A outer s1 Hj E0) [] (startF N vs ws) Hj { s1 with heap := h₁, toks := s1.toks + (ps.zip us).length } := inv_startN S hr.hd e0 hl rv C hns kp
  refine PySem.W.kla_codeExpr (wpAny_mono ((hbody (hr.deeper _)).run [] _ _ Hj Q J ht) (fun v s2 hq => ?_) fun e s2 hq => hq)
  obtain ⟨w', H2, J2, rw', q2⟩ := hq
  exact ⟨w', H2, J2.os, J2.bare, J2.base, J2.hok, rw', q2⟩
end
/-- sorted(d, key=lambda k: body): te reads d, tb is the body's reading; N, fr: the lambda's names, the captured ones; js: where these stand -/
def tSortLam (K : PySem.W.Frag) (q : Str) (P : Addr) (N : List Str) (js : List Nat) (te tb : TE) : TE := fun σ H Q => te σ H fun v H1 => ∃ (d : Addr) (kvs : List (Key × V)) (ks : List Str) (kf : Str → PyData), v = .ref d ∧ TabS H1 P q ∧ Rd H1 d (.dK kvs) ∧ kvs.map (·.1) = ks.map Sum.inr ∧ ks.length ≤ 1000 ∧
  AllAlike (ks.map kf) ∧ Sortable (ks.map kf) ∧ (∀ k ∈ ks, (kf k).depth ≤ 8) ∧
  (∀ k ∈ ks, ∀ H2, ExtN H1 H2 → tb (startF N [.str k] (js.map (slotAt σ))) H2 fun u H3 => Same H2 H3 ∧ Dp K H3 u (kf k)) ∧
  ∀ (p : Addr) (H2 : Hp), ExtN H1 H2 → TabS H2 P q → H2 p = none → Q (.ref p) (upd H2 p (.lst ((ks.mergeSort (dataLe false kf)).map V.str)))
theorem vals_push {us : List V} {kA : Array Value} {v : V} {u : Value} (h : Vals us kA.toList) (r : RelV v u) : Vals (us ++ [v]) (kA.push u).toList := by
  rw [Array.toList_push]
  exact h.append (.cons r .nil)
theorem dpA_app {K : PySem.W.Frag} {H : Hp} : ∀ {xs : List V} {ds : List PyData} {y : V} {e : PyData}, DpAll K H xs ds → Dp K H y e → DpAll K H (xs ++ [y]) (ds ++ [e])
  | _, _, _, _, .nil, h => .cons h .nil
  | _, _, _, _, .cons a b, h => .cons a (dpA_app b h)
theorem reads_each {h : Heap} : ∀ {us : List V} {vs : List Value} {ds : List PyData}, Vals us vs → us.length = ds.length → (∀ (i : Nat) v d u, us[i]? = some u → vs[i]? = some v → ds[i]? = some d → ∃ as, Reads h v d as) → EachIs (fun v k => ∃ as, Reads h v k as) vs ds
  | [], [], [], _, _, _ => .nil
  | u :: us, v :: vs, d :: ds, .cons a b, hl, hr => .cons (hr 0 v d u rfl rfl rfl) (reads_each b (by simpa using hl) fun i v' d' u' e1 e2 e3 => hr (i + 1) v' d' u' (by simpa using e1) (by simpa using e2) (by simpa using e3))
  | [], [], _ :: _, _, hl, _ => by simp at hl
  | _ :: _, _ :: _, [], _, hl, _ => by simp at hl
theorem dpA_get {K : PySem.W.Frag} {H : Hp} : ∀ {vs : List V} {ds : List PyData} {i : Nat} {v : V} {d : PyData}, DpAll K H vs ds → vs[i]? = some v → ds[i]? = some d → Dp K H v d
  | _, _, 0, _, _, .cons a _, h1, h2 => by cases h1; cases h2; exact a
  | _, _, i + 1, _, _, .cons _ b, h1, h2 => dpA_get (i := i) b h1 h2
theorem dpA_len {K : PySem.W.Frag} {H : Hp} : ∀ {vs : List V} {ds : List PyData}, DpAll K H vs ds → vs.length = ds.length
  | _, _, .nil => rfl
  | _, _, .cons _ b => congrArg (· + 1) (dpA_len b)
mutual
theorem dpS_mono {K : PySem.W.Frag} {H H' : Hp} (e : Same H H') : ∀ {v : V} {d : PyData}, Dp K H v d → Dp K H' v d
  | _, _, .non => .non
  | _, _, .bl b => .bl b
  | _, _, .int i => .int i
  | _, _, .str x => .str x
  | _, _, .lst h a => .lst (e.seq h) (dpSAll_mono e a)
  | _, _, .tup h a => .tup (by
      rcases h with (h | ⟨o, h⟩) | h
      · exact .inl (.inl (e _ _ h))
      · exact .inl (.inr ⟨o, e _ _ h⟩)
      · exact .inr h) (dpSAll_mono e a)
theorem dpSAll_mono {K : PySem.W.Frag} {H H' : Hp} (e : Same H H') : ∀ {vs : List V} {ds : List PyData}, DpAll K H vs ds → DpAll K H' vs ds
  | _, _, .nil => .nil
  | _, _, .cons a b => .cons (dpS_mono e a) (dpSAll_mono e b)
end
theorem strs_each {us : List Value} {ks : List Str} (h : StrsAre us ks) : EachIs (fun u k => ∃ t, u = Value.str k t) us ks := by
  induction h with
  | nil => exact .nil
  | cons x t _ ih => exact .cons ⟨t, rfl⟩ ih
theorem each_strs : ∀ {us : List Value} {ks : List Str}, EachIs (fun u k => ∃ t, u = Value.str k t) us ks → Vals (ks.map V.str) us
  | _, _, .nil => .nil
  | _, _, .cons ⟨t, e⟩ h => .cons ⟨t, e⟩ (each_strs h)
section
variable {X : Cx} {c P : Addr} {params : Arguments} {body : Expr} {scope : Scope} {te tb : TE} {p lpos kpos pos : Pos} {e : Expr} {N fr : List Str} {js : List Nat} {y : Str} {k : Nat}
theorem pe_sortLam (hr : Room (k + 3) X.A) (hcalm : X.calm = true) (hg : Gl X "sorted") (hm : X.mg "sorted" = none) (TB : TabB X.base X.mg c P) (hcode : X.env.code = .ref c) (hdef : defaultsOf params X.env = ([], [])) (S : NScope N [y] fr scope)
    (hnd : ndefB X.env.scope scope fr = true) (hjs : js.map (fun j => X.N[j]?) = fr.map some) (hbind : ∀ (q : Str) (cl : List (Str × Addr)) (pm cv ctv u : Value), bindArgs (PySem.W.kla_fn "<lambda>" q params body scope cl pm cv ctv) ⟨[u], []⟩ = pure ([y].zip [u]))
    (ha : PA X [e] (tCons te tNil)) (hbody : ∀ (A : Around) (outer : List Env) (s : Shared) (H : Hp) (f c' : Addr) (q : Str) (cl : List (Str × Addr)), Room k (A.deeper (envF ⟨"<lambda>", q, params, [], scope, cl, c'⟩ f s.heap.objs.size)) → PE (ncx CX0 X.prog X.w X.K X.mg X.base N ⟨"<lambda>", q, params, [], scope, cl, c'⟩ f A outer s H E0) body tb)
    (hee : backTo pos (starEach [e] X.env) = (false, eval e X.env) :: backTo pos (starEach [] X.env) := by rfl) (hpl : (backTo pos (starEach [e] X.env)).any (·.1) = false := by rfl) :
    PE X (.Call (.Name "sorted" p) [e] [⟨some "key", .Lambda params body scope lpos, kpos⟩] pos) (tSortLam X.K (X.env.qual ++ "<lambda>") P N js te tb) := by
  refine ⟨fun pins s σ H Q I h => ?_⟩
  have hbs : bootBuiltins ("sorted" : Str) = some (.builtin "sorted") := by decide +kernel
  refine wpAny_Call_Name_kw (ld_blt I hg hm hbs ?_ (by decide) (by decide))
  refine PyProof.Rows.callWith_kw (thn (ha.run pos pins s σ H (fun vs H1 => match vs with
    | [v] => ∃ (d : Addr) (kvs : List (Key × V)) (ks : List Str) (kf : Str → PyData), v = .ref d ∧ TabS H1 P (X.env.qual ++ "<lambda>") ∧ Rd H1 d (.dK kvs) ∧ kvs.map (·.1) = ks.map Sum.inr ∧ ks.length ≤ 1000 ∧
      AllAlike (ks.map kf) ∧ Sortable (ks.map kf) ∧ (∀ k ∈ ks, (kf k).depth ≤ 8) ∧
      (∀ k ∈ ks, ∀ H2, ExtN H1 H2 → tb (startF N [.str k] (js.map (slotAt σ))) H2 fun u H3 => Same H2 H3 ∧ Dp X.K H3 u (kf k)) ∧
      ∀ (p : Addr) (H2 : Hp), ExtN H1 H2 → TabS H2 P (X.env.qual ++ "<lambda>") → H2 p = none → Q (.ref p) (upd H2 p (.lst ((ks.mergeSort (dataLe false kf)).map V.str)))
    | _ => False) I h) fun us s1 ⟨vs, H1, I1, r1, q1⟩ => ?_) hee hpl (by rfl) (by rfl)
  obtain ⟨v, rfl⟩ : ∃ v, vs = [v] := by
    match vs, q1 with
    | [v], _ => exact ⟨v, rfl⟩
  obtain ⟨d, kvs, ks, kf, rfl, hT, hd, hks, hkl, hal, hsk, hdep, hturn, hfin⟩ := q1
  obtain ⟨u0, rfl, ru0⟩ := vals1 r1
  cases (show u0 = Value.ref d from ru0)
  have hfree := ndef_free hnd
  have hfreeC : ∀ y ∈ scope.names, y.2 = .free → ∃ c, X.env.cells.lookup y.1 = some c := fun y hy z => (hfree y hy z).elim (fun z => I.ok.has _ (.inl z)) fun z => I.ok.has _ (.inr z)
  show wpAny _ _ (evalAll [do let v ← eval (.Lambda params body scope lpos) X.env; standAt pos; pure v]) _ _ s1
  refine wpAny_evalAll_cons (wpAny_bind (lam_make2 (T := [(P, X.env.qual ++ "<lambda>")]) I1 TB hcode List.mem_cons_self (fun p hp _ => by rw [List.mem_singleton.mp hp]) (fun p hp => by rw [List.mem_singleton.mp hp]; exact hT) hdef hfreeC fun f c' pm ctv H2 s2 I2 eN T2 hf hfn hfr hco => ?_))
  refine wpAny_bind (wpAny_standAt (wpAny_pure (wpAny_evalAll_nil ?_)))
  have hT2 : TabS H2 P (X.env.qual ++ "<lambda>") := T2 (P, X.env.qual ++ "<lambda>") List.mem_cons_self
  have hd2 : Rd H2 d (.dK kvs) := by
    rcases hd with z | ⟨o, z⟩
    · exact .inl (eN _ _ z fun ps q => by cases q)
    · exact .inr ⟨o, eN _ _ z fun ps q => by cases q⟩
  show wpAny (model X.prog X.w) X.A (call (.builtin "sorted") [.ref d] [(Str.ofString "key", .ref f)]) _ _ s2
  -- the keys
  obtain ⟨z, lo, vs, rel, dd⟩ := dk_rd I2.hok hd2
  obtain ⟨ep, hat⟩ := dd.dictAt
  have hkeys : vs.map (·.1) = ks.map Sum.inr := rel.keys.symm.trans hks
  have hvl : vs.length = ks.length := by
    have z := congrArg List.length hkeys
    rw [List.length_map, List.length_map] at z
    exact z
  have hkz : ks.length ≤ sizeLine := Nat.le_trans hkl (by decide)
  refine PyProof.Rows.call_function_entry_kw PyProof.Rows.kind_sorted PyProof.Rows.plain_sorted PyProof.Rows.entry_sorted (ksk_s1 _ _) ?_
  unfold Builtin.«sorted»
  refine wpAny_bind (m := checkCount "sorted" 1 1 _) (wpAny_pure ?_)
  refine wpAny_bind (PySem.W.kdu_collect (A := X.A.in1) (PySem.W.kdl_dict (knd := mixKind X.prog X.w) (kvs := vs) (ep := ep) lo) (I2.ok.hd hcalm) hat (by rw [hvl]; exact hkz) fun h3 tk3 acc hk3 hacc => ?_)
  have hacl : acc.toList.length = ks.length := by rw [Array.length_toList, hacc.1, hvl]
  have hS : StrsAre acc.toList ks := strs_at hacl fun j v z => by
    obtain ⟨k, x, e1, e2⟩ := hacc.2 j v (by rw [← Array.getElem?_toList]; exact z)
    have e3 : (ks.map (Sum.inr (α := Int)))[j]? = some k := by
      rw [← hkeys, List.getElem?_map, e1]
      rfl
    rw [List.getElem?_map] at e3
    obtain ⟨y', e4, e5⟩ := Option.map_eq_some_iff.mp e3
    subst e5
    obtain ⟨t, ev⟩ := Value.isStrOf_shape (x := y') (v := v) e2
    exact ⟨y', t, e4, ev⟩
  have I3 : Inv X pins σ H2 { s2 with heap := h3, toks := tk3 } := I2.kept hk3
  refine wpAny_bind (wpAny_newList ?_ (by rw [hacl]; exact hkz))
  have hoL : (h3.push (seqObj "list" acc.toList.toArray 0)).get? h3.objs.size = some (seqObj "list" acc.toList.toArray 0) := Heap.get?_push_size _ rfl
  have I4 : Inv X pins σ H2 { s2 with heap := h3.push (seqObj "list" acc.toList.toArray 0), toks := tk3 } := I3.kept fun b o z => Heap.get?_push_of_some _ z
  have nA : H2 h3.objs.size = none := I3.hok.fresh (Nat.le_refl _)
  have oA : Off X pins h3.objs.size := off_of I3 (Nat.le_refl _)
  have rA : h3.objs.size ∉ frs X.stack := offr_of I3 (Nat.le_refl _)
  have szA : h3.objs.size < (h3.push (seqObj "list" acc.toList.toArray 0)).objs.size := Heap.lt_size hoL
  have hf4 : (h3.push (seqObj "list" acc.toList.toArray 0)).get? f = some (PySem.W.kla_obj "<lambda>" (X.env.qual ++ "<lambda>") params body scope (cloFrom X.env.cells scope.names []) pm c' ctv) := Heap.get?_push_of_some _ (hk3 _ _ hf)
  have neFA : f ≠ h3.objs.size := Nat.ne_of_lt (Heap.lt_size (hk3 _ _ hf))
  generalize h3.push (seqObj "list" acc.toList.toArray 0) = h4 at *
  generalize h3.objs.size = a at *
  show wpAny _ _ _ _ _ { s2 with heap := h4, toks := tk3 }
  refine wpAny_bind (wpAny_holding (wpAny_call_entry_kw PyProof.Rows.slot_list_sort ⟨_, hoL, rfl⟩ PyProof.Rows.entry_list_sort ?body (ksk_l1 _ _)))
  case body =>
    rw [ksk_t1]
    refine key_tree hoL (by rw [hacl]; exact hkz) fun kS e1 h5 hkS kp5 at5 => ?_
    have hka : kS ≠ a := fun z => Nat.lt_irrefl _ (Nat.lt_of_lt_of_le szA (by rw [← z]; exact hkS))
    have oS : Off X pins kS := off_of I4 hkS
    have rS : kS ∉ frs X.stack := offr_of I4 hkS
    have nS : H2 kS = none := I4.hok.fresh hkS
    have neFS : f ≠ kS := Nat.ne_of_lt (Nat.lt_of_lt_of_le (Heap.lt_size hf4) hkS)
    have I5 : Inv X pins σ H2 { s2 with heap := h5, toks := tk3 } := inv_but (ch := [a]) I4 rfl I4.bare (fun b hb => by rw [List.mem_singleton.mp hb]; exact ⟨nA, oA⟩) (fun b u hb q => kp5 b u (fun z => hb (by rw [z]; exact List.mem_cons_self)) q) (fun _ _ => rfl) (fun b hb o q => by
      rw [List.mem_singleton.mp hb, nA] at q
      cases q)
    have hV : Vals (ks.map V.str) acc.toList := each_strs (strs_each hS)
    refine key_rest (kz := ks.map kf) (fun kA s3 => ∃ (Hj : Hp) (us : List V), Inv X pins σ Hj s3 ∧ s3.os = s2.os ∧ Same H2 Hj ∧ Hj kS = none ∧ Hj a = none ∧ Hj f = none ∧
      s3.heap.get? f = some (PySem.W.kla_obj "<lambda>" (X.env.qual ++ "<lambda>") params body scope (cloFrom X.env.cells scope.names []) pm c' ctv) ∧ Vals us kA.toList ∧ DpAll X.K Hj us ((ks.take kA.size).map kf))
      ⟨H2, [], I5, rfl, Same.refl _, nS, nA, hfn, kp5 _ _ neFA hf4, .nil, .nil⟩ at5 hka (by rw [List.length_map, hacl]) (by rw [hacl]; exact hkz) hal hsk (fun d hd => ?_) ?turn ?done
    · obtain ⟨k0, hk0, rfl⟩ := List.mem_map.mp hd
      have h1 := hdep k0 hk0
      have h2 := hr.units
      show X.A.units + 1 + 1 + _ < _
      omega
    case turn =>
      intro kA v s3 hv hJ hK
      obtain ⟨Hj, us, Ij, hos, hsm, nSj, nAj, nFj, hfj, hus, hdp⟩ := hJ
      obtain ⟨⟨e', nk⟩, na⟩ := hK
      have hi : kA.size < ks.length := by
        have := (List.getElem?_eq_some_iff.mp hv).1
        omega
      obtain ⟨k0, hk0⟩ : ∃ k0, ks[kA.size]? = some k0 := ⟨_, List.getElem?_eq_getElem hi⟩
      have rv : RelV (.str k0) v := by
        obtain ⟨u, e1, e2⟩ := hV.get (i := kA.size) (x := .str k0) (by rw [List.getElem?_map, hk0]; rfl)
        rw [e1] at hv
        cases hv
        exact e2
      have C : CellsAt (cloFrom X.env.cells scope.names []) fr (js.map (slotAt σ)) s3.heap Hj := cells_of Ij (Caps.made I.ok hfree (ndef_fr hnd) hjs)
      have ht := hturn k0 (List.mem_of_getElem? hk0) Hj (eN.trans (ExtN.of hsm))
      have rc := lam_call Ij.env0.in1.in1 (hr : Room (k + 1 + 1 + 1) X.A).in1.in1 hfj (hsm _ _ hco) S C (hbind _ _ _ _ _ v) (.cons rv .nil) rfl (fun hr' => hbody _ _ _ _ _ _ _ _ hr') ht
      refine wpAny_call (codeAny_mono rc fun r s4 hq => ?_)
      cases r with
      | error er => exact (show False from hq).elim
      | ok fl =>
        cases fl with
        | next => exact False.elim hq
        | brk => exact False.elim hq
        | cont => exact False.elim hq
        | ret u =>
          obtain ⟨u', H4, os4, bare4, un4, hok4, ru, hsm4, hdp4⟩ := hq
          have I6 : Inv X pins σ H4 s4 := Ij.call' os4 (ch := []) un4 hok4 bare4 (fun b z => absurd z (by simp))
          have keep : ∀ {b : Addr} {o : Obj}, s3.heap.get? b = some o → Hj b = none → b ∉ frs X.stack → s4.heap.get? b = some o := fun {b o} q n r => un4.keep b o q n r (by simp)
          have free : ∀ {b : Addr} {o : Obj}, s3.heap.get? b = some o → Hj b = none → H4 b = none := fun {b o} q n => un4.free b o q n (by simp)
          refine ⟨⟨⟨e', keep nk nSj rS⟩, keep na nAj rA⟩, fun h' sb => ⟨H4, us ++ [u'], inv_but (ch := [kS]) I6 rfl I6.bare (fun b hb => by rw [List.mem_singleton.mp hb]; exact ⟨free nk nSj, oS⟩) (fun b o hb q => (sb.2 b fun z => hb (by rw [z]; exact List.mem_cons_self)).trans q) (fun _ _ => rfl) (fun b hb o q => ?_),
            os4.trans hos, hsm.trans hsm4, free nk nSj, free na nAj, free hfj nFj, (sb.2 f neFS).trans (keep hfj nFj hfr), vals_push hus ru, ?_⟩⟩
          · rw [List.mem_singleton.mp hb, free nk nSj] at q
            cases q
          · rw [Array.size_push, List.take_add_one, hk0, Option.toList_some, List.map_append]
            exact dpA_app (dpSAll_mono hsm4 hdp) hdp4
    case done =>
      intro kA s3 hsz hJ hK
      obtain ⟨Hj, us, Ij, hos, hsm, nSj, nAj, nFj, hfj, hus, hdp⟩ := hJ
      obtain ⟨⟨e', nk⟩, na⟩ := hK
      have hdp : DpAll X.K Hj us (ks.map kf) := by
        rw [List.take_of_length_le (by omega)] at hdp
        exact hdp
      refine ⟨reads_each hus (dpA_len hdp) fun i v dd u e1 e2 e3 => ?_, fun h' tk out c0 kp ha hko => ⟨_, rfl, ?_⟩⟩
      · obtain ⟨v', e4, rl⟩ := hus.get e1
        rw [e2] at e4
        cases e4
        exact Dp.reads Ij dd u v (dpA_get hdp e1 e3) rl
      · have hout := keyedOut_each kf hko (strs_each hS)
        have hVo := each_strs hout
        refine wpAny_pure ⟨_, rfl, .ref a, upd Hj a (.lst ((ks.mergeSort (dataLe false kf)).map V.str)), inv_but (ch := [a, kS]) Ij rfl Ij.bare (fun b hb => ?_) (fun b o hb q => kp b o (fun z => hb (by rw [z]; exact List.mem_cons_self)) ((goneAt_ne fun z => hb (by rw [z]; exact List.mem_cons_of_mem _ List.mem_cons_self)).trans q)) (fun b hb => upd_ne fun z => hb (by rw [z]; exact List.mem_cons_self)) (fun b hb o q => ?_), rfl, hfin a Hj (eN.trans (ExtN.of hsm)) (hT2.ext hsm) nAj⟩
        · rcases List.mem_cons.mp hb with z | z
          · rw [z]
            exact ⟨nAj, oA⟩
          · rw [List.mem_singleton.mp z]
            exact ⟨nSj, oS⟩
        · by_cases z : b = a
          · rw [z, upd_same] at q
            cases q
            rw [z]
            refine ⟨?_, out, c0, hVo, ha⟩
            rw [List.length_map, List.length_mergeSort]
            exact hkz
          · rw [upd_ne z] at q
            rcases List.mem_cons.mp hb with z' | z'
            · exact absurd z' z
            · rw [List.mem_singleton.mp z', nSj] at q
              cases q
end
end
/-! ### rules that the catalogs want -/
section
open PySem.Spec PySem.Calls PyProof.Rows
section
variable {X : Cx} {pins : List (Addr × Obj)} {σ : L2.St} {H : Hp} {s : Shared}
/-- *d, d a dict: its keys -/
theorem star_dK {a : Addr} {kvs : List (Key × V)} {E : Value → Shared → Prop} {Q : List Value → Shared → Prop} (hcalm : X.calm = true) (I : Inv X pins σ H s) (h : Rd H a (.dK kvs)) (hQ : ∀ us s', Inv X pins σ H s' → Vals (kvs.map fun q => kV q.1) us → Q us s') : PySem.W.StarOf (model X.prog X.w) X.A E (.ref a) Q s := by
  obtain ⟨hz, lo, vs, rel, dd⟩ := dk_rd I.hok h
  obtain ⟨ep, hat⟩ := dd.dictAt
  have hkeys : vs.map (·.1) = kvs.map (·.1) := rel.keys.symm
  have hl : vs.length = kvs.length := by
    have z := congrArg List.length hkeys
    rw [List.length_map, List.length_map] at z
    exact z
  unfold PySem.W.StarOf notIterableAtAll
  refine wpAny_bind (wpAny_specialOf dd.typeIs PySem.F.slot_dict_iter.lookup (wpAny_pure ⟨rfl, ?_⟩))
  refine PySem.W.kdu_collect (A := X.A) (PySem.W.kdl_dict (knd := mixKind X.prog X.w) (kvs := vs) (ep := ep) lo) (I.ok.hd hcalm) hat (by rw [hl]; exact hz) fun h' tk acc hk hacc => ?_
  refine hQ _ _ (I.kept hk) ?_
  have e2 : (kvs.map fun q => kV q.1) = vs.map fun q => kV q.1 := by
    have := congrArg (List.map kV) hkeys
    rw [List.map_map, List.map_map] at this
    exact this.symm
  rw [e2]
  exact keys_at (by rw [Array.length_toList, hacc.1]) fun j v e => by
    obtain ⟨k, x, e1, e3⟩ := hacc.2 j v (by rw [← Array.getElem?_toList]; exact e)
    exact ⟨k, x, e1, e3⟩
end
def tStarD (te : TE) (t : TA) : TA := fun σ H Q => te σ H fun x H1 => ∃ p kvs, x = V.ref p ∧ Rd H1 p (.dK kvs) ∧ t σ H1 fun ys H2 => Q ((kvs.map fun q => kV q.1) ++ ys) H2
theorem pa_starD {X : Cx} {e : Expr} {es : List Expr} {te : TE} {t : TA} {p : Pos} (hcalm : X.calm = true) (he : PE X e te) (hr : PA X es t) (hs : starEach (.Starred e p :: es) X.env = (true, eval e X.env) :: starEach es X.env := by rfl) : PA X (.Starred e p :: es) (tStarD te t) := by
  refine ⟨fun pos pins s σ H Q I h => ?_⟩
  refine PySem.W.items_star (thn (he.run pins s σ H _ I h) fun v s1 ⟨y, H1, I1, ry, a, kvs, ey, hx, q⟩ => ?_) hs
  subst ey
  obtain rfl : v = Value.ref a := ry
  refine star_dK hcalm I1 hx fun us s2 I2 rv => ?_
  exact thn (hr.run pos pins s2 σ H1 _ I2 q) fun ws s3 ⟨vs, H3, I3, r3, q3⟩ => ⟨_, H3, I3, rv.append r3, q3⟩
/-! C(e, .., k = v, ..) with defaults, within a try -/
def tMakeKS (C : Addr) (n m : Nat) (sp : Sp) (gV : List V → List V → List V) (E : L2.St → XK) (t tk : TA) : TE := fun σ H Q => t σ H fun vs H1 => tk σ H1 fun zs H2 => vs.length = n ∧ zs.length = m ∧ ∀ x dx, H2 x = none → H2 dx = none → dx ≠ x →
  sp (gV (.ref x :: vs) zs) (upd (upd H2 dx (.own x)) x (.ins C dx [])) (fun v H3 => v = .non ∧ Q (.ref x) H3) (E σ)
section
variable {X : Cx} {CX : CXT} {k n : Nat} {f C : Addr} {fd : FuncData} {ps ks : List Str} {sp : Sp} {x : Str} {p pos : Pos} {e : Expr} {es : List Expr} {kws : List Keyword} {t tk : TA} {g : List Value → List Value → List Value} {gV : List V → List V → List V}
theorem run_makeKS {E : L2.St → XK} {pins : List (Addr × Obj)} {σ : L2.St} {H : Hp} {s : Shared} {Q : VK} {us ws : List Value} {vs zs : List V} (M : Mk X.K C f) (F : FnOk X.prog X.w X.K X.mg X.base CX k f fd ps sp) (hr : Room (k + 1) X.A)
    (hb : KBn X.K fd ps (n + 1) ks g gV) (hx : PassesAt CX X σ (E σ)) (I : Inv X pins σ H s) (r : Vals vs us) (rz : Vals zs ws) (l1 : vs.length = n) (l2 : zs.length = ks.length)
    (h : ∀ x dx, H x = none → H dx = none → dx ≠ x → sp (gV (.ref x :: vs) zs) (upd (upd H dx (.own x)) x (.ins C dx [])) (fun v H2 => v = .non ∧ Q (.ref x) H2) (E σ)) :
    wpAny (model X.prog X.w) X.A (call (.ref C) us (ks.zip ws)) (EP X pins σ Q) X.xe s := by
  have hq := h (s.heap.objs.size + 1) s.heap.objs.size (I.hok.fresh (Nat.le_succ _)) (I.hok.fresh (Nat.le_refl _)) (Nat.ne_of_lt (Nat.lt_succ_self _))
  have I2 := Inv.made (C := C) I
  have r1 : Vals (V.ref (s.heap.objs.size + 1) :: vs) (Value.ref (s.heap.objs.size + 1) :: us) := .cons rfl r
  have lu : (Value.ref (s.heap.objs.size + 1) :: us).length = n + 1 := by
    rw [List.length_cons, ← r.length, l1]
  refine wpAny_call (make_map (f := f) I.kIn M.makes M.init (beq_iff_eq.mp M.fn) (codeAny_mono (F.run _ X.stack _ _ ⟨Value.ref (s.heap.objs.size + 1) :: us, ks.zip ws⟩ (g (Value.ref (s.heap.objs.size + 1) :: us) ws) _ _ (E σ) (hr.make C us (ks.zip ws))
    (I2.env0.make C us (ks.zip ws)) (hb.to _ _ ws I2.kIn lu (rz.length.symm.trans l2)) (hb.rel r1 rz) hq) fun r s' hq' => ?_))
  cases r with
  | error e => exact hx pins _ _ e s' I2 hq'
  | ok fl =>
    cases fl with
    | ret u =>
      obtain ⟨v, H', I3, rv, ev, q3⟩ := I2.after hq'
      subst ev
      exact ⟨rv, ⟨V.ref (s.heap.objs.size + 1), H', I3, rfl, q3⟩⟩
    | next => exact False.elim hq'
    | brk => exact False.elim hq'
    | cont => exact False.elim hq'
theorem pe_makeKS {E : L2.St → XK} (M : Mk X.K C f) (F : FnOk X.prog X.w X.K X.mg X.base CX k f fd ps sp) (hr : Room (k + 1) X.A) (hg : Gl X x) (hm : X.mg x = some (.ref C)) (hb : KBn X.K fd ps (n + 1) ks g gV) (hx : ∀ σ, PassesAt CX X σ (E σ)) (ha : PA X (e :: es) t) (hkw : PK X kws tk)
    (hall : (backToKw pos (keywordEach kws X.env)).all (·.1.isSome) = true := by rfl) (hks : (backToKw pos (keywordEach kws X.env)).filterMap (·.1) = ks := by rfl) (hdb : (x == ("__debug__" : Str)) = false := by decide)
    (he : starEach (e :: es) X.env = (false, eval e X.env) :: starEach es X.env := by rfl) (hpl : ((backTo pos (starEach (e :: es) X.env)).any (·.1) || (backToKw pos (keywordEach kws X.env)).any (·.1.isNone)) = false := by rfl) :
    PE X (.Call (.Name x p) (e :: es) kws pos) (tMakeKS C n ks.length sp gV E t tk) := by
  refine ⟨fun pins s σ H Q I h => ?_⟩
  refine wpAny_Call_Name_kw (ld_glob I hg hm ?_ hdb)
  refine PySem.W.callWith_KW (h₀ := X.base) I.ok.mod.kin M.kp hall (thn (ha.run pos pins s σ H _ I h) fun us s1 ⟨vs, H1, I1, r, q⟩ => ?_) hpl he
  refine thn (hkw.run pos pins s1 σ H1 _ I1 q) fun ws s2 ⟨zs, H2, I2, rz, l1, l2, q2⟩ => ⟨I2.kIn, ?_⟩
  rw [hks]
  exact run_makeKS M F hr hb (hx σ) I2 r rz l1 l2 q2
end
/-! two lists: not unlike since their items are the same, or data -/
def rNe2 (K : PySem.W.Frag) : R2 := fun x y H Q => rNeS K x y H Q ∨ rNeD K x y H Q
theorem op_ne2 {X : Cx} (hu : X.A.units + 64 < cLine) : OpR X (compareOp .NotEq) (rNe2 X.K) := by
  intro pins s σ H x y v u Q I rx ry h
  rcases h with h | h
  · exact op_neS hu pins s σ H x y v u Q I rx ry h
  · exact op_neD hu pins s σ H x y v u Q I rx ry h
/-! ### a def whose code object is known: it makes a lambda -/
structure FunC (K : PySem.W.Frag) (x qual : Str) (st : Stmt) (f : Addr) (fd : FuncData) (c : Addr) : Prop where
  ex : ∃ (oc : Value) (od : Option Addr) (kV doc pm : Value) (an : Option Addr) (ct : Value) (osl : Array (Option Value)),
    fd = PySem.W.fnOf x qual (defArgs st) (defBody st) (defScope st) .none kV doc pm an (.ref c) ct ∧ K.lookup f = some ⟨oc, od, .func fd, osl⟩ ∧ PySem.W.codeIn K (.ref c) qual = true
theorem FunC.ok {P : Program} {w : World} {K : PySem.W.Frag} {mg : Str → Option Value} {base : Heap} {x qual : Str} {st : Stmt} {f c : Addr} {fd : FuncData} {N ps : List Str} {k : Nat} {sp : Sp} (F : FunC K x qual st f fd c) (S : FnScope N ps (defScope st)) (len : ∀ vs H Q E, sp vs H Q E → vs.length = ps.length)
    (hbody : ∀ (A : Around) (outer : List Env) (s : Shared) (H : Hp) (vs : List V) (Q : VK) (E : XK), Room k (A.deeper (envOfC qual (defScope st) s.heap.objs.size f (.ref c))) → sp vs H Q E →
      ∃ t, PSs (cxOf CX0 P w K mg base N qual (defScope st) f (.ref c) A outer s H E).nox (defBody st) t ∧ t { nx := fun _ H' => Q .non H', rt := Q } (start N vs) H) : FnOk P w K mg base CX0 (k + 1) f fd ps sp := by
  obtain ⟨oc, od, kV, doc, pm, an, ct, osl, rfl, lk, hcd⟩ := F.ex
  refine fn_of lk hcd S len fun A outer s H vs Q E hr hsp => ?_
  obtain ⟨t, h, q⟩ := hbody A outer s H vs Q E hr hsp
  exact ⟨t, h.nox, q⟩
theorem funOfD {K : PySem.W.Frag} {x qual : Str} {st : Stmt} {kws : List (Str × V)} {f : Addr} {fd : FuncData} (F : FunD K x qual (defArgs st) (defBody st) (defScope st) [] kws f fd) : Fun K x qual st f fd := by
  obtain ⟨oc, od, dV, kV, doc, pm, an, cdv, ct, osl, h1, h2, h3, h4, _⟩ := F.ex
  rcases h4 with ⟨_, rfl⟩ | ⟨e, _⟩
  · exact ⟨⟨oc, od, kV, doc, pm, an, cdv, ct, osl, h1, h2, h3⟩, F.kp⟩
  · exact absurd rfl e
theorem funC_of {K : PySem.W.Frag} {x qual : Str} {st : Stmt} {kws : List (Str × V)} {p : Str × Option Str} {fd : FuncData} (F : FunD K x qual (defArgs st) (defBody st) (defScope st) [] kws (He.fAd K p) fd) : FunC K x qual st (He.fAd K p) fd (He.codeOf K p) := by
  obtain ⟨oc, od, dV, kV, doc, pm, an, cdv, ct, osl, h1, h2, h3, h4, _⟩ := F.ex
  rcases h4 with ⟨_, rfl⟩ | ⟨e, _⟩
  · obtain ⟨c, rfl⟩ := He.codeIn_ref h3
    have hc : He.codeOf K p = c := He.codeOf_eq h2 (by rw [h1])
    rw [hc]
    exact ⟨oc, od, kV, doc, pm, an, ct, osl, h1, h2, h3⟩
  · exact absurd rfl e
end
/-! ### `in` and len by own methods (k06, k08) -/
section
open PySem.Spec PySem.Calls PyProof.Rows
section
variable {X : Cx} {CX : CXT} {k : Nat} {f C : Addr} {fd : FuncData} {ps : List Str} {sp : Sp}
/-- x in y by the own __contains__ of y -/
def rInI (C : Addr) (sp : Sp) (E : XK) : R2 := fun x y H Q => ∃ (a dx : Addr) (fs : List (Str × V)), y = .ref a ∧ H a = some (.ins C dx fs) ∧ sp [.ref a, x] H (fun z H' => ∃ b, z = .bl b ∧ Q (.bl b) H') E
theorem op_inI {E : XK} (F : FnOk X.prog X.w X.K X.mg X.base CX k f fd ps sp) (hr : Room k X.A) (hb : Binds X.K fd ps []) (hs : PySem.W.findIn X.K (.ref C) "__contains__" = some (some (.ref f))) (hf : PySem.W.isFn X.K (.ref f) = true) (hx : Passes CX X E) : OpR X (compareOp .In) (rInI C sp E) := by
  intro pins s σ H x y v u Q I rx ry h
  obtain ⟨a, dx, fs, rfl, ha, q⟩ := h
  cases (show u = Value.ref a from ry)
  obtain ⟨mA, J, _⟩ := ins_get I.hok ha
  obtain ⟨od, J, _⟩ := J.look
  obtain ⟨m, hF⟩ := I.fr
  refine PySem.W.in_K hF I.ok.mod.kin J hs hf ?_
  refine wpAny_mono (run_fn (us := [.ref a, v]) (vs := [.ref a, x]) (ds := []) (dvs := []) F hr hb .nil hx I (.cons rfl (.cons rx .nil)) q) (fun w s' z => ?_) fun _ _ x => x
  obtain ⟨z', H', I', rz, qz⟩ := z
  obtain ⟨b, ez, qz⟩ := qz
  subst ez
  obtain rfl : w = .bool b := rz
  exact wpAny_truthy_bool ⟨.bl b, H', I', rfl, qz⟩
/-- x not in y -/
def rNiI (C : Addr) (sp : Sp) (E : XK) : R2 := fun x y H Q => ∃ (a dx : Addr) (fs : List (Str × V)), y = .ref a ∧ H a = some (.ins C dx fs) ∧ sp [.ref a, x] H (fun z H' => ∃ b, z = .bl b ∧ Q (.bl (!b)) H') E
theorem op_niI {E : XK} (F : FnOk X.prog X.w X.K X.mg X.base CX k f fd ps sp) (hr : Room k X.A) (hb : Binds X.K fd ps []) (hs : PySem.W.findIn X.K (.ref C) "__contains__" = some (some (.ref f))) (hf : PySem.W.isFn X.K (.ref f) = true) (hx : Passes CX X E) : OpR X (compareOp .NotIn) (rNiI C sp E) := by
  intro pins s σ H x y v u Q I rx ry h
  obtain ⟨a, dx, fs, rfl, ha, q⟩ := h
  cases (show u = Value.ref a from ry)
  obtain ⟨mA, J, _⟩ := ins_get I.hok ha
  obtain ⟨od, J, _⟩ := J.look
  obtain ⟨m, hF⟩ := I.fr
  refine PySem.W.notIn_K hF I.ok.mod.kin J hs hf ?_
  refine wpAny_mono (run_fn (us := [.ref a, v]) (vs := [.ref a, x]) (ds := []) (dvs := []) F hr hb .nil hx I (.cons rfl (.cons rx .nil)) q) (fun w s' z => ?_) fun _ _ x => x
  obtain ⟨z', H', I', rz, qz⟩ := z
  obtain ⟨b, ez, qz⟩ := qz
  subst ez
  obtain rfl : w = .bool b := rz
  exact wpAny_truthy_bool ⟨.bl (!b), H', I', rfl, qz⟩
/-- len(x) by the own __len__ of x -/
def rLenI (C : Addr) (sp : Sp) (E : XK) : List V → Hp → VK → Prop := fun xs H Q => ∃ (a dx : Addr) (fs : List (Str × V)), xs = [.ref a] ∧ H a = some (.ins C dx fs) ∧ sp [.ref a] H (fun z H' => ∃ n : Nat, z = .int n ∧ n < 1000000 ∧ Q (.int n) H') E
theorem call_lenI {E : XK} (F : FnOk X.prog X.w X.K X.mg X.base CX k f fd ps sp) (hr : Room (k + 1) X.A) (hb : Binds X.K fd ps []) (hs : PySem.W.findIn X.K (.ref C) "__len__" = some (some (.ref f))) (hf : PySem.W.isFn X.K (.ref f) = true) (hx : Passes CX X E) : CallR X (.builtin "len") (rLenI C sp E) := by
  intro pins s σ H xs us Q I r h
  obtain ⟨a, dx, fs, rfl, ha, q⟩ := h
  obtain ⟨u, rfl, ru⟩ := r.one
  cases (show u = Value.ref a from ru)
  obtain ⟨mA, J, _⟩ := ins_get I.hok ha
  obtain ⟨od, J, _⟩ := J.look
  obtain ⟨m, hF⟩ := I.fr
  have hr2 : Room k X.A.in1 := Room.in1 hr
  have hl := F.len _ _ _ _ q
  refine PySem.W.len_K hF I.ok.mod.kin J hs hf (wpAny_call (codeAny_mono (F.run X.A.in1 X.stack s H ⟨[.ref a], []⟩ [.ref a] [.ref a] _ E hr2 I.env0.in1 (by
    have := hb s [.ref a] I.kIn (by simpa using hl)
    simpa using this) (.cons rfl .nil) q) fun r s' hq => ?_))
  cases r with
  | error e => exact hx pins σ H s e s' I hq
  | ok fl =>
    cases fl with
    | ret w =>
      obtain ⟨z, H', I', rz, qz⟩ := I.after hq
      obtain ⟨n, ez, hn, qz⟩ := qz
      subst ez
      obtain ⟨tk, e⟩ := rz
      cases e
      exact ⟨⟨by omega, by omega⟩, .int n, H', I'.tok _, ⟨_, rfl⟩, qz⟩
    | next => exact False.elim hq
    | brk => exact False.elim hq
    | cont => exact False.elim hq
end
end
/-! ### one dict merged into another within a display (k08, k12, k13) -/
section
open PySem.Spec PySem.Calls PyProof.Rows
section
variable {prog : Program} {w : World} {K : Type} [DecidableEq K] {knd : KeyKind prog w K} {A : Around} {E : Value → Shared → Prop} {s : Shared}
theorem wpAny_dictPut_pairs {d : Addr} {kvs : List (K × Value)} {k : K} {key v : Value} {Q : Unit → Shared → Prop} (hkey : knd.is k key = true) (hm : s.heap.DictOf knd d kvs)
    (hQ : ∀ h', h'.DictOf knd d (stored kvs k v) → Heap.SameBut d s.heap h' → Q () { s with heap := h' })
    (hsz : kvs.length ≤ sizeLine) : wpAny (model prog w) A (dictPut d (knd.hash k) key v) Q E s := by
  obtain ⟨o, es, ep, ho, hc, hd, hk, hp, hn⟩ := hm
  have hes : es.size ≤ sizeLine := by
    have e1 := hp.length
    have e2 : es.toList.length = es.size := by simp
    omega
  unfold dictPut
  refine wpAny_bind (wpAny_dictFind_of hkey ho hd hk ?_)
  have hidx : (es.findIdx? fun e => knd.is k e.key) = kvs.findIdx? fun kv => decide (kv.1 = k) := by
    rw [← hp.findIdx k]; obtain ⟨l⟩ := es; simp
  cases hi : es.findIdx? fun e => knd.is k e.key with
  | some i =>
    refine wpAny_updateDict ho hd (hQ _ ⟨_, _, ep, Heap.get?_update_self _ ho (Obj.isFreed_of_dict (Obj.data_mapDict hd _)), hc.mapDict _, Obj.data_mapDict hd _, hk.modify _ _, ?_, ?_⟩ (Heap.SameBut.update ..))
    · rw [stored, if_pos (any_of_findIdx_some (hidx ▸ hi))]
      have hl : (es.toList.findIdx? fun e => knd.is k e.key) = some i := by rw [← hi]; obtain ⟨l⟩ := es; simp
      have := hp.modify hn hl v
      obtain ⟨l⟩ := es
      simpa using this
    · rw [stored, if_pos (any_of_findIdx_some (hidx ▸ hi)), keys_map_store]
      exact hn
  | none =>
    have hnot : k ∉ kvs.map (·.1) := not_mem_of_findIdx_none (hidx ▸ hi)
    have hany : ¬ (kvs.any fun kv => decide (kv.1 = k)) = true := by
      rw [List.any_eq_true]; rintro ⟨kv, hkv, he⟩
      exact hnot (List.mem_map.mpr ⟨kv, hkv, of_decide_eq_true he⟩)
    refine wpAny_updateDictKeys (hz := hes) ho hd (hQ _ ⟨_, _, ep + 1, Heap.get?_update_self _ ho (Obj.isFreed_of_dict (Obj.data_mapDictKeys hd _)), hc.mapDictKeys _, Obj.data_mapDictKeys hd _, hk.push hkey _, ?_, ?_⟩ (Heap.SameBut.update ..))
    · rw [stored, if_neg hany]
      have := hp.append hkey (knd.hash k) v
      obtain ⟨l⟩ := es
      simpa using this
    · rw [stored, if_neg hany, List.map_append, List.nodup_append]
      refine ⟨hn, by simp, fun a ha b hb e => ?_⟩
      simp only [List.map_cons, List.map_nil, List.mem_singleton] at hb
      exact hnot (by rw [← hb, ← e]; exact ha)
theorem wpAny_mergeMap {d a : Addr} {kvs more : List (K × Value)} {Q : Unit → Shared → Prop} (hda : d ≠ a) (haS : (a == sysModules) = false) (hd : s.heap.DictOf knd d kvs) (ha : s.heap.DictOf knd a more)
    (hQ : ∀ h', h'.DictOf knd d (merged kvs more) → Heap.SameBut d s.heap h' → Q () { s with heap := h' }) (hsz : kvs.length + more.length ≤ sizeLine) : wpAny (model prog w) A (mergeMapping d (.ref a) false) Q E s := by
  obtain ⟨od, esd, epd, hod, hcd, hdd, hkd, hpd, hnd⟩ := id hd
  obtain ⟨oo, eso, epo, hoo, hco, hdo', hko, hpo, hno⟩ := id ha
  have hlen : more.length = eso.size := by rw [← hpo.length]; simp
  unfold mergeMapping
  refine wpAny_bind (wpAny_isInstance (T := "dict") (b := true) ha.typeIs (by first | exact PySem.F.sub_dict_dict | (rw [isSubtype_type_eq]; kernel_rfl) | kernel_rfl | rfl) ?_)
  dsimp only
  rw [if_pos rfl]
  refine wpAny_bind (wpAny_specialOf ha.typeIs PySem.F.slot_dict_iter.lookup ?_)
  have hb : (some (Value.builtin "dict.__iter__") == some (Value.builtin "dict.__iter__")) = true := by decide
  rw [hb]
  refine wpAny_bind (wpAny_pure ?_)
  dsimp only
  rw [haS, if_neg Bool.false_ne_true]
  refine wpAny_bind (wpAny_dictEntries hod hdd ?_)
  have hq : (forIn eso PUnit.unit fun e (_ : PUnit) => (match e.key with
      | Value.ref a => do
        let l ← specialOf e.key (Str.ofString "__eq__")
        if (l != some (Value.builtin "object.__eq__")) = true then
            if (Array.filter (fun x => x.hash == e.hash) eso).size > 1 then do
              (unsupported "dict.merge-into-an-empty-dict:keys-of-equal-hash" : Sem PUnit)
              pure (ForInStep.yield PUnit.unit)
            else pure (ForInStep.yield PUnit.unit)
          else pure (ForInStep.yield PUnit.unit)
      | x => pure (ForInStep.yield PUnit.unit) : Sem (ForInStep PUnit))) = pure PUnit.unit := by
    rw [← Array.forIn_toList]
    refine forIn_yield_id _ fun e he c => ?_
    obtain ⟨k, hkey, _⟩ := hko e (Array.mem_toList_iff.mp he)
    have hv := knd.byValue k _ hkey
    cases q : e.key with
    | ref b =>
      rw [q] at hv
      cases hv
    | _ => rfl
  have loop : wpAny (model prog w) A (do
      let l ← dictEntries a
      let epoch ← dictEpoch a
      forIn (List.range l.size) PUnit.unit fun i (_ : PUnit) => (do
          let l ← dictEntries a
          match l[i]? with
            | some e => do
              holding [e.key, e.val] (if false = true then do
                  let l ← dictFind d e.key e.hash
                  if l.isSome = true then do
                      rule "dict.merge.duplicate-key"
                      let l ← newExc (Value.type "KeyError") [e.key]
                      let _ ← (raiseNew l : Sem PUnit)
                      dictPut d e.hash e.key e.val
                    else dictPut d e.hash e.key e.val
                else dictPut d e.hash e.key e.val)
              let l ← dictEpoch a
              if (l != epoch) = true then do
                  (unsupported "dict.changed-during-merge" : Sem PUnit)
                  pure (ForInStep.yield PUnit.unit)
                else pure (ForInStep.yield PUnit.unit)
            | x => do
              (unsupported "dict.changed-during-merge" : Sem PUnit)
              pure (ForInStep.yield PUnit.unit) : Sem (ForInStep PUnit))
      pure ()) Q E s := by
    refine wpAny_bind (wpAny_dictEntries hoo hdo' ?_)
    refine wpAny_bind (wpAny_dictEpoch hoo hdo' ?_)
    refine wpAny_bind ?_
    rw [List.range_eq_range']
    refine wpAny_forIn_list _
      (fun rest _ s' => ∃ h' i, s' = { s with heap := h' } ∧ rest = List.range' i (eso.size - i) ∧ i ≤ eso.size ∧ h'.DictOf knd d (merged kvs (more.take i)) ∧ h'.get? a = some oo ∧ Heap.SameBut d s.heap h')
      _ ?_ ?_ _ _ ⟨s.heap, 0, rfl, by simp, Nat.zero_le _, by simpa [merged] using hd, hoo, Heap.SameBut.refl _ _⟩
    · rintro x rest b s' ⟨h', i, rfl, hr, hi, hd', hoo', hs'⟩
      have hlt : i < eso.size := by
        rcases Nat.lt_or_ge i eso.size with h | h
        · exact h
        · rw [Nat.sub_eq_zero_of_le h] at hr; simp at hr
      obtain ⟨rfl, hrest⟩ : x = i ∧ rest = List.range' (i + 1) (eso.size - (i + 1)) := by
        have e : eso.size - i = (eso.size - (i + 1)) + 1 := by omega
        rw [e, List.range'_succ] at hr
        injection hr with h1 h2
        exact ⟨h1, h2⟩
      refine wpAny_bind (wpAny_dictEntries hoo' hdo' ?_)
      rw [Array.getElem?_eq_getElem hlt]
      obtain ⟨kv, hkv⟩ : ∃ kv, more[x]? = some kv := ⟨more[x]'(by rw [hlen]; exact hlt), List.getElem?_eq_getElem _⟩
      obtain ⟨k, v⟩ := kv
      obtain ⟨hkey, hval⟩ := hpo.get? (e := eso[x]) (by simp [hlt]) hkv
      obtain ⟨k', hkey', hhash⟩ := hko eso[x] (Array.getElem_mem hlt)
      obtain rfl : k' = k := knd.inj _ _ _ hkey' hkey
      dsimp only
      rw [if_neg Bool.false_ne_true, hhash, hval]
      have hmx : (merged kvs (more.take x)).length ≤ sizeLine := by
        have e1 := merged_length_le kvs (more.take x)
        have e2 : (more.take x).length ≤ more.length := by rw [List.length_take]; omega
        omega
      refine wpAny_bind (wpAny_holding (wpAny_dictPut_pairs hkey hd' (fun h'' hd'' hs'' => ?_) hmx))
      have hoo'' : h''.get? a = some oo := (hs''.2 a (Ne.symm hda)).trans hoo'
      refine wpAny_bind (wpAny_dictEpoch hoo'' hdo' ?_)
      rw [if_neg (by simp)]
      exact wpAny_pure ⟨h'', x + 1, rfl, hrest, hlt, by rw [merged_take_succ kvs more x (k', v) hkv]; exact hd'', hoo'', hs'.trans hs''⟩
    · rintro b s' ⟨h', i, rfl, hr, hi, hd', hoo', hs'⟩
      have hin : i = eso.size := by
        rcases Nat.lt_or_ge i eso.size with h | h
        · have e : eso.size - i = (eso.size - (i + 1)) + 1 := by omega
          rw [e, List.range'_succ] at hr; exact nomatch hr
        · exact Nat.le_antisymm hi h
      refine wpAny_pure (hQ h' ?_ hs')
      rw [hin, ← hlen, List.take_length] at hd'
      exact hd'
  split
  · refine wpAny_bind (wpAny_dictEntries hoo hdo' ?_)
    exact wpAny_bind (wpAny_of_eq hq loop)
  · exact loop
end
end
section
open PySem.Spec PySem.Calls PyProof.Rows
/-- {**e, k: v}: the new dict stands empty while e is read; the pair stands in a dict of its own -/
def tDStar (te tk tv : TE) : TE := fun σ H Q => ∀ d, H d = none → te σ (upd H d (.dK [])) fun x H1 => ∃ (a : Addr) (kvs : List (Key × V)), x = .ref a ∧ Rd H1 a (.dK kvs) ∧ H1 d = some (.dK []) ∧ a ≠ d ∧ kvs.length ≤ 1000 ∧
  ∀ d2, upd H1 d (.dK (mergeK [] kvs)) d2 = none → tk σ (upd (upd H1 d (.dK (mergeK [] kvs))) d2 (.dK [])) fun y H2 => tv σ H2 fun z H3 => ∃ kk : Key, y = kV kk ∧ H3 d2 = some (.dK []) ∧ H3 d = some (.dK (mergeK [] kvs)) ∧ d2 ≠ d ∧
    Q (.ref d) (upd (upd H3 d2 (.dK [(kk, z)])) d (.dK (putK (mergeK [] kvs) kk z)))
theorem pe_dstar {X : Cx} {pos : Pos} {e k v : Expr} {te tk tv : TE} (he : PE X e te) (hk : PE X k tk) (hv : PE X v tv) : PE X (.Dict [none, some k] [e, v] pos) (tDStar te tk tv) := by
  refine ⟨fun pins s σ H Q I h => ?_⟩
  rw [arm_eval_Dict]
  refine wpAny_bind (wpAny_standAt ?_)
  have hz : (evalEachOpt [none, some k] X.env).zip ((evalEach [e, v] X.env).map fun v => do let x ← v; standAt pos; pure x) = [(none, do let x ← eval e X.env; standAt pos; pure x), (some (eval k X.env), do let x ← eval v X.env; standAt pos; pure x)] := rfl
  rw [hz]
  unfold dictDisplay
  simp only [List.forIn_cons, List.forIn_nil, List.isEmpty_nil, if_true, List.nil_append, pure_bind]
  refine wpAny_bind (wpAny_bind (wpAny_bind (wpAny_alloc ?_)))
  have hn := I.hok.fresh (Nat.le_refl s.heap.objs.size)
  have I1 := I.laid (a := s.heap.objs.size) (o := .dK []) (h' := s.heap.push { cls := .type "dict", data := .dict #[] }) (t' := s.toks) (fun _ _ q => Heap.get?_push_of_some _ q) (Nat.le_refl _) (dk_empty s.heap I.big)
  refine wpAny_bind (wpAny_holding (wpAny_bind (thn (he.run pins _ σ _ _ I1 (h _ hn)) fun u s2 ⟨x, H1, I2, rx, a, kvs, ex, ra, e1, nad, hzl, q⟩ => wpAny_bind (wpAny_standAt (wpAny_pure ?_)))))
  subst ex
  obtain rfl : u = Value.ref a := rx
  generalize s.heap.objs.size = d at *
  obtain ⟨_, haS, vsA, relA, ddA⟩ := dk_rd I2.hok ra
  obtain ⟨_, hdS, vs0, r0, dd0⟩ := dk_of I2.hok e1
  cases r0
  have lA : vsA.length = kvs.length := relA.length.symm
  refine wpAny_bind (wpAny_onRaise (wpAny_tryCatch (wpAny_onRaise (wpAny_holding (wpAny_mergeMap (Ne.symm nad) haS dd0 ddA (fun h' dd' hs => ?_) (by
    have : (1000 : Nat) ≤ sizeLine := by decide
    rw [List.length_nil]
    omega))))))
  have hzm : (mergeK [] kvs).length ≤ sizeLine := by
    have h1 := length_mergeK kvs []
    rw [List.length_nil] at h1
    have : (1000 : Nat) ≤ sizeLine := by decide
    omega
  have hex : ∃ q, h'.get? d = some q := let ⟨q, _, _, hq, _⟩ := dd'; ⟨q, hq⟩
  have I3 := d_write (t' := s2.toks) I2 (by rw [e1]; exact True.intro) hs hex (dk_new hzm hdS (relA.merge .nil) dd')
  refine wpAny_pure ?_
  dsimp only
  rw [if_neg (by simp)]
  refine wpAny_bind (wpAny_pure (wpAny_pure ?_))
  dsimp only [List.nil_append]
  rw [if_neg (by simp)]
  have hn2 := I3.hok.fresh (Nat.le_refl h'.objs.size)
  have I4 := I3.laid (a := h'.objs.size) (o := .dK []) (h' := h'.push { cls := .type "dict", data := .dict #[] }) (t' := s2.toks) (fun _ _ q => Heap.get?_push_of_some _ q) (Nat.le_refl _) (dk_empty h' I3.big)
  refine wpAny_bind (wpAny_bind (wpAny_holding (wpAny_subDict (knd := mixKind X.prog X.w) (by simp) ?_)))
  refine evalPairs_cons (thn (hk.run pins _ σ _ _ I4 (q _ hn2)) fun u s4 ⟨y, H2, I5, ry, q2⟩ => wpAny_bind (thn (hv.run pins s4 σ H2 _ I5 q2) fun w5 s5 ⟨z, H3, I6, rz, kk, ey, e2, e3, nd, qf⟩ => wpAny_bind (wpAny_standAt (wpAny_pure (evalPairs_nil ?_)))))
  subst ey
  have rel : VV ([(kk, z)].map fun kv : Key × V => (kV kv.1, kv.2)) [(u, w5)] := .cons ⟨ry, rz⟩ .nil
  obtain ⟨rs, c, rk⟩ := carries_of (P := X.prog) (w := X.w) rel
  generalize h'.objs.size = d2 at *
  obtain ⟨_, hdS2, vs2, r2, dd2⟩ := dk_of I6.hok e2
  cases r2
  refine ⟨rs, c, dd2, fun h3 dd3 hs3 => ?_⟩
  have hex3 : ∃ q, h3.get? d2 = some q := let ⟨q, _, _, hq, _⟩ := dd3; ⟨q, hq⟩
  have I7 := d_write (t' := s5.toks + 1) I6 (by rw [e2]; exact True.intro) hs3 hex3 (dk_new (kvs := mergeK [] [(kk, z)]) (show (1 : Nat) ≤ sizeLine by decide) hdS2 (rk.merge .nil) dd3)
  have e7 : (upd H3 d2 (.dK (mergeK [] [(kk, z)]))) d = some (.dK (mergeK [] kvs)) := by
    rw [upd_ne (Ne.symm nd)]
    exact e3
  obtain ⟨_, hdS7, vs7, r7, dd7⟩ := dk_of I7.hok e7
  obtain ⟨_, _, vs8, r8, dd8⟩ := dk_of I7.hok (a := d2) upd_same
  have l7 : vs7.length ≤ 1000 := by
    have h1 := length_mergeK kvs []
    rw [List.length_nil] at h1
    have h2 : vs7.length = (mergeK [] kvs).length := r7.length.symm
    omega
  have l8 : vs8.length = 1 := r8.length.symm
  have big : (2000 : Nat) ≤ sizeLine := by decide
  refine wpAny_bind (wpAny_onRaise (wpAny_holding (wpAny_mergeMap (Ne.symm nd) hdS2 dd7 dd8 (fun h4 dd4 hs4 => ?_) (by omega))))
  have hex4 : ∃ q, h4.get? d = some q := let ⟨q, _, _, hq, _⟩ := dd4; ⟨q, hq⟩
  have hz4 : (mergeK (mergeK [] kvs) (mergeK [] [(kk, z)])).length ≤ sizeLine := by
    have h1 := length_mergeK (mergeK [] [(kk, z)]) (mergeK [] kvs)
    have h2 : (mergeK [] [(kk, z)] : List (Key × V)).length = 1 := rfl
    have h3 := length_mergeK kvs []
    rw [List.length_nil] at h3
    omega
  have I8 := d_write (t' := s5.toks + 1) I7 (by rw [e7]; exact True.intro) hs4 hex4 (dk_new hz4 hdS (r8.merge r7) dd4)
  exact wpAny_pure (wpAny_pure ⟨.ref d, _, I8, rfl, qf⟩)
end
/-! ### methods called where what leaves them hangs on the slots, with keywords too; a dict comprehension kept in a local -/
section
open PySem.Spec PySem.Calls PyProof.Rows
def tMethA (C : Addr) (m : Str) (sp : Sp) (E : L2.St → XK) (ta : TE) (t : TA) : TE := fun σ H Q => ta σ H fun x H1 => ∃ a dx fs, x = .ref a ∧ H1 a = some (.ins C dx fs) ∧ fs.lookup m = none ∧ t σ H1 fun vs H2 => sp (x :: vs) H2 Q (E σ)
def tMethKw (C : Addr) (m : Str) (nk : Nat) (sp : Sp) (g : List V → List V → List V) (E : L2.St → XK) (ta : TE) (tk : TA) : TE := fun σ H Q => ta σ H fun x H1 => ∃ a dx fs, x = .ref a ∧ H1 a = some (.ins C dx fs) ∧ fs.lookup m = none ∧ tk σ H1 fun zs H2 => zs.length = nk ∧ sp (g [x] zs) H2 Q (E σ)
section
variable {X : Cx} {CX : CXT} {k : Nat} {f C : Addr} {fd : FuncData} {ps ks : List Str} {sp : Sp} {E : L2.St → XK} {m : Str} {apos pos : Pos} {o e : Expr} {es : List Expr} {kws : List Keyword} {ta : TE} {t tk : TA} {g : {α : Type} → List α → List α → List α} {pl : Sem Bool}
theorem pe_methA (he : PE X o ta) (c : Cls X.K C) (hm : Meth X.K C m f) (F : FnOk X.prog X.w X.K X.mg X.base CX k f fd ps sp) (hr : Room k X.A) (hb : Binds X.K fd ps []) (hx : ∀ σ, PassesAt CX X σ (E σ)) (ha : PA X (e :: es) t)
    (hst : starEach (e :: es) X.env = (false, eval e X.env) :: starEach es X.env := by rfl) (hpl : (backTo pos (starEach es X.env)).any (·.1) = false := by rfl)
    (ht : eval (.Call (.Attribute o m apos) (e :: es) [] pos) X.env = (do
      let ov ← eval o X.env
      standAt apos.atName
      let (f, first) ← holding [ov] (getMethod ov m pl)
      callWith pos f first (backTo pos (starEach (e :: es) X.env)) (backToKw pos (keywordEach [] X.env))) := by rfl) :
    PE X (.Call (.Attribute o m apos) (e :: es) [] pos) (tMethA C m sp E ta t) := by
  refine ⟨fun pins s σ H Q I h => ?_⟩
  refine PySem.W.methodCall_KW (pl := pl) (thn (he.run pins s σ H _ I h) fun u s1 got => ?_) ht
  obtain ⟨x, H1, I1, rx, a, dx, fs, rfl, ea, l, q⟩ := got
  cases (show u = Value.ref a from rx)
  refine getmeth_ok I1 ea c hm l ?_
  refine PySem.W.callWith_K (first := [.ref a]) (h₀ := X.base) I.ok.mod.kin hm.kp (thn (ha.run pos pins s1 σ H1 _ I1 q) fun us s2 got => ?_) hst hpl
  obtain ⟨vs, H2, I2, r, q2⟩ := got
  exact ⟨I2.kIn, run_fnS (us := .ref a :: us) (vs := .ref a :: vs) F hr hb (hx σ) I2 (.cons rfl r) q2⟩
/-- o.m(k = v, ..) -/
theorem pe_methKw (he : PE X o ta) (c : Cls X.K C) (hm : Meth X.K C m f) (F : FnOk X.prog X.w X.K X.mg X.base CX k f fd ps sp) (hr : Room k X.A) (hb : KwB X.K fd ps 1 ks g) (hx : ∀ σ, PassesAt CX X σ (E σ)) (hkw : PK X kws tk)
    (hall : (backToKw pos (keywordEach kws X.env)).all (·.1.isSome) = true := by rfl) (hks : (backToKw pos (keywordEach kws X.env)).filterMap (·.1) = ks := by rfl)
    (hpl : ((backTo pos (starEach [] X.env)).any (·.1) || (backToKw pos (keywordEach kws X.env)).any (·.1.isNone)) = false := by rfl)
    (ht : eval (.Call (.Attribute o m apos) [] kws pos) X.env = (do
      let ov ← eval o X.env
      standAt apos.atName
      let (f, first) ← holding [ov] (getMethod ov m pl)
      callWith pos f first (backTo pos (starEach [] X.env)) (backToKw pos (keywordEach kws X.env))) := by rfl) :
    PE X (.Call (.Attribute o m apos) [] kws pos) (tMethKw C m ks.length sp g E ta tk) := by
  refine ⟨fun pins s σ H Q I h => ?_⟩
  refine PySem.W.methodCall_KW (pl := pl) (thn (he.run pins s σ H _ I h) fun u s1 got => ?_) ht
  obtain ⟨x, H1, I1, rx, a, dx, fs, rfl, ea, l, q⟩ := got
  cases (show u = Value.ref a from rx)
  refine getmeth_ok I1 ea c hm l ?_
  refine PySem.W.callWith_KW0 (first := [.ref a]) (h₀ := X.base) I.ok.mod.kin hm.kp hall ?_ hpl
  refine thn (hkw.run pos pins s1 σ H1 _ I1 q) fun ws s2 got => ?_
  obtain ⟨zs, H2, I2, rz, l2, q2⟩ := got
  rw [hks]
  exact ⟨I2.kIn, run_kw (us := [.ref a]) (vs := [.ref a]) F hr hb (hx σ) I2 (.cons rfl .nil) rz rfl l2 q2⟩
end
theorem kwB_of {K : PySem.W.Frag} {x qual : Str} {st : Stmt} {f : Addr} {fd : FuncData} {ps ks : List Str} {n : Nat} {g : {α : Type} → List α → List α → List α} (F : Fun K x qual st f fd)
    (h : ∀ (kV doc pm : Value) (an : Option Addr) (cdv ct : Value) (us ws : List Value), us.length = n → ws.length = ks.length → bindArgs (PySem.W.fnOf x qual (defArgs st) (defBody st) (defScope st) .none kV doc pm an cdv ct) ⟨us, ks.zip ws⟩ = pure (ps.zip (g us ws)))
    (rel : ∀ {vs : List V} {us : List Value} {zs : List V} {ws : List Value}, vs.length = n → zs.length = ks.length → Vals vs us → Vals zs ws → Vals (g vs zs) (g us ws)) : KwB K fd ps n ks g := by
  obtain ⟨oc, od, kV, doc, pm, an, cdv, ct, osl, rfl, lk, hcd⟩ := F.ex
  exact ⟨h kV doc pm an cdv ct, rel⟩
/-- name = {k: v for ..} -/
theorem ps_setDc {X : Cx} {i : Nat} {y : Str} {py : Pos} {kx vx tg iter : Expr} {ifs : List Expr} {scope : Scope} {own : List (Str × Nat)} {pos spos : Pos} {wi : TI} {g : TG} {tt : TT} {tk tv : TE} (hc : X.calm = true) (hN : X.N.Nodup) (hy : X.N[i]? = some y) (hyl : X.env.scope.names.lookup y = some .local)
    (hsw : swapsWith (.DictComp kx vx [⟨tg, iter, ifs, 0⟩] scope pos) (some (.Name y py)) spos.line X.env = pure true) (hi : PI X tg iter wi) (ok : BlkOk X.N X.env.scope scope own)
    (hg : ∀ (s : Shared) (H : Hp) (C : Addr) (cl : List (Str × Addr)) (fp : List Addr), PG (X.blk s H scope (compEnvC scope cl C X.env) fp) tg g) (ht : ∀ (s : Shared) (H : Hp) (C : Addr) (cl : List (Str × Addr)) (fp : List Addr), PTs (X.blk s H scope (compEnvC scope cl C X.env) fp) ifs tt)
    (hk : ∀ (s : Shared) (H : Hp) (C : Addr) (cl : List (Str × Addr)) (fp : List Addr), PE (X.blk s H scope (compEnvC scope cl C X.env) fp) kx tk)
    (he : ∀ (s : Shared) (H : Hp) (C : Addr) (cl : List (Str × Addr)) (fp : List Addr), PE (X.blk s H scope (compEnvC scope cl C X.env) fp) vx tv) (hs : ∀ x, foldedSetIterable iter X.env x = pure x := by intro _; rfl) :
    PS X (.Assign [.Name y py] (.DictComp kx vx [⟨tg, iter, ifs, 0⟩] scope pos) spos) (tAsg (tDc wi g tt tk tv (own.map (·.2))) (gName i)) := by
  refine ⟨fun pins s σ H D I h => ?_⟩
  rw [exec_Assign_Name_used _ _ _ _ hsw]
  refine wpAny_bind (wpAny_standAt (wpAny_bind ?_))
  show wpAny _ X.A (do let _ ← comprehension (.DictComp kx vx [⟨tg, iter, ifs, 0⟩] scope pos) scope X.env (firstIterPos [⟨tg, iter, ifs, 0⟩] pos) newDict false (eval iter X.env) (some (assign (.Name y py) X.env))) _ _ s
  have h : tDc wi g tt tk tv (own.map (·.2)) σ H (fun x H1 => gName i x σ H1 D.nx) := h
  refine wpAny_bind (thn (dc_core (Qf := fun _ s' => SP X pins D .next s') hc hN I hi ok hg ht hk he hs h fun L C s' m H' I' q hn f => ?_) fun _ s' hq => wpAny_pure (wpAny_pure hq))
  show wpAny _ _ (assign (.Name y py) X.env (.ref L)) _ _ _
  refine wpAny_assign_Name (store_ok2 (v := V.ref L) I' hN hy (.inl hyl) rfl (fun s2 I2 z => ?_) (.inr hyl))
  obtain ⟨a, sb, ha⟩ := z
  obtain ⟨f0, f1, f2, f3, f4, f5⟩ := f
  have haC : C ≠ a := by
    rcases ha with z | z
    · rw [z]; exact f1
    · exact fun e => f4 y a z e.symm
  refine ⟨m, hn.sameBut sb haC, fun h3 sb3 => ?_⟩
  exact ⟨_, H', I2.turned (t' := s2.toks) (fun b o hb e => (sb3.2 b hb).trans e) f0 f1 f3 f4 f5, q⟩
theorem sw_trueD {kx vx : Expr} {gs : List Comprehension} {scope : Scope} {pos py : Pos} {y : Str} {l : Nat} {env : Env} (hk : env.scope.kind = .function) (hy : env.scope.names.lookup y = some .local) (hl : (py.line == pos.line) = true)
    (ha : (scope.names.any fun (n, k) => n == y && (k == .local || k == .cell)) = false) : swapsWith (.DictComp kx vx gs scope pos) (some (.Name y py)) l env = pure true := by
  have ky : env.kindOf y = some .local := hy
  have hb : env.blockKind = .function := by unfold Env.blockKind; rw [hk]; rfl
  unfold swapsWith
  simp only [hb, ky, ha, Expr.pos, hl]
  rfl
end
/-! ### x in a list of texts, x data or a dict -/
section
open PySem.Spec PySem.Calls PyProof.Rows PySem.SeqAt
theorem str_eq_declines_dict (b : Str) (u : Tok) (l : Addr) (c : Value) (es : Array DictEntry) (n : Nat) (dd : Option Addr) (sl : Array (Option Value)) :
    Meets (Builtin.«str.__eq__» ⟨[.str b u, .ref l], []⟩) (fun _ R s => s.heap.get? l = some { cls := c, dict := dd, data := .dict es n, slots := sl } ∧ R (.ok (.ret .notImplemented)) s) :=
  .of_wp fun prog w A R s h => by obtain ⟨hp, g, d, tk, os⟩ := s; obtain ⟨hl, h⟩ := h; wp_walk using wpAny_loadPart' hl, wpAny_load hl; exact ⟨_, rfl, h⟩
theorem dict_eq_declines_str (l : Addr) (es : Array DictEntry) (n : Nat) (dd : Option Addr) (sl : Array (Option Value)) (b : Str) (u : Tok) :
    Meets (Builtin.«dict.__eq__» ⟨[.ref l, .str b u], []⟩) (fun _ R s => s.heap.get? l = some { cls := .type "dict", dict := dd, data := .dict es n, slots := sl } ∧ R (.ok (.ret .notImplemented)) s) :=
  .of_wp fun prog w A R s h => by obtain ⟨hp, g, d, tk, os⟩ := s; obtain ⟨hl, h⟩ := h; have f1 := F.sub_str_dict; wp_walk using wpAny_loadPart' hl; exact ⟨_, rfl, h⟩
section
variable {A : Around} {s : Shared}
theorem rc_str_dict {l : Addr} {es : Array DictEntry} {n : Nat} {dd : Option Addr} {sl : Array (Option Value)} (b : Str) (u : Tok) (ho : s.heap.get? l = some { cls := .type "dict", dict := dd, data := .dict es n, slots := sl }) (hu : A.units < cLine) : SeqAt.RcAt A s (.str b u) (.ref l) false := fun prog w E Q h => by
  exact rc_eq_decline_or (k := false) (typeIs_str s b u) ⟨_, ho, rfl⟩ (by decide) F.sub_dict_str F.slot_str_eq F.slot_dict_eq_refl
    (fun _ hq => call_meets F.slot_str_eq (typeIs_str s b u) F.entry_str_eq (F.args_str_eq_2 _ _) (str_eq_declines_dict b u l (.type "dict") es n dd sl) ⟨ho, hq⟩)
    (fun _ hq => call_meets F.slot_dict_eq_refl ⟨_, ho, rfl⟩ F.entry_dict_eq (F.args_dict_eq_2 _ _) (dict_eq_declines_str l es n dd sl b u) ⟨ho, hq⟩)
    (fun _ hq => wpAny_of_eq (rfl : isSame (.str b u) (.ref l) = pure false) hq) (.inr hu) h
theorem eq_str_dict {l : Addr} {es : Array DictEntry} {n : Nat} {dd : Option Addr} {sl : Array (Option Value)} (b : Str) (u : Tok) (ho : s.heap.get? l = some { cls := .type "dict", dict := dd, data := .dict es n, slots := sl }) (hu : A.units < cLine) : SeqAt.EqAt A s (.str b u) (.ref l) false := fun prog w E Q h => by
  unfold eqBool
  refine wpAny_holding ?_
  refine wpAny_ite_split (fun hab => absurd (eq_of_beq hab) nofun) (fun _ => ?_)
  exact wpAny_bind (rc_str_dict b u ho hu prog w E _ (wpAny_truthy_bool h))
end

/-- x in l, l a list of texts -/
def inO (ns : List Str) : Option PyData → Bool
  | some (.str s) => decide (s ∈ ns)
  | _ => false
def rInS (K : PySem.W.Frag) : R2 := fun x y H Q => ∃ p ss o, y = .ref p ∧ SqL K H p (ss.map V.str) ∧ VD K H x o ∧ SeqAt.shaped (.list (ss.map PyData.str)) = true ∧ Q (.bl (inO ss o)) H
theorem inO_eqv (ss : List Str) (d : PyData) : ((ss.map PyData.str).any fun z => PyData.eqv z d) = inO ss (some d) := by
  rw [List.any_map]
  cases d with
  | str s =>
    show (ss.any fun z => PyData.eqv (.str z) (.str s)) = decide (s ∈ ss)
    rw [Bool.eq_iff_iff, List.any_eq_true, decide_eq_true_iff]
    constructor
    · rintro ⟨z, hz, e⟩
      have : z = s := by simpa [PyData.eqv] using e
      rw [← this]
      exact hz
    · intro h
      exact ⟨s, h, by simp [PyData.eqv]⟩
  | _ =>
    show (ss.any _) = false
    rw [List.any_eq_false]
    intro z _
    simp [PyData.eqv]
theorem op_inS {X : Cx} (hu : X.A.units + 65 < cLine) : OpR X (compareOp .In) (rInS X.K) := by
  intro pins s σ H x y v u Q I rx ry h
  obtain ⟨p, ss, o, rfl, hl, hv, sh, q⟩ := h
  cases hv with
  | dat a b c =>
    refine op_inD hu pins s σ H x _ v u Q I rx ry ⟨_, _, a, .lst hl (dpAll_strs _), b, sh, ?_⟩
    rw [inO_eqv]
    exact q
  | @dic a kvs hd =>
    cases (show v = Value.ref a from rx)
    cases (show u = Value.ref p from ry)
    obtain ⟨its, r, pl, hz⟩ := I.list hl
    obtain ⟨_, _, vs, _, ob, es, ep, ho, ⟨hc, hdd⟩, hdt, _⟩ := dk_of I.hok hd
    obtain ⟨oc, od, odt, osl⟩ := ob
    have hc : oc = .type "dict" := hc
    have hdt : odt = .dict es ep := hdt
    subst hc hdt
    refine SeqAt.in_listAt (fun _ => false) pl.isList (fun w hw => ?_) ⟨.bl _, H, I, rfl, ?_⟩
    · have : ∃ t tk, w = Value.str t tk := by
        have key : ∀ {l : List Str} {us : List Value}, Vals (l.map V.str) us → ∀ w ∈ us, ∃ t tk, w = Value.str t tk := by
          intro l
          induction l with
          | nil =>
            intro us h w hw
            cases h
            cases hw
          | cons z l ih =>
            intro us h w hw
            cases h with
            | cons a b =>
              rcases List.mem_cons.mp hw with rfl | hw
              · obtain ⟨tk, e⟩ := a
                exact ⟨z, tk, e⟩
              · exact ih b w hw
        exact key r w (by simpa using hw)
      obtain ⟨t, tk, rfl⟩ := this
      exact eq_str_dict t tk ho (by show X.A.in1.units < cLine; have : X.A.in1.units ≤ X.A.units + 1 := Nat.le_refl _; omega)
    · have : (its.toArray.any fun _ => false) = false := by simp
      rw [this]
      exact q
end
/- wants the import KE.KUnpackStar; `a, *b = t` for tuples: target (pg_tupS hc (pgs_cons .. (pgs_star .. pgs_nil))), term gTupS K n i (gCons .. (gCons .. gNil)) -/
section
open PySem.Spec PySem.Calls PyProof.Rows
/-! ### a, *b = a tuple -/
section
variable {X : Cx} {pos : Pos}
/-- n targets, the starred one behind i others: what lies between becomes a new list -/
def gTupS (K : PySem.W.Frag) (n i : Nat) (t : TGs) : TG := fun v σ H Q => ∃ a xs, v = .ref a ∧ SqT K H a xs ∧ n ≤ xs.length + 1 ∧
  ∀ q, H q = none → t (xs.take i ++ [.ref q] ++ (xs.drop i).drop (xs.length + 1 - n)) σ (upd H q (.lst ((xs.drop i).take (xs.length + 1 - n)))) Q
/-- the starred one among the targets -/
theorem pgs_star {tgt : Expr} {sp : Pos} {more : List Expr} {g : TG} {gs : TGs} (one : PG X tgt g) (rest : PGs X more gs)
    (two : (assignEach (.Starred tgt sp :: more) X.env).map Prod.snd = assign tgt X.env :: (assignEach more X.env).map Prod.snd := by rfl) :
    PGs X (.Starred tgt sp :: more) (gCons g gs) where
  run := fun pins s σ H vs us Q I => fun
    | .cons r rr, ⟨_, _, e, q⟩ => by
      injection e with e1 e2
      subst e1 e2
      have start := one.run pins s σ H _ _ _ I r q
      show wpAny _ _ (assignInOrder ((assignEach (.Starred tgt sp :: more) X.env).map Prod.snd) _) _ _ _
      rw [two]
      exact PyProof.Rows.assignInOrder_cons (thn start fun _ s1 ⟨σ1, H1, I1, q1⟩ => rest.run pins s1 σ1 H1 _ _ Q I1 rr q1)
    | .nil, ⟨_, _, e, _⟩ => nomatch e
/-- what unpacking hands out, by a tuple's iterator that has gone i steps -/
theorem star_items {A : Around} {E : Value → Shared → Prop} {P : Program} {w : World} {s : Shared} {t : Addr} {its : List Value} {n i : Nat} {R : List Value → Shared → Prop}
    (calm : A.handled = none) (ht : IsTup s.heap t its.toArray) (hi : i < n) (hn : n ≤ its.length + 1) (hz : its.length ≤ sizeLine)
    (out : ∀ (g : Heap) (tk : Nat), (∀ b u, s.heap.get? b = some u → g.get? b = some u) →
      R (its.take i ++ [.ref g.objs.size] ++ (its.drop i).drop (its.length + 1 - n)) { s with heap := g.push { cls := .type "list", data := .seq ((its.drop i).take (its.length + 1 - n)).toArray }, toks := tk }) :
    wpAny (model P w) A (unpackItems (.ref t) n (some i)) R E s := by
  have far : t ≠ s.heap.objs.size := by
    obtain ⟨_, e, _⟩ := ht
    exact Nat.ne_of_lt (Heap.lt_size e)
  have big : its.toArray.size = its.length := List.size_toArray
  have back : its.toArray.toList = its := rfl
  have head : (its.take i).length = i := by
    rw [List.length_take]
    omega
  have tail : (its.drop i).length = its.length - i := List.length_drop
  have amid : its.length - i - (n - 1 - i) = its.length + 1 - n := by omega
  unfold unpackItems notIterableAtAll
  refine wpAny_bind (wpAny_bind (wpAny_specialOf ht.typeIs slot_tuple_iter.lookup (wpAny_pure ?_)))
  simp only [if_false, Bool.false_eq_true]
  refine wpAny_bind (wpAny_holding (iter_tuple ht (wpAny_bind (wpAny_holding (draw_tuple far i 0 _ _ ⟨_, Heap.get?_push_size _ rfl, rfl, rfl⟩ (ht.push _) (by omega) fun g1 at1 sb => ?_)))))
  have t1 : IsTup g1 t its.toArray := (ht.push _).extBut sb.extBut far
  rw [Nat.zero_add] at at1
  rw [List.drop_zero, back, if_neg (by omega)]
  have here1 : ∃ u, g1.get? s.heap.objs.size = some u := at1.imp fun _ e => e.1
  have here2 : ∃ u, g1.get? t = some u := t1.imp fun _ e => e.1
  obtain ⟨_, e1⟩ := here1
  obtain ⟨_, e2⟩ := here2
  have walk := Walks.tuple (prog := P) (w := w) (A := A.in1) calm s.heap.objs.size t far its.toArray
  refine wpAny_bind (wpAny_holding (PySem.W.kun_collect (s := { s with heap := g1 }) (T := "tuple_iterator") (.inr (.inr (.inr rfl))) walk (fun _ _ z => z.1.typeIs) (by omega) ⟨at1, t1⟩ (Heap.lt_size e1) (Heap.lt_size e2) (fun g tk keep => ?_) (by omega)))
  rw [back]
  show wpAny _ _ (if (its.drop i).length < n - 1 - i then _ else _) _ _ _
  rw [if_neg (by omega), tail, amid]
  have kept : ∀ b u, s.heap.get? b = some u → g.get? b = some u := fun b u e => keep b u (Nat.ne_of_lt (Heap.lt_size e)) (sb.extBut b u (Nat.ne_of_lt (Heap.lt_size e)) (Heap.get?_push_of_some _ e))
  exact wpAny_bind (wpAny_newList (wpAny_pure (out g tk kept)) (by rw [List.length_take]; omega))
/-- a, *b = a tuple -/
theorem pg_tupS {tgts : List Expr} {k : Nat} {gs : TGs} {n i : Nat} (hc : X.calm = true) (each : PGs X tgts gs)
    (many : (assignEach tgts X.env).length = n := by rfl) (star : (assignEach tgts X.env).findIdx? (·.1) = some i := by rfl) (hi : i < n := by decide) :
    PG X (.Tuple tgts k pos) (gTupS X.K n i gs) where
  run := fun pins s σ H v u Q I r => fun ⟨a, xs, e, sq, room, go⟩ => by
    subst e
    cases r
    obtain ⟨its, rv, ht, hz⟩ := I.tuple sq
    have same : xs.length = its.length := rv.length
    rw [assign_Tuple]
    refine wpAny_bind (wpAny_standAt (?_))
    unfold unpack
    rw [many, star]
    refine wpAny_bind (wpAny_holding (star_items (I.ok.hd hc) ht hi (by omega) (by omega) fun g tk kept => ?_))
    rw [← same]
    have J : Inv X pins σ H { s with heap := g, toks := tk } := I.kept kept
    have mid : Vals ((xs.drop i).take (xs.length + 1 - n)) ((its.drop i).take (xs.length + 1 - n)) := (rv.drop i).take _
    have short : ((xs.drop i).take (xs.length + 1 - n)).length ≤ sizeLine := by
      rw [List.length_take]
      rw [List.length_drop]
      omega
    have new := J.laid (t' := tk) (o := .lst ((xs.drop i).take (xs.length + 1 - n))) (fun b u e => Heap.get?_push_of_some _ e) (Nat.le_refl _) ⟨short, _, 0, mid, Heap.get?_push_size _ rfl⟩
    have ref : RelV (.ref g.objs.size) (.ref g.objs.size) := rfl
    exact each.run pins _ σ _ _ _ Q new (((rv.take i).append (.cons ref .nil)).append ((rv.drop i).drop _)) (go _ (J.hok.fresh (Nat.le_refl _)))
end
end
/-! base 2 -/
/- len(set(xs)) for a list of texts: `pe_lenSetT hc gl nl gs ns arg`, term tLenSetT K ta; wants the import HandS.Strs (all of it: 65 s of Lean, nearly all of it set_texts) -/
section
open PySem.Spec PySem.Calls PyProof.Rows
variable {P : Program} {w : World}
/-- k is among the first i texts -/
def met (xs : List Str) (i : Nat) (k : Str) : Bool := (xs.take i).any (· == k)
/-- how many different texts are among the first i -/
def metN (xs : List Str) (i : Nat) : Nat := ((List.range i).filter fun j => !met xs j (xs.getD j Str.empty)).length
theorem metN_le (xs : List Str) (i : Nat) : metN xs i ≤ i := Nat.le_trans (List.length_filter_le _ _) (by rw [List.length_range]; exact Nat.le_refl _)
theorem metN_step (xs : List Str) (i : Nat) : metN xs (i + 1) = if met xs i (xs.getD i Str.empty) = true then metN xs i else metN xs i + 1 := by
  unfold metN
  have e : ([i].filter fun j => !met xs j (xs.getD j Str.empty)) = if met xs i (xs.getD i Str.empty) = true then [] else [i] := by
    rw [List.filter_cons]
    cases met xs i (xs.getD i Str.empty) <;> rfl
  rw [List.range_succ, List.filter_append, List.length_append, e]
  split <;> rfl
theorem met_step {xs : List Str} {i : Nat} (h : i < xs.length) (k : Str) : (met xs i k || decide (k = xs.getD i Str.empty)) = met xs (i + 1) k := by
  unfold met
  have e : xs[i]? = some xs[i] := List.getElem?_eq_getElem h
  rw [List.take_add_one, e, List.any_append, List.getD_eq_getElem?_getD, e]
  congr 1
  rw [Bool.eq_iff_iff, decide_eq_true_iff]
  simp only [Option.getD_some, Option.toList_some, List.any_cons, List.any_nil, Bool.or_false, beq_iff_eq]
  exact ⟨fun q => q.symm, fun q => q.symm⟩
theorem setOf_kept {T : Type} [DecidableEq T] {knd : PySem.KeyKind P w T} {g g' : Heap} {S : Addr} {f : T → Bool} {c : Nat} (h : g.SetOf knd S f c) (k : ∀ o, g.get? S = some o → g'.get? S = some o) : g'.SetOf knd S f c := by
  obtain ⟨o, es, ep, tb, ho, more⟩ := h
  exact ⟨o, es, ep, tb, k o ho, more⟩
theorem set_loop {A : Around} {R : Result → Shared → Prop} {I : Addr} {fp wr : List Addr} {G : Array GenState → Array GenState → Prop} {n : Nat} {Pv : Nat → Value → Prop} {St : Nat → Shared → Prop}
    (W : WalksS P w A.in1 I fp wr G n Pv St) {S : Addr} (out : S ∉ fp) {xs : List Str} (len : xs.length = n) (few : n < scanBound) (val : ∀ i v, Pv i v → ∃ t, v = .str (xs.getD i Str.empty) t)
    (left : Nat) : ∀ (i : Nat) (s : Shared), i + left = n → St i s → s.heap.SetOf (PySem.strKind P w) S (met xs i) (metN xs i) →
      (∀ s', Moved (S :: wr) G s s' → s'.heap.SetOf (PySem.strKind P w) S (met xs n) (metN xs n) → R (.ok (.ret .none)) s') → codeAny (model P w) A (.builtin "set.update.loop" ⟨[.ref S, .ref I], []⟩) R s := by
  have apart : S ∉ wr := fun q => out (W.sub _ q)
  have more : ∀ b ∈ wr, b ∈ S :: wr := fun b q => List.mem_cons_of_mem S q
  induction left with
  | zero =>
    intro i s e st so fin
    have e : i = n := e
    rw [e] at st so
    refine codeAny_builtin (F.entry_set_update_loop) ?_
    rw [Around.under_plainId F.plain_set_update_loop]
    refine wpAny_bind (m := pyNext (.ref I)) (W.done s _ _ st fun s1 mv => ?_)
    exact wpAny_pure (fin s1 (mv.mono more) (setOf_kept so fun o q => mv.heap S o apart q))
  | succ m ih =>
    intro i s e st so fin
    have lt : i < n := by omega
    refine codeAny_builtin (F.entry_set_update_loop) ?_
    rw [Around.under_plainId F.plain_set_update_loop]
    refine wpAny_bind (m := pyNext (.ref I)) (W.item i s _ _ lt st fun v s1 pv st1 mv => ?_)
    obtain ⟨t, rfl⟩ := val i v pv
    have so1 := setOf_kept so fun o q => mv.heap S o apart q
    have bound : metN xs i < scanBound := Nat.lt_of_le_of_lt (metN_le xs i) (by omega)
    refine wpAny_bind (m := holding _ (setAdd S _)) (wpAny_holding ?_)
    unfold setAdd
    refine wpAny_holding (wpAny_bind ((PySem.strKind P w).pyHash (k := xs.getD i Str.empty) (strKind_is _ _ _ _) ?_))
    refine wpAny_setAddHashed_of (knd := PySem.strKind P w) (s := { s1 with toks := s1.toks + 1 }) (strKind_is _ _ _ _) rfl so1 (by have := metN_le xs i; omega) fun g only so2 => ?_
    have so3 : g.SetOf (PySem.strKind P w) S (met xs (i + 1)) (metN xs (i + 1)) := SetOf_congr so2 (fun k => met_step (by omega) k) (metN_step xs i).symm
    have calm : ∀ b ∈ fp, g.get? b = s1.heap.get? b := fun b q => only.2 b fun z => out (z ▸ q)
    refine wpAny_pure ⟨plainId_quiet F.plain_set_update_loop _, ih (i + 1) _ (by omega) (W.frame _ s1 _ _ st1 (Nat.le_succ _) fun b q o z => (calm b q).trans z) so3 fun s2 mv2 so4 => fin s2 ?_ so4⟩
    exact Moved.trans W.gtrans ((mv.mono more).then_heap (Nat.le_succ _) fun b o q z => (only.2 b fun y => q (y ▸ List.mem_cons_self)).trans z) mv2
/-- a set that has just been made -/
abbrev bare (led : Bool) : Obj := { cls := .type "set", dict := none, data := .set #[] 0 (.fresh 0 0 led) }
set_option maxHeartbeats 0 in
theorem set_texts {A : Around} {E : Value → Shared → Prop} {s : Shared} {l : Addr} {arr : Array Value} {xs : List Str} {Q : Value → Shared → Prop} (calm : A.handled = none) (il : s.heap.IsList l arr) (tx : StrsAre arr.toList xs) (few : xs.length < scanBound)
    (go : ∀ (g : Heap) (tk : Nat), g.SetOf (PySem.strKind P w) s.heap.objs.size (met xs xs.length) (metN xs xs.length) → (∀ b u, s.heap.get? b = some u → g.get? b = some u) → Q (.ref s.heap.objs.size) { s with heap := g, toks := tk }) :
    wpAny (model P w) A (call (.type "set") [Value.ref l]) Q E s := by
  have size : xs.length = arr.size := by rw [← StrsAre.len_eq tx, Array.length_toList]
  have item : ∀ (i : Nat) (v : Value), arr[i]? = some v → ∃ t, v = .str (xs.getD i Str.empty) t := fun i v e => SS.strs_at tx i v (by rw [Array.getElem?_toList, e])
  have facts := PySem.F.called_set
  obtain ⟨_, _, mro⟩ := facts.mro
  have made := facts.made
  have sub := facts.sub
  have notType := facts.notType
  have creates := facts.canCreate
  have called := PySem.F.typeCall_set_1 (.ref l)
  refine wpAny_call (codeAny_of_tree (wpAny_pure ⟨Code.quiet_builtin _ (by decide +kernel), codeAny_builtin PySem.F.entry_type_call ?_⟩))
  rw [Around.under_plain (weight_type_call_type _ [Value.ref l] []) rfl]
  repeat any_goals first | assumption | wp_step
  refine codeAny_mono (code_set_new_1 (.ref l) (E := E) (Q₁ := fun r u => ∃ led : Bool, r = .ref s.heap.objs.size ∧ u = { s with heap := s.heap.push (bare led) }) fun led => ⟨led, rfl, rfl⟩) fun r u end1 => ?_
  rcases r with _ | fl
  · exact end1
  cases fl
  case ret obj =>
    obtain ⟨led, rfl, rfl⟩ := end1
    have there : (s.heap.push (bare led)).get? s.heap.objs.size = some (bare led) := Heap.get?_push_size _ rfl
    have kind : Shared.TypeIs { s with heap := s.heap.push (bare led) } (.ref s.heap.objs.size) "set" := ⟨_, there, rfl⟩
    have looks := facts.init.lookup
    have binds := facts.init.bind (.ref s.heap.objs.size)
    repeat any_goals first | assumption | wp_step
    let Post : Value → Shared → Prop := fun r u => r = .none ∧ ∃ g tk, u = { s with heap := g, toks := tk } ∧ g.SetOf (PySem.strKind P w) s.heap.objs.size (met xs xs.length) (metN xs xs.length) ∧ ∀ b o, s.heap.get? b = some o → g.get? b = some o
    refine codeAny_mono (codeAny_call_builtin (R := wants Post E) facts.init.plain PySem.F.entry_set_init (check_set_init_1 kind ?_)) fun r2 u2 end2 => ?_
    · have il2 : (s.heap.push (bare led)).IsList l arr := il.push _
      have sl := PySem.F.sub_list_set
      have sf := PySem.F.sub_list_frozenset
      obtain ⟨ob, get, cls, many, dat⟩ := il
      obtain ⟨_, od, _, os⟩ := ob
      subst cls dat
      have get2 : (s.heap.push (bare led)).get? l = some { cls := .type "list", dict := od, data := .seq arr many, slots := os } := Heap.get?_push_of_some _ get
      have nodict : (Value.type "list" == Value.type "dict") = false := by decide
      have below : l < s.heap.objs.size := Heap.lt_size get
      have calm3 : A.in1.in1.in1.handled = none := by simp [calm]
      have top : (s.heap.push (bare led)).objs.size = s.heap.objs.size + 1 := Heap.size_push ..
      unfold Builtin.«set.__init__»
      unfold noKeywords Builtin.Frozenset.updateFrom
      generalize iter : pyIter = it
      wp_walk
      subst iter
      refine wpAny_pyIter_list il2 (wpAny_bind (wpAny_runValue ?_))
      have away : ∀ {b : Addr}, b < s.heap.objs.size → b ≠ s.heap.objs.size ∧ b ≠ (s.heap.push (bare led)).objs.size := fun q => ⟨Nat.ne_of_lt q, Nat.ne_of_lt (by rw [top]; exact Nat.lt_succ_of_lt q)⟩
      have new := (away below).2
      have out : s.heap.objs.size ∉ [(s.heap.push (bare led)).objs.size, l] := fun q => by
        rcases List.mem_cons.mp q with q | q
        · rw [top] at q
          exact Nat.succ_ne_self _ q.symm
        · exact (away below).1 (List.mem_singleton.mp q).symm
      have start := setObjOf_fresh (knd := PySem.strKind P w) led
      refine set_loop (Walks.list calm3 _ l new arr).toS out size (by omega) item arr.size 0 _ (Nat.zero_add _) ⟨⟨_, Heap.get?_push_size _ rfl, rfl, rfl⟩, il2.push _⟩ ?_ fun u3 mv so => ?_
      · exact SetOf_congr (start.setOf (Heap.get?_push_of_some _ there) (by unfold scanBound; omega)) (fun _ => rfl) rfl
      · obtain ⟨g, gens, drawn, tk, sys⟩ := u3
        obtain rfl : gens = s.gens := mv.gens
        obtain rfl : drawn = s.drawn := mv.drawn
        obtain rfl : sys = s.os := mv.os
        rw [← size] at so
        refine wpAny_pure (wpAny_pure ⟨rfl, g, tk, rfl, so, fun b o e => ?_⟩)
        have far := away (Heap.lt_size e)
        refine mv.heap b o (fun q => ?_) (Heap.get?_push_of_some _ (Heap.get?_push_of_some _ e))
        rcases List.mem_cons.mp q with q | q
        · exact far.1 q
        · exact far.2 (List.mem_singleton.mp q)
    · rcases r2 with _ | fl2
      · exact end2
      cases fl2
      case ret v =>
        obtain ⟨rfl, g, tk, rfl, so, kept⟩ := end2
        repeat any_goals first | assumption | wp_step
        exact go g tk so kept
      all_goals exact end2.elim
  all_goals exact end1.elim
end
section
open PySem.Spec PySem.Calls PyProof.Rows
variable {X : Cx}
/-- len(set(a list of texts)) -/
def tLenSetT (K : PySem.W.Frag) (ta : TE) : TE := fun σ H Q => ta σ H fun x H1 => ∃ (l : Addr) (xs : List Str), x = .ref l ∧ SqL K H1 l (xs.map V.str) ∧ xs.length < 1000 ∧ Q (.int (metN xs xs.length)) H1
theorem pe_lenSetT {a : Expr} {ta : TE} {p1 p2 p3 p4 : Pos} (hc : X.calm = true) (gl : Gl X "len") (nl : X.mg "len" = none) (gs : Gl X "set") (ns : X.mg "set" = none) (arg : PE X a ta)
    (plain : starEach [a] X.env = (false, eval a X.env) :: starEach [] X.env := by rfl) : PE X (.Call (.Name "len" p1) [.Call (.Name "set" p2) [a] [] p3] [] p4) (tLenSetT X.K ta) where
  run := fun pins s σ H Q I h => by
    refine Call_ (ld_blt I gl nl boot_len (callWith_builtin1 (args_cons ?_ rfl) rfl rfl))
    refine Call_ (ld_blt I gs ns boot_set (callWith_type1 (args_cons (thn (arg.run pins s σ H _ I h) ?_) plain) plain rfl))
    rintro v s1 ⟨_, H1, J, r, l, xs, rfl, sq, few, q⟩
    cases r
    obtain ⟨its, rv, pl, _⟩ := J.list sq
    refine args_nil (set_texts (J.ok.hd hc) pl.isList (by simpa using strsAre_of rv) (by unfold scanBound; omega) fun g tk so kept => args_nil ?_)
    obtain ⟨ob, es, ep, tb, get, ex, dat, _, _, _, fits, many⟩ := so
    have J2 : Inv X pins σ H1 { s1 with heap := g, toks := tk } := J.kept kept
    have le := metN_le xs xs.length
    refine call_len_set get ex dat fits (by rw [many]; omega) ⟨.int (metN xs xs.length), H1, J2.tok _, ⟨_, by rw [many]⟩, q⟩
end
/-! base 3 -/
/-! ### {**a, **b} (k12, k13) -/
section
open PySem.Spec PySem.Calls PyProof.Rows
/-- {**a, **b}: the new dict stands empty while a is read, then takes a's entries, then b's -/
def tDMerge (ta tb : TE) : TE := fun σ H Q => ∀ d, H d = none → ta σ (upd H d (.dK [])) fun x H1 => ∃ (a : Addr) (kvs : List (Key × V)), x = .ref a ∧ Rd H1 a (.dK kvs) ∧ H1 d = some (.dK []) ∧ a ≠ d ∧ kvs.length ≤ 1000 ∧
  tb σ (upd H1 d (.dK (mergeK [] kvs))) fun y H2 => ∃ (b : Addr) (more : List (Key × V)), y = .ref b ∧ Rd H2 b (.dK more) ∧ H2 d = some (.dK (mergeK [] kvs)) ∧ b ≠ d ∧ more.length ≤ 1000 ∧ Q (.ref d) (upd H2 d (.dK (mergeK (mergeK [] kvs) more)))
theorem pe_dmerge {X : Cx} {pos : Pos} {e f : Expr} {ta tb : TE} (he : PE X e ta) (hf : PE X f tb) : PE X (.Dict [none, none] [e, f] pos) (tDMerge ta tb) := by
  refine ⟨fun pins s σ H Q I h => ?_⟩
  rw [arm_eval_Dict]
  refine wpAny_bind (wpAny_standAt ?_)
  have hz : (evalEachOpt [none, none] X.env).zip ((evalEach [e, f] X.env).map fun v => do let x ← v; standAt pos; pure x) = [(none, do let x ← eval e X.env; standAt pos; pure x), (none, do let x ← eval f X.env; standAt pos; pure x)] := rfl
  rw [hz]
  unfold dictDisplay
  simp only [List.forIn_cons, List.forIn_nil, List.isEmpty_nil, if_true, List.nil_append, pure_bind]
  refine wpAny_bind (wpAny_bind (wpAny_bind (wpAny_alloc ?_)))
  have hn := I.hok.fresh (Nat.le_refl s.heap.objs.size)
  have I1 := I.laid (a := s.heap.objs.size) (o := .dK []) (h' := s.heap.push { cls := .type "dict", data := .dict #[] }) (t' := s.toks) (fun _ _ q => Heap.get?_push_of_some _ q) (Nat.le_refl _) (dk_empty s.heap I.big)
  refine wpAny_bind (wpAny_holding (wpAny_bind (thn (he.run pins _ σ _ _ I1 (h _ hn)) fun u s2 ⟨x, H1, I2, rx, a, kvs, ex, ra, e1, nad, hzl, q⟩ => wpAny_bind (wpAny_standAt (wpAny_pure ?_)))))
  subst ex
  obtain rfl : u = Value.ref a := rx
  generalize s.heap.objs.size = d at *
  obtain ⟨_, haS, vsA, relA, ddA⟩ := dk_rd I2.hok ra
  obtain ⟨_, hdS, vs0, r0, dd0⟩ := dk_of I2.hok e1
  cases r0
  have lA : vsA.length = kvs.length := relA.length.symm
  refine wpAny_bind (wpAny_onRaise (wpAny_tryCatch (wpAny_onRaise (wpAny_holding (wpAny_mergeMap (Ne.symm nad) haS dd0 ddA (fun h' dd' hs => ?_) (by
    have : (1000 : Nat) ≤ sizeLine := by decide
    rw [List.length_nil]
    omega))))))
  have hzm : (mergeK [] kvs).length ≤ sizeLine := by
    have h1 := length_mergeK kvs []
    rw [List.length_nil] at h1
    have : (1000 : Nat) ≤ sizeLine := by decide
    omega
  have hex : ∃ q, h'.get? d = some q := let ⟨q, _, _, hq, _⟩ := dd'; ⟨q, hq⟩
  have I3 := d_write (t' := s2.toks) I2 (by rw [e1]; exact True.intro) hs hex (dk_new hzm hdS (relA.merge .nil) dd')
  refine wpAny_pure ?_
  dsimp only
  refine wpAny_bind (wpAny_bind ?_)
  simp only [List.isEmpty_nil, if_true]
  refine wpAny_pure ?_
  dsimp only
  refine wpAny_bind (wpAny_holding (wpAny_bind (thn (hf.run pins _ σ _ _ I3 q) fun w5 s5 ⟨y, H2, I5, ry, b, more, ey, rb, e2, nbd, hzb, qf⟩ => wpAny_bind (wpAny_standAt (wpAny_pure ?_)))))
  subst ey
  obtain rfl : w5 = Value.ref b := ry
  obtain ⟨_, hbS, vsB, relB, ddB⟩ := dk_rd I5.hok rb
  obtain ⟨_, hdS2, vs7, r7, dd7⟩ := dk_of I5.hok e2
  have lB : vsB.length = more.length := relB.length.symm
  have l7 : vs7.length ≤ 1000 := by
    have h1 := length_mergeK kvs []
    rw [List.length_nil] at h1
    have h2 : vs7.length = (mergeK [] kvs).length := r7.length.symm
    omega
  have big : (2000 : Nat) ≤ sizeLine := by decide
  refine wpAny_bind (wpAny_onRaise (wpAny_tryCatch (wpAny_onRaise (wpAny_holding (wpAny_mergeMap (Ne.symm nbd) hbS dd7 ddB (fun h4 dd4 hs4 => ?_) (by omega))))))
  have hex4 : ∃ q, h4.get? d = some q := let ⟨q, _, _, hq, _⟩ := dd4; ⟨q, hq⟩
  have hz4 : (mergeK (mergeK [] kvs) more).length ≤ sizeLine := by
    have h1 := length_mergeK more (mergeK [] kvs)
    have h3 := length_mergeK kvs []
    rw [List.length_nil] at h3
    omega
  have I8 := d_write (t' := s5.toks) I5 (by rw [e2]; exact True.intro) hs4 hex4 (dk_new hz4 hdS (relB.merge r7) dd4)
  refine wpAny_pure ?_
  dsimp only
  refine wpAny_bind (wpAny_pure (wpAny_pure ?_))
  dsimp only
  refine wpAny_bind ?_
  simp only [List.isEmpty_nil, if_true]
  exact wpAny_pure (wpAny_pure ⟨.ref d, _, I8, rfl, qf⟩)
end
/-! ### changes -/
def strOf : PyData → Str
  | .str s => s
  | _ => Str.empty
/-- names, all different -/
def diffN (ds : List PyData) : Bool := ds.all (fun d => nameO (some d)) && decide (metN (ds.map strOf) (ds.map strOf).length = ds.length)
/-- items of a list that may be looked at one by one -/
def Its (K : PySem.W.Frag) (H : Hp) (xs : List V) (ds : List PyData) : Prop := DpAll K H xs ds ∧ ds.length ≤ 100 ∧ ∀ d ∈ ds, SeqAt.shaped d = true ∧ ∀ s, d = .str s → s.length ≤ 1000
def sp_diff (K : PySem.W.Frag) : Sp := fun vs H Q _ => ∃ (l : Addr) (xs : List V) (ds : List PyData), vs = [.ref l] ∧ SqL K H l xs ∧ Its K H xs ds ∧ ∀ H', Same H H' → Q (.bl (diffN ds)) H'
theorem nameO_str {d : PyData} (h : nameO (some d) = true) : ∃ s, d = .str s := by
  cases d with
  | str s => exact ⟨s, rfl⟩
  | _ => cases h
theorem all_take {α : Type} (p : α → Bool) (xs : List α) : ((xs.map p).all id) = xs.all p := by
  rw [List.all_map]
  rfl
/-- items that all are names, as texts -/
theorem its_strs {K : PySem.W.Frag} {H : Hp} : ∀ {xs : List V} {ds : List PyData}, DpAll K H xs ds → ds.all (fun d => nameO (some d)) = true → xs = (ds.map strOf).map V.str
  | _, _, .nil, _ => rfl
  | _, _, .cons a b, h => by
    rw [List.all_cons] at h
    rw [Bool.and_eq_true] at h
    obtain ⟨s, rfl⟩ := nameO_str h.1
    cases a
    rw [its_strs b h.2]
    rfl
/-! base 4 -/
/-! ### catalogs: what is handed in -/
theorem list_none {α : Type} {l : List α} {i : Nat} (h : l[i]? = none) : l.length ≤ i := List.getElem?_eq_none_iff.mp h
/-- all but what lies at xs is as it was -/
def SX (xs : List Addr) (H H' : Hp) : Prop := ∀ b o, b ∉ xs → H b = some o → H' b = some o
theorem SX.of {xs : List Addr} {H H' : Hp} (s : Same H H') : SX xs H H' := fun b o _ e => s b o e
theorem SX.trans {xs : List Addr} {H H1 H2 : Hp} (a : SX xs H H1) (b : SX xs H1 H2) : SX xs H H2 := fun c o n e => b c o n (a c o n e)
theorem SX.mono {xs ys : List Addr} {H H' : Hp} (a : SX xs H H') (h : ∀ x ∈ xs, x ∈ ys) : SX ys H H' := fun c o n e => a c o (fun z => n (h c z)) e
/-- what is a list, a tuple or locked is as it was -/
def seqO : HO → Bool
  | .lst _ => true
  | .tup _ => true
  | .frz _ _ => true
  | _ => false
def ND (H H' : Hp) : Prop := ∀ b o, H b = some o → seqO o = true → H' b = some o
theorem ND.of {H H' : Hp} (s : Same H H') : ND H H' := fun b o e _ => s b o e
theorem ND.trans {H H1 H2 : Hp} (a : ND H H1) (b : ND H1 H2) : ND H H2 := fun c o e n => b c o (a c o e n) n
theorem ND.sx {xs : List Addr} {H H' : Hp} (s : SX xs H H') (n : ∀ x ∈ xs, ∀ o, H x = some o → seqO o = false) : ND H H' := fun b o e z => s b o (fun hb => by
  rw [n b hb o e] at z
  cases z) e
theorem ND.lock {H : Hp} {d : Addr} {kvs : List (Key × V)} {od : Obj} (h : H d = some (.dK kvs)) : ND H (upd H d (.frz od (.dK kvs))) := fun b o e n => by
  by_cases z : b = d
  · rw [z, h] at e
    cases e
    cases n
  · rw [upd_ne z]
    exact e
theorem ND.seq {K : PySem.W.Frag} {H H' : Hp} {a : Addr} {xs : List V} (e : ND H H') (h : SqL K H a xs) : SqL K H' a xs := by
  rcases h with (h | ⟨o, h⟩) | h
  · exact .inl (.inl (e _ _ h rfl))
  · exact .inl (.inr ⟨o, e _ _ h rfl⟩)
  · exact .inr h
theorem ND.tup {K : PySem.W.Frag} {H H' : Hp} {a : Addr} {xs : List V} (e : ND H H') (h : SqT K H a xs) : SqT K H' a xs := by
  rcases h with (h | ⟨o, h⟩) | h
  · exact .inl (.inl (e _ _ h rfl))
  · exact .inl (.inr ⟨o, e _ _ h rfl⟩)
  · exact .inr h
/-- a dict that was locked is as it was -/
theorem unlock {H H1 : Hp} {d : Addr} {kvs : List (Key × V)} {od : Obj} (hd : H d = some (.dK kvs)) (s1 : Same (upd H d (.frz od (.dK kvs))) H1) : Same H (upd H1 d (.dK kvs)) := fun b o e => by
  by_cases z : b = d
  · rw [z] at e ⊢
    rw [upd_same, ← hd]
    exact e
  · rw [upd_ne z]
    exact s1 _ _ (by rw [upd_ne z]; exact e)
mutual
theorem dp_nd {K : PySem.W.Frag} {H H' : Hp} (e : ND H H') : ∀ {v : V} {d : PyData}, Dp K H v d → Dp K H' v d
  | _, _, .non => .non
  | _, _, .bl b => .bl b
  | _, _, .int i => .int i
  | _, _, .str x => .str x
  | _, _, .lst h a => .lst (e.seq h) (dpAll_nd e a)
  | _, _, .tup h a => .tup (e.tup h) (dpAll_nd e a)
theorem dpAll_nd {K : PySem.W.Frag} {H H' : Hp} (e : ND H H') : ∀ {vs : List V} {ds : List PyData}, DpAll K H vs ds → DpAll K H' vs ds
  | _, _, .nil => .nil
  | _, _, .cons a b => .cons (dp_nd e a) (dpAll_nd e b)
end
theorem VD.nd {K : PySem.W.Frag} {H H' : Hp} (e : ND H H') {v : V} {d : PyData} (h : VD K H v (some d)) : VD K H' v (some d) := by
  cases h with
  | dat a b c => exact .dat (dp_nd e a) b c
abbrev Ent := Key × V × PyData
def kvE (e : Ent) : Key × V := (e.1, e.2.1)
def kD : Key → PyData
  | .inl i => .int i
  | .inr s => .str s
def keyOk : Key → Prop
  | .inl _ => True
  | .inr s => sOk 1000 s
theorem vd_key {K : PySem.W.Frag} {H : Hp} {k : Key} (h : keyOk k) : VD K H (kV k) (some (kD k)) := by
  cases k with
  | inl i => exact .dat (.int i) rfl fun s e => by cases e
  | inr s =>
    refine .dat (.str s) (shaped_iff.mpr ⟨?_, by simp [kD, PyData.depth]⟩) fun t e => ?_
    · simp only [kD, PyData.canLay0]
      exact h.2
    · cases e
      exact h.1
/-- the entries: their values are data, their keys short -/
def EV (K : PySem.W.Frag) (H : Hp) (es : List Ent) : Prop := ∀ e ∈ es, VD K H e.2.1 (some e.2.2) ∧ keyOk e.1
theorem EV.nd {K : PySem.W.Frag} {H H' : Hp} {es : List Ent} (s : ND H H') (h : EV K H es) : EV K H' es := fun e he => ⟨(h e he).1.nd s, (h e he).2⟩
theorem EV.mono {K : PySem.W.Frag} {H H' : Hp} {es : List Ent} (s : Same H H') (h : EV K H es) : EV K H' es := h.nd (.of s)
def lookE (es : List Ent) (k : Key) : Option Ent := es.find? fun e => decide (e.1 = k)
theorem valE (k : Key) : ∀ es : List Ent, valV (es.map kvE) k = (lookE es k).map (·.2.1)
  | [] => rfl
  | e :: r => by
    unfold lookE
    rw [List.map_cons, List.find?_cons]
    by_cases h : e.1 = k
    · rw [valV_pos (p := kvE e) h, decide_eq_true h]
      rfl
    · rw [valV_neg (p := kvE e) h, decide_eq_false h]
      exact valE k r
theorem lookE_mem {es : List Ent} {k : Key} {e : Ent} (h : lookE es k = some e) : e ∈ es ∧ e.1 = k := by
  have := List.find?_some h
  exact ⟨List.mem_of_find?_eq_some h, of_decide_eq_true this⟩
theorem lookE_some {es : List Ent} {k : Key} (h : k ∈ es.map (·.1)) : ∃ e, lookE es k = some e := by
  obtain ⟨e, he, rfl⟩ := List.mem_map.mp h
  cases q : lookE es e.1 with
  | some z => exact ⟨z, rfl⟩
  | none =>
    have := List.find?_eq_none.mp q e he
    simp at this
def nodK (es : List Ent) : Prop := (es.map (·.1)).Nodup
/-! ### texts in order -/
def leS (a b : Str) : Bool := !PySem.Spec.ltCps b.cps.toList a.cps.toList
def srtS (ks : List Str) : List Str := ks.mergeSort leS
theorem leS_iff (a b : Str) : leS a b = true ↔ a.cps.toList ≤ b.cps.toList := by
  unfold leS
  rw [PyProof.Rows.ltCps_eq, Bool.not_eq_true', decide_eq_false_iff_not, List.not_lt]
theorem leS_tr {a b c : Str} (h : leS a b = true) (k : leS b c = true) : leS a c = true := by
  rw [leS_iff] at h k ⊢
  exact List.le_trans h k
theorem leS_tot (a b : Str) : (leS a b || leS b a) = true := by
  cases h : leS a b with
  | true => rfl
  | false =>
    have h1 : ¬ a.cps.toList ≤ b.cps.toList := fun z => by
      rw [(leS_iff a b).mpr z] at h
      cases h
    have h2 : b.cps.toList ≤ a.cps.toList := (List.le_total _ _).resolve_left h1
    rw [(leS_iff b a).mpr h2]
    rfl
theorem str_eq {a b : Str} (h : a.cps.toList = b.cps.toList) : a = b := by
  cases a
  cases b
  congr 1
  exact Array.toList_inj.mp h
theorem leS_anti {a b : Str} (h : leS a b = true) (k : leS b a = true) : a = b := by
  rw [leS_iff] at h k
  exact str_eq (List.le_antisymm h k)
theorem rising_pw : ∀ {ys : List Str} {p : Str}, PyProof.Rows.risingS p ys = true → (p :: ys).Pairwise fun a b => leS a b = true
  | [], p, _ => List.pairwise_singleton _ _
  | y :: r, p, h => by
    have h' : (!PySem.Spec.ltCps y.cps.toList p.cps.toList && PyProof.Rows.risingS y r) = true := h
    rw [Bool.and_eq_true] at h'
    have ih := rising_pw h'.2
    have hpy : leS p y = true := h'.1
    refine List.pairwise_cons.mpr ⟨fun z hz => ?_, ih⟩
    rcases List.mem_cons.mp hz with rfl | hz
    · exact hpy
    · exact leS_tr hpy ((List.pairwise_cons.mp ih).1 z hz)
theorem sorted_pw {ys : List Str} (h : PyProof.Rows.sortedS ys = true) : ys.Pairwise fun a b => leS a b = true := by
  cases ys with
  | nil => exact .nil
  | cons y r => exact rising_pw h
theorem srt_pw (ks : List Str) : (srtS ks).Pairwise fun a b => leS a b = true := List.pairwise_mergeSort (le := leS) (fun a b c h k => leS_tr h k) leS_tot ks
theorem srt_eq {ys ks : List Str} (p : ys.Perm ks) (h : PyProof.Rows.sortedS ys = true) : ys = srtS ks :=
  List.Perm.eq_of_pairwise (fun a b _ _ => leS_anti) (sorted_pw h) (srt_pw ks) (p.trans (List.mergeSort_perm ks leS).symm)
theorem srt_perm {ks ls : List Str} (p : ks.Perm ls) : srtS ks = srtS ls :=
  List.Perm.eq_of_pairwise (fun a b _ _ => leS_anti) (srt_pw ks) (srt_pw ls) ((List.mergeSort_perm ks leS).trans (p.trans (List.mergeSort_perm ls leS).symm))
theorem srt_mem {ks : List Str} {s : Str} : s ∈ srtS ks ↔ s ∈ ks := (List.mergeSort_perm ks leS).mem_iff
theorem srt_len (ks : List Str) : (srtS ks).length = ks.length := List.length_mergeSort ks
theorem srt_nodup {ks : List Str} (h : ks.Nodup) : (srtS ks).Nodup := (List.mergeSort_perm ks leS).nodup_iff.mpr h
/-! ### rows: name, where the span stands, the span -/
abbrev Row := Str × Addr × Span
def rE (r : Row) : Ent := (.inr r.1, .ref r.2.1, spD r.2.2)
def rKV (r : Row) : Key × V := (.inr r.1, .ref r.2.1)
theorem kvE_rE (r : Row) : kvE (rE r) = rKV r := rfl
theorem map_rKV (rs : List Row) : (rs.map rE).map kvE = rs.map rKV := by rw [List.map_map]; rfl
def RowsOk (K : PySem.W.Frag) (H : Hp) (rs : List Row) : Prop := ∀ r ∈ rs, SqT K H r.2.1 (spV r.2.2) ∧ okS r.2.2 = true ∧ nameS r.1 = true
theorem RowsOk.nd {K : PySem.W.Frag} {H H' : Hp} {rs : List Row} (s : ND H H') (h : RowsOk K H rs) : RowsOk K H' rs := fun r hr => ⟨s.tup (h r hr).1, (h r hr).2⟩
theorem RowsOk.mono {K : PySem.W.Frag} {H H' : Hp} {rs : List Row} (s : Same H H') (h : RowsOk K H rs) : RowsOk K H' rs := h.nd (.of s)
def goodE (e : Ent) : Bool := nameO (some (kD e.1)) && spanO (some e.2.2)
theorem rows_of {K : PySem.W.Frag} {H : Hp} : ∀ {es : List Ent}, EV K H es → (∀ e ∈ es, goodE e = true) → ∃ rs, es = rs.map rE ∧ RowsOk K H rs
  | [], _, _ => ⟨[], rfl, fun r hr => (List.not_mem_nil hr).elim⟩
  | e :: es, hv, hg => by
    obtain ⟨rs, h1, h2⟩ := rows_of (es := es) (fun x hx => hv x (List.mem_cons_of_mem _ hx)) fun x hx => hg x (List.mem_cons_of_mem _ hx)
    have g := hg e List.mem_cons_self
    unfold goodE at g
    rw [Bool.and_eq_true] at g
    obtain ⟨v1, _⟩ := hv e List.mem_cons_self
    obtain ⟨k, v, d⟩ := e
    obtain ⟨g1, g2⟩ := g
    cases k with
    | inl i => cases g1
    | inr s =>
      obtain ⟨sp, e1, ok⟩ := spanO_of g2
      cases e1
      obtain ⟨a, rfl, ha⟩ := VD.sp v1
      refine ⟨(s, a, sp) :: rs, by rw [h1]; rfl, fun r hr => ?_⟩
      rcases List.mem_cons.mp hr with rfl | hr
      · exact ⟨ha, ok, g1⟩
      · exact h2 r hr
def strK : Key → Str
  | .inr s => s
  | .inl _ => Str.empty
def refA : V → Addr
  | .ref a => a
  | _ => 0
def limO' : PyData → Option Int
  | .int i => some i
  | _ => none
def spOf : PyData → Span
  | .tuple [a, b] => (limO' a, limO' b)
  | _ => (none, none)
theorem spOf_spD (s : Span) : spOf (spD s) = s := by
  obtain ⟨a, b⟩ := s
  cases a <;> cases b <;> rfl
def nmsE (es : List Ent) : List Str := es.map fun e => strK e.1
def rowsE (es : List Ent) : List Row := es.map fun e => (strK e.1, refA e.2.1, spOf e.2.2)
theorem nmsE_rows (rs : List Row) : nmsE (rs.map rE) = rs.map (·.1) := by
  unfold nmsE
  rw [List.map_map]
  rfl
theorem rowsE_rows (rs : List Row) : rowsE (rs.map rE) = rs := by
  unfold rowsE
  rw [List.map_map]
  have : ((fun e : Ent => (strK e.1, refA e.2.1, spOf e.2.2)) ∘ rE) = (id : Row → Row) := by
    funext r
    obtain ⟨n, a, s⟩ := r
    show (n, a, spOf (spD s)) = (n, a, s)
    rw [spOf_spD]
  rw [this, List.map_id]
/-! ### what is wrong with a catalog's arguments: (0 no dict, 1 a name, 2 a span, 3 an overlap, 4 taken, 5 too many) and the value -/
def fldC : Nat → Str
  | 0 => "value"
  | 1 => "value"
  | 2 => "value"
  | 3 => "name"
  | 4 => "name"
  | _ => "bound"
def RzX (xs : List Addr) (H : Hp) (E : XK) (C : Addr) (f : Str) (v : V) : Prop := ∀ (d : Addr) (H' : Hp), H d = none → H' d = some (.xd [(f, v)]) → SX xs H H' → E (.ref C) (some d) H'
theorem RzX.rz {xs : List Addr} {H : Hp} {E : XK} {C : Addr} {f : Str} {v : V} (h : RzX xs H E C f v) : Rz H E C f v := fun d H' n x s => h d H' n x (.of s)
theorem RzX.back {xs : List Addr} {H H1 : Hp} {E : XK} {C : Addr} {f : Str} {v : V} (s : SX xs H H1) (fr : ∀ b, H1 b = none → H b = none) (h : RzX xs H E C f v) : RzX xs H1 E C f v := fun d H' n x k => h d H' (fr d n) x (s.trans k)
theorem RzX.same {xs : List Addr} {H H1 : Hp} {E : XK} {C : Addr} {f : Str} {v : V} (s : Same H H1) (h : RzX xs H E C f v) : RzX xs H1 E C f v := h.back (.of s) fun _ => s.free
def ExC (xs : List Addr) (H : Hp) (E : XK) (Cs : Nat → Addr) (r : Nat × V) : Prop := RzX xs H E (Cs r.1) (fldC r.1) r.2
def badKey (es : List Ent) : Option Ent := es.find? fun e => !nameO (some (kD e.1))
def badSpan (es : List Ent) : Option Str := (srtS (nmsE es)).find? fun y => !spanO ((lookE es (.inr y)).map (·.2.2))
def valAt (es : List Ent) (y : Str) : V := ((lookE es (.inr y)).map (·.2.1)).getD .non
def rsF (es : List Ent) : Option (Nat × V) := match badKey es with
  | some e => some (1, kV e.1)
  | none => match badSpan es with
    | some y => some (2, valAt es y)
    | none => none
def meetB (s t : Span) : Bool := okS (comS s t)
def ovlR : List Row → List Row → Option Str
  | _, [] => none
  | acc, r :: t => if acc.any (fun q => meetB q.2.2 r.2.2) = true then some r.1 else ovlR (acc ++ [r]) t
def rowOf (rs : List Row) (y : Str) : Row := (rs.find? fun r => decide (r.1 = y)).getD (y, 0, (none, none))
def sortR (rs : List Row) : List Row := (srtS (rs.map (·.1))).map (rowOf rs)
def ovl (rs : List Row) : Option Str := ovlR [] (sortR rs)
def inNames (ns : List Str) : Option PyData → Bool
  | some (.str s) => decide (s ∈ ns)
  | _ => false
def restR (ns : List Str) (rv : V) (ro : Option PyData) : Option (Nat × V) :=
  if nonO ro = true then (if 8 < ns.length then some (5, .int 8) else none) else if nameO ro = false then some (1, rv) else if inNames ns ro = true then some (4, rv) else if 8 < ns.length + 1 then some (5, .int 8) else none
def catR (rs : List Row) (rv : V) (ro : Option PyData) : Option (Nat × V) := match ovl rs with
  | some y => some (3, .str y)
  | none => restR (rs.map (·.1)) rv ro
def catF (es : List Ent) (rv : V) (ro : Option PyData) : Option (Nat × V) := match rsF es with
  | some q => some q
  | none => catR (rowsE es) rv ro
def restL : Option PyData → List Str
  | some (.str s) => [s]
  | _ => []
theorem lookE_of : ∀ {es : List Ent}, nodK es → ∀ e ∈ es, lookE es e.1 = some e
  | x :: r, nd, e, he => by
    have nd' := List.nodup_cons.mp (show (x.1 :: r.map (·.1)).Nodup from nd)
    unfold lookE
    rw [List.find?_cons]
    rcases List.mem_cons.mp he with rfl | he
    · rw [decide_eq_true rfl]
    · have ne : ¬ x.1 = e.1 := fun z => nd'.1 (by rw [z]; exact List.mem_map.mpr ⟨e, he, rfl⟩)
      rw [decide_eq_false ne]
      exact lookE_of nd'.2 e he
theorem rsF_good {es : List Ent} (nd : nodK es) (h : rsF es = none) : ∀ e ∈ es, goodE e = true := by
  unfold rsF at h
  cases h1 : badKey es with
  | some e => rw [h1] at h; cases h
  | none =>
    rw [h1] at h
    cases h2 : badSpan es with
    | some y => rw [h2] at h; cases h
    | none =>
      intro e he
      have k1 := List.find?_eq_none.mp h1 e he
      have k1 : nameO (some (kD e.1)) = true := by simpa using k1
      unfold goodE
      rw [k1, Bool.true_and]
      obtain ⟨k, v, d⟩ := e
      cases k with
      | inl i => cases k1
      | inr s =>
        have hs : s ∈ srtS (nmsE es) := srt_mem.mpr (List.mem_map.mpr ⟨_, he, rfl⟩)
        have k2 := List.find?_eq_none.mp h2 s hs
        rw [show lookE es (.inr s) = some (.inr s, v, d) from lookE_of nd _ he] at k2
        simpa using k2
theorem rsF_of_good {es : List Ent} (nd : nodK es) (h : ∀ e ∈ es, goodE e = true) : rsF es = none := by
  have h1 : badKey es = none := List.find?_eq_none.mpr fun e he => by
    have := h e he
    unfold goodE at this
    rw [Bool.and_eq_true] at this
    simp [this.1]
  have h2 : badSpan es = none := List.find?_eq_none.mpr fun y hy => by
    obtain ⟨e, he, e1⟩ := List.mem_map.mp (srt_mem.mp hy)
    have g := h e he
    unfold goodE at g
    rw [Bool.and_eq_true] at g
    obtain ⟨k, v, d⟩ := e
    cases k with
    | inl i => cases g.1
    | inr s =>
      have e1 : s = y := e1
      subst e1
      rw [show lookE es (.inr s) = some (.inr s, v, d) from lookE_of nd _ he]
      simp [g.2]
  unfold rsF
  rw [h1, h2]
theorem find_at {α : Type} {p : α → Bool} : ∀ {l : List α} {i : Nat} {x : α}, l[i]? = some x → p x = true → (∀ j, j < i → ∀ y, l[j]? = some y → p y = false) → l.find? p = some x
  | [], _, _, h, _, _ => by simp at h
  | a :: r, 0, x, h, hp, _ => by
    cases h
    rw [List.find?_cons, hp]
  | a :: r, i + 1, x, h, hp, hn => by
    rw [List.find?_cons, hn 0 (Nat.succ_pos _) a rfl]
    exact find_at (l := r) (i := i) (by simpa using h) hp fun j hj y hy => hn (j + 1) (by omega) y (by simpa using hy)
theorem find_no {α : Type} {p : α → Bool} {l : List α} (h : ∀ j, j < l.length → ∀ y, l[j]? = some y → p y = false) : l.find? p = none :=
  List.find?_eq_none.mpr fun x hx => by
    obtain ⟨j, hj, e⟩ := List.mem_iff_getElem.mp hx
    rw [h j hj x (by rw [List.getElem?_eq_getElem hj, e])]
    exact Bool.false_ne_true
/-! ### promises of the program's side -/
/-- what stands for the spans: no dict, or a dict with its entries -/
inductive SpIn (K : PySem.W.Frag) (H : Hp) : V → Option (Addr × List Ent) → Prop
  | no {v : V} {o : Option PyData} : VD K H v o → isT "dict" o = false → SpIn K H v none
  | dict {d : Addr} {es : List Ent} : H d = some (.dK (es.map kvE)) → EV K H es → nodK es → es.length ≤ 60 → SpIn K H (.ref d) (some (d, es))
def rsQ (v : V) : Option (Addr × List Ent) → Option (Nat × V)
  | none => some (0, v)
  | some (_, es) => rsF es
def spX : Option (Addr × List Ent) → List Addr
  | none => []
  | some (d, _) => [d]
def sp_rspans (K : PySem.W.Frag) (Cs : Nat → Addr) : Sp := fun vs H Q E => ∃ (v : V) (o : Option (Addr × List Ent)), vs = [v] ∧ SpIn K H v o ∧ (rsQ v o = none → ∀ H', Same H H' → Q .non H') ∧ ∀ q, rsQ v o = some q → ExC (spX o) H E Cs q
theorem kit_d {K : PySem.W.Frag} (o : Option PyData) : PySem.W.kitOne K (.type (tyO o)) (.type "dict") = some (isT "dict" o) := by
  have h := tyO_mem o
  unfold isT
  generalize tyO o = nm at h ⊢
  rcases h with rfl | rfl | rfl | rfl | rfl | rfl | rfl
  all_goals exact kit_ty (by decide +kernel)
/-! rows by their names -/
theorem rowOf_mem {rs : List Row} {y : Str} (h : y ∈ rs.map (·.1)) : rowOf rs y ∈ rs ∧ (rowOf rs y).1 = y := by
  unfold rowOf
  cases q : rs.find? fun r => decide (r.1 = y) with
  | some r =>
    have := List.find?_some q
    exact ⟨List.mem_of_find?_eq_some q, of_decide_eq_true this⟩
  | none =>
    obtain ⟨r, hr, e⟩ := List.mem_map.mp h
    have := List.find?_eq_none.mp q r hr
    simp [e] at this
theorem valR {rs : List Row} {y : Str} (h : y ∈ rs.map (·.1)) : valV (rs.map rKV) (.inr y) = some (.ref (rowOf rs y).2.1) := by
  have key : ∀ l : List Row, valV (l.map rKV) (.inr y) = (l.find? fun r => decide (r.1 = y)).map fun r => V.ref r.2.1 := fun l => by
    induction l with
    | nil => rfl
    | cons r t ih =>
      rw [List.map_cons, List.find?_cons]
      by_cases e : r.1 = y
      · rw [valV_pos (p := rKV r) (by rw [← e]; rfl), decide_eq_true e]
        rfl
      · rw [valV_neg (p := rKV r) (fun z => e (Sum.inr.inj z)), decide_eq_false e]
        exact ih
  rw [key]
  unfold rowOf
  cases q : rs.find? fun r => decide (r.1 = y) with
  | some r => rfl
  | none =>
    obtain ⟨r, hr, e⟩ := List.mem_map.mp h
    have := List.find?_eq_none.mp q r hr
    simp [e] at this
theorem valR_none {rs : List Row} {y : Str} (h : y ∉ rs.map (·.1)) : valV (rs.map rKV) (.inr y) = none := by
  induction rs with
  | nil => rfl
  | cons r t ih =>
    rw [List.map_cons, List.mem_cons, not_or] at h
    rw [List.map_cons, valV_neg (p := rKV r) (fun z => h.1 (Sum.inr.inj z).symm)]
    exact ih h.2
theorem sortR_names (rs : List Row) : (sortR rs).map (·.1) = srtS (rs.map (·.1)) := by
  unfold sortR
  rw [List.map_map]
  refine (List.map_congr_left fun y hy => ?_).trans (List.map_id _)
  exact (rowOf_mem (srt_mem.mp hy)).2
theorem sortR_mem {rs : List Row} {r : Row} (h : r ∈ sortR rs) : r ∈ rs := by
  obtain ⟨y, hy, rfl⟩ := List.mem_map.mp h
  exact (rowOf_mem (srt_mem.mp hy)).1
theorem sortR_len (rs : List Row) : (sortR rs).length = rs.length := by
  unfold sortR
  rw [List.length_map, srt_len, List.length_map]
theorem sortR_at {rs : List Row} {i : Nat} {y : Str} (h : (srtS (rs.map (·.1)))[i]? = some y) : (sortR rs)[i]? = some (rowOf rs y) := by
  unfold sortR
  rw [List.getElem?_map, h]
  rfl
theorem rowOf_self : ∀ {rs : List Row}, (rs.map (·.1)).Nodup → ∀ r ∈ rs, rowOf rs r.1 = r
  | x :: t, nd, r, hr => by
    have nd' := List.nodup_cons.mp (show (x.1 :: t.map (·.1)).Nodup from nd)
    unfold rowOf
    rw [List.find?_cons]
    rcases List.mem_cons.mp hr with rfl | hr
    · rw [decide_eq_true rfl]
      rfl
    · have ne : ¬ x.1 = r.1 := fun z => nd'.1 (by rw [z]; exact List.mem_map.mpr ⟨r, hr, rfl⟩)
      rw [decide_eq_false ne]
      exact rowOf_self nd'.2 r hr
theorem spD_inj {s t : Span} (h : spD s = spD t) : s = t := by
  obtain ⟨a, b⟩ := s
  obtain ⟨c, d⟩ := t
  have h' : PyData.tuple [limD a, limD b] = PyData.tuple [limD c, limD d] := h
  injection h' with h1
  injection h1 with h2 h3
  injection h3 with h4 _
  rw [limD_inj h2, limD_inj h4]
theorem ovlR_step {acc : List Row} {r : Row} {t : List Row} : ovlR acc (r :: t) = if acc.any (fun q => meetB q.2.2 r.2.2) = true then some r.1 else ovlR (acc ++ [r]) t := rfl
theorem nameO_s {o : Option PyData} (h : nameO o = true) : ∃ s, o = some (.str s) := by
  rcases o with _ | d
  · cases h
  · cases d with
    | str s => exact ⟨s, rfl⟩
    | _ => cases h
def fmV : Option Row → V
  | none => .non
  | some r => .str r.1
def sp_fmeet (K : PySem.W.Frag) : Sp := fun vs H Q _ => ∃ (d a : Addr) (rs : List Row) (s : Span), vs = [.ref d, .ref a] ∧ H d = some (.dK (rs.map rKV)) ∧ RowsOk K H rs ∧ (rs.map (·.1)).Nodup ∧ SqT K H a (spV s) ∧ okS s = true ∧
  ∀ H', Same H H' → Q (fmV (rs.find? fun r => meetB r.2.2 s)) H'
def sp_ordered (K : PySem.W.Frag) (CO : Addr) : Sp := fun vs H Q E => ∃ (d : Addr) (rs : List Row), vs = [.ref d] ∧ H d = some (.dK (rs.map rKV)) ∧ RowsOk K H rs ∧ (rs.map (·.1)).Nodup ∧ rs.length ≤ 60 ∧
  (ovl rs = none → ∀ p H', Same H H' → H p = none → H' p = some (.dK ((sortR rs).map rKV)) → Q (.ref p) H') ∧ ∀ y, ovl rs = some y → Rz H E CO "name" (.str y)
def restX (ns : List Str) (rv : V) (ro : Option PyData) : Option (Nat × V) := if nonO ro = true then none else if nameO ro = false then some (1, rv) else if inNames ns ro = true then some (4, rv) else none
def sp_rrest (K : PySem.W.Frag) (Cs : Nat → Addr) : Sp := fun vs H Q E => ∃ (rv : V) (ro : Option PyData) (d : Addr) (rs : List Row), vs = [rv, .ref d] ∧ VD K H rv ro ∧ H d = some (.dK (rs.map rKV)) ∧ (restX (rs.map (·.1)) rv ro = none → ∀ H', Same H H' → Q .non H') ∧ ∀ q, restX (rs.map (·.1)) rv ro = some q → ExC [] H E Cs q
def lowV (s : Span) : List V := match s.1 with
  | none => [.int 0, .int 0]
  | some i => [.int 1, .int i]
def lowD (s : Span) : PyData := match s.1 with
  | none => .tuple [.int 0, .int 0]
  | some i => .tuple [.int 1, .int i]
def sp_lowp (K : PySem.W.Frag) : Sp := fun vs H Q _ => ∃ (a : Addr) (s : Span), vs = [.ref a] ∧ SqT K H a (spV s) ∧ ∀ p H', Same H H' → H p = none → H' p = some (.tup (lowV s)) → Q (.ref p) H'
theorem low_alike (l : List Str) {rs : List Row} : PySem.W.AllAlike (l.map fun y => lowD (rowOf rs y).2.2) := PySem.W.AllAlike.of fun a b => by
  unfold lowD
  cases (rowOf rs a).2.2.1 <;> cases (rowOf rs b).2.2.1 <;> simp [PySem.W.alike, PySem.W.alikeAll]
theorem low_sortable (l : List Str) {rs : List Row} : PySem.W.Sortable (l.map fun y => lowD (rowOf rs y).2.2) := PySem.W.Sortable.tuples fun y => by
  unfold lowD
  cases (rowOf rs y).2.2.1
  · exact ⟨_, _, rfl⟩
  · exact ⟨_, _, rfl⟩
theorem low_depth (s : Span) : (lowD s).depth ≤ 8 := by
  unfold lowD
  cases s.1 <;> simp [PyData.depth, PyData.depthAll]
theorem low_dp {K : PySem.W.Frag} {H : Hp} {p : Addr} {s : Span} (h : H p = some (.tup (lowV s))) : Dp K H (.ref p) (lowD s) := by
  unfold lowV at h
  unfold lowD
  cases e : s.1 with
  | none =>
    rw [e] at h
    exact .tup (SqT.of h) (.cons (.int 0) (.cons (.int 0) .nil))
  | some i =>
    rw [e] at h
    exact .tup (SqT.of h) (.cons (.int 1) (.cons (.int i) .nil))
theorem limV_scal (a b : Option Int) : scal (limV a) (limV b) = true := by
  cases a <;> cases b <;> rfl
/-- the table's own objects are no lists -/
theorem tabS_sx {H H' : Hp} {P : Addr} {q : Str} {xs : List Addr} (h : LamX.TabS H P q) (s : SX xs H H') (n : ∀ x ∈ xs, ∀ o, H x = some o → ∃ l, o = .lst l) : LamX.TabS H' P q := by
  obtain ⟨ps, h1, h2, h3⟩ := h
  refine ⟨ps, s _ _ (fun z => ?_) h1, h2, fun pos cv hc => ?_⟩
  · obtain ⟨l, e⟩ := n _ z _ h1
    cases e
  · obtain ⟨c, e1, e2⟩ := h3 pos cv hc
    refine ⟨c, e1, s _ _ (fun z => ?_) e2⟩
    obtain ⟨l, e⟩ := n _ z _ e2
    unfold LamX.CodeO at e
    cases e
theorem tup_sx {K : PySem.W.Frag} {H H' : Hp} {p a : Addr} {l vs : List V} (s : SX [p] H H') (hp : H p = some (.lst l)) (h : SqT K H a vs) : SqT K H' a vs := by
  rcases h with (h | ⟨o, h⟩) | h
  · exact .inl (.inl (s _ _ (by simpa using ne_of h hp (by intro z; cases z)) h))
  · exact .inl (.inr ⟨o, s _ _ (by simpa using ne_of h hp (by intro z; cases z)) h⟩)
  · exact .inr h
theorem sx_upd {p : Addr} {H H' : Hp} {o : HO} (s : SX [p] H H') : SX [p] H (upd H' p o) := fun b u n e => by
  rw [upd_ne (by simpa using n)]
  exact s b u n e
/-! ### the stretches of all keys -/
abbrev StR := Option Int × Option Int × V
def stV (s : StR) : List V := [limV s.1, limV s.2.1, s.2.2]
def strG (rv : V) : Option Int → List Row → List StR
  | _, [] => []
  | e, r :: t => (if (!decide (limV r.2.2.1 = limV e)) = true then [(e, r.2.2.1, rv)] else []) ++ ((r.2.2.1, r.2.2.2, V.str r.1) :: strG rv r.2.2.2 t)
def endG : Option Int → List Row → Option Int
  | e, [] => e
  | _, r :: t => endG r.2.2.2 t
def strT (rv : V) (rows : List Row) : List StR := if (!(!(strG rv none rows).isEmpty)) = true then strG rv none rows ++ [(endG none rows, none, rv)] else if (!decide (limV (endG none rows) = V.non)) = true then strG rv none rows ++ [(endG none rows, none, rv)] else strG rv none rows
theorem strG_snoc (rv : V) (r : Row) : ∀ (l : List Row) (e : Option Int), strG rv e (l ++ [r]) = strG rv e l ++ ((if (!decide (limV r.2.2.1 = limV (endG e l))) = true then [(endG e l, r.2.2.1, rv)] else []) ++ [(r.2.2.1, r.2.2.2, V.str r.1)])
  | [], e => rfl
  | x :: l, e => by
    show _ ++ (_ :: strG rv x.2.2.2 (l ++ [r])) = (_ ++ (_ :: strG rv x.2.2.2 l)) ++ _
    rw [strG_snoc rv r l, List.append_assoc, List.cons_append]
    rfl
theorem endG_snoc (r : Row) : ∀ (l : List Row) (e : Option Int), endG e (l ++ [r]) = r.2.2.2
  | [], e => rfl
  | x :: l, e => endG_snoc r l x.2.2.2
theorem strG_len (rv : V) : ∀ (l : List Row) (e : Option Int), (strG rv e l).length ≤ 2 * l.length
  | [], _ => Nat.le_refl _
  | r :: t, e => by
    have := strG_len rv t r.2.2.2
    unfold strG
    rw [List.length_append, List.length_cons, List.length_cons]
    split
    · rw [List.length_singleton]; omega
    · rw [List.length_nil]; omega
/-- the rows in the order of their low limits -/
def lowsS (rs : List Row) : List Str := (rs.map (·.1)).mergeSort (PySem.W.dataLe false fun y => lowD (rowOf rs y).2.2)
def ordR (rs : List Row) : List Row := (lowsS rs).map (rowOf rs)
/-- xs are the tuples of these stretches -/
def StAt (H : Hp) (xs : List V) (sts : List StR) : Prop := ∃ zs : List (Addr × StR), xs = zs.map (fun z => V.ref z.1) ∧ zs.map (·.2) = sts ∧ ∀ z ∈ zs, H z.1 = some (.tup (stV z.2))
theorem StAt.nd {H H' : Hp} {xs : List V} {sts : List StR} (s : ND H H') (h : StAt H xs sts) : StAt H' xs sts := by
  obtain ⟨zs, h1, h2, h3⟩ := h
  exact ⟨zs, h1, h2, fun z hz => s _ _ (h3 z hz) rfl⟩
theorem StAt.mono {H H' : Hp} {xs : List V} {sts : List StR} (s : Same H H') (h : StAt H xs sts) : StAt H' xs sts := h.nd (.of s)
theorem StAt.sx {H H' : Hp} {p : Addr} {l xs : List V} {sts : List StR} (hp : H p = some (.lst l)) (s : SX [p] H H') (h : StAt H xs sts) : StAt H' xs sts := by
  obtain ⟨zs, h1, h2, h3⟩ := h
  exact ⟨zs, h1, h2, fun z hz => s _ _ (by simpa using ne_of (h3 z hz) hp (by intro z; cases z)) (h3 z hz)⟩
theorem StAt.nil {H : Hp} : StAt H [] [] := ⟨[], rfl, rfl, fun z hz => (List.not_mem_nil hz).elim⟩
theorem StAt.snoc {H : Hp} {xs : List V} {sts : List StR} {t : Addr} {s : StR} (h : StAt H xs sts) (ht : H t = some (.tup (stV s))) : StAt H (xs ++ [.ref t]) (sts ++ [s]) := by
  obtain ⟨zs, h1, h2, h3⟩ := h
  refine ⟨zs ++ [(t, s)], by rw [h1, List.map_append]; rfl, by rw [List.map_append, h2]; rfl, fun z hz => ?_⟩
  rcases List.mem_append.mp hz with hz | hz
  · exact h3 z hz
  · rw [List.mem_singleton.mp hz]
    exact ht
theorem StAt.len {H : Hp} {xs : List V} {sts : List StR} (h : StAt H xs sts) : xs.length = sts.length := by
  obtain ⟨zs, h1, h2, h3⟩ := h
  rw [h1, ← h2, List.length_map, List.length_map]
/-- a list of the stretches stands at p -/
def StL (H : Hp) (p : Addr) (xs : List V) (rs : List Row) (rv : V) : Prop := H p = some (.lst xs) ∧ StAt H xs (strT rv (ordR rs))
theorem StL.nd {H H' : Hp} {p : Addr} {xs : List V} {rs : List Row} {rv : V} (s : ND H H') (h : StL H p xs rs rv) : StL H' p xs rs rv := ⟨s _ _ h.1 rfl, h.2.nd s⟩
theorem StL.mono {H H' : Hp} {p : Addr} {xs : List V} {rs : List Row} {rv : V} (s : Same H H') (h : StL H p xs rs rv) : StL H' p xs rs rv := h.nd (.of s)
def lamQ : Str := "all_stretches.<locals>.<lambda>"
def sp_allst (K : PySem.W.Frag) (P : Addr) : Sp := fun vs H Q _ => ∃ (d : Addr) (rv : V) (rs : List Row), vs = [.ref d, rv] ∧ H d = some (.dK (rs.map rKV)) ∧ RowsOk K H rs ∧ (rs.map (·.1)).Nodup ∧ rs.length ≤ 60 ∧ LamX.TabS H P lamQ ∧
  ∀ p H' xs, LamX.ExtN H H' → LamX.TabS H' P lamQ → H p = none → StL H' p xs rs rv → Q (.ref p) H'
/-! ### catalogs made -/
def EX (xs : List Addr) (H H' : Hp) : Prop := ∀ b o, b ∉ xs → H b = some o → (∀ ps, o ≠ .tbl ps) → H' b = some o
theorem EX.of {xs : List Addr} {H H' : Hp} (s : SX xs H H') : EX xs H H' := fun b o n e _ => s b o n e
theorem EX.same {xs : List Addr} {H H' : Hp} (s : Same H H') : EX xs H H' := fun b o _ e _ => s b o e
theorem EX.trans {xs : List Addr} {H H1 H2 : Hp} (a : EX xs H H1) (b : EX xs H1 H2) : EX xs H H2 := fun c o n e t => b c o n (a c o n e t) t
theorem EX.mono {xs ys : List Addr} {H H' : Hp} (a : EX xs H H') (h : ∀ x ∈ xs, x ∈ ys) : EX ys H H' := fun c o n e => a c o (fun z => n (h c z)) e
theorem EX.nd {xs : List Addr} {H H' : Hp} (s : EX xs H H') (n : ∀ x ∈ xs, ∀ o, H x = some o → seqO o = false) : ND H H' := fun b o e z => s b o (fun hb => by
  rw [n b hb o e] at z
  cases z) e fun ps w => by
  rw [w] at z
  cases z
inductive CaIn (K : PySem.W.Frag) (H : Hp) : V → Option (Option (Addr × List Ent)) → Prop
  | non : CaIn K H .non none
  | some {v : V} {o : Option (Addr × List Ent)} : SpIn K H v o → decide (v = .non) = false → CaIn K H v (some o)
def caR (v rv : V) (ro : Option PyData) : Option (Option (Addr × List Ent)) → Option (Nat × V)
  | none => catR [] rv ro
  | some none => some (0, v)
  | some (some (_, es)) => catF es rv ro
def caX : Option (Option (Addr × List Ent)) → List Addr
  | none => []
  | some o => spX o
/-- what a making that is refused leaves locked: the dict whose own entries are wrong -/
def caL : Option (Option (Addr × List Ent)) → List Addr
  | some (some (d, es)) => if (rsF es).isSome = true then [d] else []
  | _ => []
theorem caL_some {d : Addr} {es : List Ent} {q : Nat × V} (h : rsF es = some q) : caL (some (some (d, es))) = [d] := by
  show (if (rsF es).isSome = true then [d] else []) = [d]
  rw [h]
  rfl
theorem caL_none {d : Addr} {es : List Ent} (h : rsF es = none) : caL (some (some (d, es))) = [] := by
  show (if (rsF es).isSome = true then [d] else []) = []
  rw [h]
  rfl
theorem caL_spX {o : Option (Addr × List Ent)} {b : Addr} (h : b ∈ caL (some o)) : b ∈ spX o := by
  rcases o with _ | ⟨d, es⟩
  · exact h
  · cases e : rsF es with
    | none =>
      rw [caL_none e] at h
      exact (List.not_mem_nil h).elim
    | some q =>
      rw [caL_some e] at h
      exact h
def caRows : Option (Option (Addr × List Ent)) → List Row
  | some (some (_, es)) => rowsE es
  | _ => []
def rvO : Option Str → V
  | none => .non
  | some s => .str s
def rtO : Option PyData → Option Str
  | some (.str s) => some s
  | _ => none
def nmsC (rs : List Row) (rt : Option Str) : List Str := srtS (rs.map (·.1) ++ rt.toList)
def fs1 (d : Addr) : List (Str × V) := [("_spans", .ref d)]
def fs2 (d : Addr) (rv : V) : List (Str × V) := [("_spans", .ref d), ("_rest", rv)]
def fs3 (d : Addr) (rv : V) (l : Addr) : List (Str × V) := [("_spans", .ref d), ("_rest", rv), ("_names", .ref l)]
def fsC (d : Addr) (rv : V) (l p : Addr) : List (Str × V) := [("_spans", .ref d), ("_rest", rv), ("_names", .ref l), ("_stretches", .ref p)]
theorem fs1_eq (d : Addr) : putF "_spans" (.ref d) [] = fs1 d := rfl
theorem sn (a b : Str) (h : decide (a = b) = false := by decide +kernel) : ¬ a = b := of_decide_eq_false h
theorem fs2_eq (d : Addr) (rv : V) : putF "_rest" rv (fs1 d) = fs2 d rv := by
  simp [putF, fs1, fs2, sn "_spans" "_rest"]
theorem fs3_eq (d : Addr) (rv : V) (l : Addr) : putF "_names" (.ref l) (fs2 d rv) = fs3 d rv l := by
  simp [putF, fs2, fs3, sn "_spans" "_names", sn "_rest" "_names"]
theorem fsC_eq (d : Addr) (rv : V) (l p : Addr) : putF "_stretches" (.ref p) (fs3 d rv l) = fsC d rv l p := by
  simp [putF, fs3, fsC, sn "_spans" "_stretches", sn "_rest" "_stretches", sn "_names" "_stretches"]
theorem lk1 (d : Addr) : (fs1 d).lookup ("_spans" : Str) = some (.ref d) := by simp [fs1, List.lookup]
theorem lk2 (d : Addr) (rv : V) : (fs2 d rv).lookup ("_spans" : Str) = some (.ref d) := by simp [fs2, List.lookup]
theorem lk3 (d : Addr) (rv : V) (l : Addr) : (fs3 d rv l).lookup ("_spans" : Str) = some (.ref d) := by simp [fs3, List.lookup]
theorem lkS (d : Addr) (rv : V) (l p : Addr) : (fsC d rv l p).lookup ("_spans" : Str) = some (.ref d) := by simp [fsC, List.lookup]
theorem sb (a b : Str) (h : (a == b) = false := by decide +kernel) : (a == b) = false := h
theorem lkR (d : Addr) (rv : V) (l p : Addr) : (fsC d rv l p).lookup ("_rest" : Str) = some rv := by simp [fsC, List.lookup, sb "_rest" "_spans"]
theorem lkN (d : Addr) (rv : V) (l p : Addr) : (fsC d rv l p).lookup ("_names" : Str) = some (.ref l) := by simp [fsC, List.lookup, sb "_names" "_spans", sb "_names" "_rest"]
/-- a catalog stands at x: its rows, its rest part -/
def CatAt (K : PySem.W.Frag) (C : Addr) (H : Hp) (x : Addr) (rs : List Row) (rt : Option Str) : Prop := ∃ (dx d l p : Addr) (xs : List V), H x = some (.ins C dx (fsC d (rvO rt) l p)) ∧ H d = some (.dK ((sortR rs).map rKV)) ∧ H l = some (.lst ((nmsC rs rt).map V.str)) ∧ StL H p xs (sortR rs) (rvO rt) ∧ RowsOk K H rs
theorem CatAt.mono {K : PySem.W.Frag} {C : Addr} {H H' : Hp} {x : Addr} {rs : List Row} {rt : Option Str} (s : Same H H') (h : CatAt K C H x rs rt) : CatAt K C H' x rs rt := by
  obtain ⟨dx, d, l, p, xs, h1, h2, h3, h4, h5⟩ := h
  exact ⟨dx, d, l, p, xs, s _ _ h1, s _ _ h2, s _ _ h3, h4.mono s, h5.mono s⟩
/-- a catalog that was made: its parts are new against H0 -/
def CatNew (K : PySem.W.Frag) (C : Addr) (H0 H : Hp) (x : Addr) (rs : List Row) (rt : Option Str) : Prop := ∃ (dx d l p : Addr) (xs : List V), H x = some (.ins C dx (fsC d (rvO rt) l p)) ∧ H d = some (.dK ((sortR rs).map rKV)) ∧ H l = some (.lst ((nmsC rs rt).map V.str)) ∧ StL H p xs (sortR rs) (rvO rt) ∧ RowsOk K H rs ∧ H0 d = none ∧ H0 l = none ∧ H0 p = none
theorem CatNew.at_ {K : PySem.W.Frag} {C : Addr} {H0 H : Hp} {x : Addr} {rs : List Row} {rt : Option Str} (h : CatNew K C H0 H x rs rt) : CatAt K C H x rs rt := by
  obtain ⟨dx, d, l, p, xs, h1, h2, h3, h4, h5, _⟩ := h
  exact ⟨dx, d, l, p, xs, h1, h2, h3, h4, h5⟩
theorem CatNew.back {K : PySem.W.Frag} {C : Addr} {H0 H1 H : Hp} {x : Addr} {rs : List Row} {rt : Option Str} (s : Same H0 H1) (h : CatNew K C H1 H x rs rt) : CatNew K C H0 H x rs rt := by
  obtain ⟨dx, d, l, p, xs, h1, h2, h3, h4, h5, h6, h7, h8⟩ := h
  exact ⟨dx, d, l, p, xs, h1, h2, h3, h4, h5, s.free h6, s.free h7, s.free h8⟩
theorem CatNew.mono {K : PySem.W.Frag} {C : Addr} {H0 H H' : Hp} {x : Addr} {rs : List Row} {rt : Option Str} (s : Same H H') (h : CatNew K C H0 H x rs rt) : CatNew K C H0 H' x rs rt := by
  obtain ⟨dx, d, l, p, xs, h1, h2, h3, h4, h5, h6⟩ := h
  exact ⟨dx, d, l, p, xs, s _ _ h1, s _ _ h2, s _ _ h3, h4.mono s, h5.mono s, h6⟩
def sp_cinit (K : PySem.W.Frag) (C : Addr) (Cs : Nat → Addr) (P : Addr) : Sp := fun vs H Q E => ∃ (x dx : Addr) (v rv : V) (rd : PyData) (o : Option (Option (Addr × List Ent))), vs = [.ref x, v, rv] ∧ H x = some (.ins C dx []) ∧ CaIn K H v o ∧ VD K H rv (some rd) ∧ LamX.TabS H P lamQ ∧
  (∀ q, caR v rv (some rd) o = some q → ExC (x :: caL o) H E Cs q) ∧ (caR v rv (some rd) o = none → ∀ H', EX [x] H H' → LamX.TabS H' P lamQ → CatNew K C H H' x (caRows o) (rtO (some rd)) → rv = rvO (rtO (some rd)) → Q .non H')
theorem RzX.less {xs ys : List Addr} {H : Hp} {E : XK} {C : Addr} {f : Str} {v : V} (h : ∀ x ∈ xs, x ∈ ys) (k : RzX ys H E C f v) : RzX xs H E C f v := fun d H' n x s => k d H' n x (s.mono h)
theorem catF_of {es : List Ent} {rv : V} {ro : Option PyData} {q : Nat × V} (h : rsF es = some q) : catF es rv ro = some q := by
  unfold catF
  rw [h]
theorem catF_go {es : List Ent} {rv : V} {ro : Option PyData} (h : rsF es = none) : catF es rv ro = catR (rowsE es) rv ro := by
  unfold catF
  rw [h]
theorem catR_ovl {rs : List Row} {rv : V} {ro : Option PyData} {y : Str} (h : ovl rs = some y) : catR rs rv ro = some (3, .str y) := by
  unfold catR
  rw [h]
theorem catR_go {rs : List Row} {rv : V} {ro : Option PyData} (h : ovl rs = none) : catR rs rv ro = restR (rs.map (·.1)) rv ro := by
  unfold catR
  rw [h]
theorem inNames_congr {ns ms : List Str} (h : ∀ s, s ∈ ns ↔ s ∈ ms) (ro : Option PyData) : inNames ns ro = inNames ms ro := by
  rcases ro with _ | d
  · rfl
  · cases d with
    | str s => exact decide_eq_decide.mpr (h s)
    | _ => rfl
theorem restX_congr {ns ms : List Str} (h : ∀ s, s ∈ ns ↔ s ∈ ms) (rv : V) (ro : Option PyData) : restX ns rv ro = restX ms rv ro := by
  unfold restX
  rw [inNames_congr h]
theorem restR_X {ns : List Str} {rv : V} {ro : Option PyData} {q : Nat × V} (h : restX ns rv ro = some q) : restR ns rv ro = some q := by
  unfold restX at h
  unfold restR
  split
  · rename_i e
    rw [if_pos e] at h
    cases h
  · rename_i e
    rw [if_neg e] at h
    split
    · rename_i e2
      rw [if_pos e2] at h
      exact h
    · rename_i e2
      rw [if_neg e2] at h
      split
      · rename_i e3
        rw [if_pos e3] at h
        exact h
      · rename_i e3
        rw [if_neg e3] at h
        cases h
/-- behind require_rest: the rest is None or a name; only the number is left -/
theorem restX_none {K : PySem.W.Frag} {H : Hp} {ns : List Str} {rv : V} {ro : Option PyData} (hv : VD K H rv ro) (h : restX ns rv ro = none) : ∃ rt, rv = rvO rt ∧ rtO ro = rt ∧ nonO ro = rt.isNone ∧ (∀ s, rt = some s → nameS s = true ∧ s ∉ ns) ∧ restR ns rv ro = if 8 < ns.length + rt.toList.length then some (5, .int 8) else none := by
  unfold restX at h
  unfold restR
  cases e : nonO ro with
  | true =>
    refine ⟨none, ?_, ?_, rfl, (fun s z => nomatch z), ?_⟩
    · have := vd_non hv
      rw [e] at this
      exact of_decide_eq_true this
    · rcases ro with _ | d
      · rfl
      · cases d with
        | str s => cases e
        | _ => rfl
    · rw [if_pos rfl]
      rfl
  | false =>
    rw [e, if_neg Bool.false_ne_true] at h
    rw [if_neg Bool.false_ne_true]
    cases e1 : nameO ro with
    | false =>
      rw [if_pos e1] at h
      cases h
    | true =>
      rw [e1, if_neg (by decide)] at h
      rw [if_neg (by decide)]
      obtain ⟨s, rfl⟩ := nameO_s e1
      cases hv with
      | dat a b c =>
      cases a
      cases e2 : inNames ns (some (.str s)) with
      | true =>
        rw [if_pos e2] at h
        cases h
      | false =>
        refine ⟨some s, rfl, rfl, rfl, fun s' z => ?_, ?_⟩
        · cases z
          exact ⟨e1, of_decide_eq_false e2⟩
        · rw [if_neg Bool.false_ne_true]
          rfl
theorem sx_free {x : Addr} {H Ha : Hp} {o : HO} (s : SX [x] H Ha) (h : Ha x = some o) (b : Addr) (n : Ha b = none) : H b = none := by
  cases q : H b with
  | none => rfl
  | some u =>
    by_cases z : b = x
    · rw [z, h] at n
      cases n
    · rw [s b u (by simpa using z) q] at n
      cases n
theorem keysV (rs : List Row) : ((sortR rs).map rKV).map (fun q => kV q.1) = (srtS (rs.map (·.1))).map V.str := by
  rw [← sortR_names, List.map_map, List.map_map]
  rfl
theorem rsF_nil : rsF [] = none := rsF_of_good (es := []) List.nodup_nil fun e he => (List.not_mem_nil he).elim
theorem rows_nodup {rs : List Row} (h : nodK (rs.map rE)) : (rs.map (·.1)).Nodup := by
  unfold nodK at h
  rw [List.map_map] at h
  have : ((fun e : Ent => e.1) ∘ rE) = (fun r : Row => (Sum.inr r.1 : Key)) := rfl
  rw [this] at h
  unfold List.Nodup at h ⊢
  rw [List.pairwise_map] at h ⊢
  exact h.imp fun k e => k (by rw [e])
def sp_cnames (K : PySem.W.Frag) (C : Addr) : Sp := fun vs H Q _ => ∃ (x : Addr) (rs : List Row) (rt : Option Str), vs = [.ref x] ∧ CatAt K C H x rs rt ∧ (nmsC rs rt).length ≤ 1000 ∧ ∀ p, H p = none → Q (.ref p) (upd H p (.lst ((nmsC rs rt).map V.str)))
def sortD (rs : List Row) : List (Key × PyData) := (sortR rs).map fun r => (.inr r.1, spD r.2.2)
def ceqB (rs rs' : List Row) (rt rt' : Option Str) : Bool := (rs.length == rs'.length && entsEq (sortD rs) (sortD rs')) && decide (rt = rt')
theorem ents_rows {K : PySem.W.Frag} {H : Hp} : ∀ {rs : List Row}, RowsOk K H rs → Ents K H (rs.map rKV) (rs.map fun r => (.inr r.1, spD r.2.2))
  | [], _ => .nil
  | r :: t, h => .cons (.tup (h r List.mem_cons_self).1 (dpAll_spV _)) (shaped_sp _) (ents_rows fun x hx => h x (List.mem_cons_of_mem _ hx))
theorem rvO_dec (a b : Option Str) : decide (rvO a = rvO b) = decide (a = b) := by
  rw [decide_eq_decide]
  constructor
  · intro h
    cases a <;> cases b <;> simp [rvO] at h <;> simp [h]
  · intro h
    rw [h]
theorem rvO_scal (a b : Option Str) : scal (rvO a) (rvO b) = true := by
  cases a <;> cases b <;> rfl
/-- x == z, x a catalog -/
def sp_ceq (K : PySem.W.Frag) (C : Addr) : Sp := fun vs H Q _ => ∃ (x : Addr) (z : V) (rs : List Row) (rt : Option Str), vs = [.ref x, z] ∧ CatAt K C H x rs rt ∧
  ((∃ t, TyX K H z t ∧ PySem.W.kitOne K t (.ref C) = some false ∧ Q (.bl false) H) ∨ ∃ y rs' rt', z = .ref y ∧ CatAt K C H y rs' rt' ∧ Q (.bl (ceqB rs rs' rt rt')) H)
/-! ### the law's side of catalogs -/
def ok2 : Option Int → Option Int → Bool
  | some l, some h => decide (l < h)
  | _, _ => true
def meetL (s t : Span) : Bool := ok2 s.1 t.2 && ok2 t.1 s.2
theorem meetL_eq {s t : Span} (hs : okS s = true) (ht : okS t = true) : meetL s t = meetB s t := by
  obtain ⟨a, b⟩ := s
  obtain ⟨c, d⟩ := t
  unfold meetL meetB comS
  cases a <;> cases b <;> cases c <;> cases d <;> simp [ok2, okS, maxO, minO] at hs ht ⊢
  all_goals
    first
      | omega
      | (rw [Bool.eq_iff_iff]; simp; omega)
def sp_lmeet (K : PySem.W.Frag) : Sp := fun vs H Q _ => ∃ (a b : Addr) (s t : Span), vs = [.ref a, .ref b] ∧ SqT K H a (spV s) ∧ SqT K H b (spV t) ∧ ∀ H', Same H H' → Q (.bl (meetL s t)) H'
def wC : Nat → Str
  | 0 => "spans"
  | 1 => "name"
  | 2 => "span"
  | 3 => "overlap"
  | 4 => "taken"
  | _ => "many"
def sp_ldue (K : PySem.W.Frag) : Sp := fun vs H Q _ => ∃ (d : Addr) (es : List Ent) (rv : V) (rd : PyData), vs = [.ref d, rv] ∧ H d = some (.dK (es.map kvE)) ∧ EV K H es ∧ nodK es ∧ es.length ≤ 60 ∧ VD K H rv (some rd) ∧
  (∀ n w, catF es rv (some rd) = some (n, w) → ∀ H' p, Same H H' → H p = none → H' p = some (.lst [.str (wC n), w]) → Q (.ref p) H') ∧
  (catF es rv (some rd) = none → ∀ H' p l, Same H H' → H p = none → H' p = some (.lst [.str "made", .ref l]) → H' l = some (.lst ((srtS (nmsE es ++ (rtO (some rd)).toList)).map V.str)) → Q (.ref p) H')
theorem nameC_len {s : Str} (h : nameS s = true) : s.length ≤ 8 := by
  unfold nameS at h
  rw [Bool.and_eq_true, Bool.and_eq_true, Bool.and_eq_true, decide_eq_true_iff, decide_eq_true_iff] at h
  omega
theorem nameC_ok {s : Str} (h : nameS s = true) : PyData.strOk s = true := by
  unfold nameS at h
  rw [Bool.and_eq_true, Bool.and_eq_true, Bool.and_eq_true] at h
  refine strOk_iff.mpr fun c hc => ?_
  have := List.all_eq_true.mp h.2.2.2 c hc
  rw [okSign_is, decide_eq_true_iff] at this
  have all : ∀ c ∈ ("abcdefghijklmnopqrstuvwxyz" : Str).cps.toList, c < 0x110000 := by decide +kernel
  exact all c this
theorem strsC_sh {ss : List Str} (h : ∀ s ∈ ss, nameS s = true) : SeqAt.shaped (.list (ss.map PyData.str)) = true := shaped_list (n := 0) (by decide) fun d hd => by
  obtain ⟨s, hs, rfl⟩ := List.mem_map.mp hd
  refine ⟨?_, by simp [PyData.depth]⟩
  simp only [PyData.canLay0]
  exact nameC_ok (h s hs)
theorem filt_any {α : Type} (p : α → Bool) (l : List α) : (l.filter p).isEmpty = !l.any p := by
  induction l with
  | nil => rfl
  | cons a t ih =>
    rw [List.filter_cons, List.any_cons]
    cases h : p a with
    | true => rfl
    | false => simpa [h] using ih
theorem sortR_take (rs : List Row) (k : Nat) : (sortR rs).take k = ((srtS (rs.map (·.1))).take k).map (rowOf rs) := by
  unfold sortR
  rw [List.map_take]
/-- the overlap, looked at by names -/
theorem any_rows {rs : List Row} {K : PySem.W.Frag} {H : Hp} (hrs : RowsOk K H rs) {y : Str} (hy : y ∈ rs.map (·.1)) (k : Nat) :
    ((sortR rs).take k).any (fun q => meetB q.2.2 (rowOf rs y).2.2) = ((srtS (rs.map (·.1))).take k).any fun z => meetL (rowOf rs z).2.2 (rowOf rs y).2.2 := by
  rw [sortR_take, List.any_map]
  have h1 := (hrs _ (rowOf_mem hy).1).2.1
  rw [Bool.eq_iff_iff, List.any_eq_true, List.any_eq_true]
  constructor
  · rintro ⟨z, hz, e⟩
    refine ⟨z, hz, ?_⟩
    rw [meetL_eq (hrs _ (rowOf_mem (srt_mem.mp (List.mem_of_mem_take hz))).1).2.1 h1]
    exact e
  · rintro ⟨z, hz, e⟩
    refine ⟨z, hz, ?_⟩
    rw [meetL_eq (hrs _ (rowOf_mem (srt_mem.mp (List.mem_of_mem_take hz))).1).2.1 h1] at e
    exact e
def sp_ltold (K : PySem.W.Frag) (P : Addr) : Sp := fun vs H Q _ => ∃ (v rv : V) (rd : PyData) (o : Option (Addr × List Ent)), vs = [v, rv] ∧ SpIn K H v o ∧ decide (v = .non) = false ∧ VD K H rv (some rd) ∧ LamX.TabS H P lamQ ∧
  (∀ n w, caR v rv (some rd) (some o) = some (n, w) → ∀ H' p, EX (spX o) H H' → LamX.TabS H' P lamQ → H' p = some (.lst [.str (wC n), w]) → Q (.ref p) H') ∧
  (caR v rv (some rd) (some o) = none → ∀ H' p l, EX (spX o) H H' → LamX.TabS H' P lamQ → H' p = some (.lst [.str "made", .ref l]) → H' l = some (.lst ((nmsC (caRows (some o)) (rtO (some rd))).map V.str)) → Q (.ref p) H')
theorem restR_le {ns : List Str} {rv : V} {ro : Option PyData} {n : Nat} {w : V} (h : restR ns rv ro = some (n, w)) : n = 1 ∨ n = 4 ∨ n = 5 := by
  unfold restR at h
  split at h
  · split at h
    · cases h
      exact .inr (.inr rfl)
    · cases h
  · split at h
    · cases h
      exact .inl rfl
    · split at h
      · cases h
        exact .inr (.inl rfl)
      · split at h
        · cases h
          exact .inr (.inr rfl)
        · cases h
theorem rsF_le {es : List Ent} {n : Nat} {w : V} (h : rsF es = some (n, w)) : n = 1 ∨ n = 2 := by
  unfold rsF at h
  split at h
  · cases h
    exact .inl rfl
  · split at h
    · cases h
      exact .inr rfl
    · cases h
theorem catR_le {rs : List Row} {rv : V} {ro : Option PyData} {n : Nat} {w : V} (h : catR rs rv ro = some (n, w)) : n = 1 ∨ n = 3 ∨ n = 4 ∨ n = 5 := by
  unfold catR at h
  split at h
  · cases h
    exact .inr (.inl rfl)
  · rcases restR_le h with e | e | e
    · exact .inl e
    · exact .inr (.inr (.inl e))
    · exact .inr (.inr (.inr e))
theorem caR_le {v rv : V} {ro : Option PyData} {o : Option (Option (Addr × List Ent))} {n : Nat} {w : V} (h : caR v rv ro o = some (n, w)) : n = 0 ∨ n = 1 ∨ n = 2 ∨ n = 3 ∨ n = 4 ∨ n = 5 := by
  rcases o with _ | (_ | ⟨d, es⟩)
  · rcases catR_le h with e | e | e | e <;> simp [e]
  · cases h
    exact .inl rfl
  · have h : catF es rv ro = some (n, w) := h
    unfold catF at h
    split at h
    · cases h
      rename_i e
      rcases rsF_le e with e | e <;> simp [e]
    · rcases catR_le h with e | e | e | e <;> simp [e]
theorem restX_of {ns : List Str} {rv : V} {ro : Option PyData} (h : restR ns rv ro = none) : restX ns rv ro = none := by
  cases e : restX ns rv ro with
  | none => rfl
  | some q =>
    rw [restR_X e] at h
    cases h
theorem catR_rest {K : PySem.W.Frag} {H : Hp} {rs : List Row} {rv : V} {rd : PyData} (hv : VD K H rv (some rd)) (h : catR rs rv (some rd) = none) : rv = rvO (rtO (some rd)) ∧ ∀ s, rtO (some rd) = some s → nameS s = true ∧ s ∉ rs.map (·.1) := by
  unfold catR at h
  split at h
  · cases h
  · obtain ⟨rt, h1, h2, _, h4, _⟩ := restX_none hv (restX_of h)
    rw [h2]
    exact ⟨h1, h4⟩
theorem caR_good {d : Addr} {es : List Ent} {v rv : V} {ro : Option PyData} (h : caR v rv ro (some (some (d, es))) = none) : rsF es = none ∧ catR (rowsE es) rv ro = none := by
  have h : catF es rv ro = none := h
  unfold catF at h
  split at h
  · cases h
  · rename_i e
    exact ⟨e, h⟩
theorem lkM (d : Addr) (rv : V) (l p : Addr) : (fsC d rv l p).lookup ("names" : Str) = none := by simp [fsC, List.lookup, sb "names" "_spans", sb "names" "_rest", sb "names" "_names", sb "names" "_stretches"]
theorem tabS_dk {H H' : Hp} {P : Addr} {q : Str} {xs : List Addr} (h : LamX.TabS H P q) (s : SX xs H H') (n : ∀ x ∈ xs, ∀ o, H x = some o → ∃ l, o = .dK l) : LamX.TabS H' P q := by
  obtain ⟨ps, h1, h2, h3⟩ := h
  refine ⟨ps, s _ _ (fun z => ?_) h1, h2, fun pos cv hc => ?_⟩
  · obtain ⟨l, e⟩ := n _ z _ h1
    cases e
  · obtain ⟨c, e1, e2⟩ := h3 pos cv hc
    refine ⟨c, e1, s _ _ (fun z => ?_) e2⟩
    obtain ⟨l, e⟩ := n _ z _ e2
    unfold LamX.CodeO at e
    cases e
theorem spX_dk {K : PySem.W.Frag} {H : Hp} {v : V} {o : Option (Addr × List Ent)} (h : SpIn K H v o) : ∀ x ∈ spX o, ∀ u, H x = some u → ∃ l, u = .dK l := by
  cases h with
  | no a b => exact fun x hx => (List.not_mem_nil hx).elim
  | dict a b c d =>
    intro x hx u e
    rw [List.mem_singleton.mp hx, a] at e
    cases e
    exact ⟨_, rfl⟩
theorem nmsC_len (rs : List Row) (rt : Option Str) : (nmsC rs rt).length = rs.length + rt.toList.length := by
  unfold nmsC
  rw [srt_len, List.length_append, List.length_map]
theorem SpIn.mono {K : PySem.W.Frag} {H H' : Hp} {v : V} {o : Option (Addr × List Ent)} (s : Same H H') (h : SpIn K H v o) : SpIn K H' v o := by
  cases h with
  | no a b => exact .no (a.mono s) b
  | dict a b c d => exact .dict (s _ _ a) (b.mono s) c d
/-! ### rows drawn: (where the row stands, its name, where its span stands, the span) -/
abbrev MRow := Addr × Str × Addr × Span
def Chain (ss : List Span) : Prop := ss.Pairwise fun s t => ∃ h l, s.2 = some h ∧ t.1 = some l ∧ h ≤ l
def rowAt (H : Hp) (r : MRow) : Prop := H r.1 = some (.lst [.str r.2.1, .ref r.2.2.1]) ∧ H r.2.2.1 = some (.tup (spV r.2.2.2))
/-- a model stands at q: its rows, the rest part or None, the names that are left -/
structure MdAt (H : Hp) (q : Addr) (rr : List MRow) (rt : Option Str) (left : List Str) : Prop where
  at_ : ∃ lr ll, H q = some (.lst [.ref lr, rvO rt, .ref ll]) ∧ H lr = some (.lst (rr.map fun r => V.ref r.1)) ∧ H ll = some (.lst (left.map V.str))
  rows : ∀ r ∈ rr, rowAt H r
  ok : ∀ r ∈ rr, okS r.2.2.2 = true
  chain : Chain (rr.map (·.2.2.2))
  nms : ∀ s ∈ rr.map (·.2.1) ++ (rt.toList ++ left), nameS s = true
  nd : (rr.map (·.2.1) ++ (rt.toList ++ left)).Nodup
theorem MdAt.mono {H H' : Hp} {q : Addr} {rr : List MRow} {rt : Option Str} {left : List Str} (s : Same H H') (h : MdAt H q rr rt left) : MdAt H' q rr rt left := by
  obtain ⟨⟨lr, ll, h1, h2, h3⟩, h4, h5, h6, h7, h8⟩ := h
  exact ⟨⟨lr, ll, s _ _ h1, s _ _ h2, s _ _ h3⟩, fun r hr => ⟨s _ _ (h4 r hr).1, s _ _ (h4 r hr).2⟩, h5, h6, h7, h8⟩
/-- a small limit -/
def smI : Option Int → Prop
  | none => True
  | some i => i.natAbs < 10 ^ 30
def SmL (ss : List Span) : Prop := ∀ s ∈ ss, okS s = true ∧ smI s.1 ∧ smI s.2
def LowB (ss : List Span) (z : Int) : Prop := ∀ s ∈ ss, ∃ a, s.1 = some a ∧ z ≤ a
theorem small_at {z g a : Int} {n : Nat} (hg : 0 < g) (hg2 : g ≤ 10 ^ 27) (h1 : 0 ≤ z) (h2 : z < 19) (hn : n ≤ 9) (h3 : (z - 9) * g ≤ a) (h4 : a ≤ (z - 9) * g + n * (14 * g)) : a.natAbs < 10 ^ 30 := by
  have e1 : (-9) * g ≤ (z - 9) * g := Int.mul_le_mul_of_nonneg_right (by omega) (Int.le_of_lt hg)
  have e2 : (z - 9) * g ≤ 9 * g := Int.mul_le_mul_of_nonneg_right (by omega) (Int.le_of_lt hg)
  have e3 : (n : Int) * (14 * g) ≤ 9 * (14 * g) := Int.mul_le_mul_of_nonneg_right (by omega) (by omega)
  generalize (z - 9) * g = x at *
  generalize (n : Int) * (14 * g) = y at *
  omega
def sp_lmodel : Sp := fun vs H Q _ => ∃ (H0 : Hp) (p : Addr) (n m : Nat), vs = [.ref p, .int m] ∧ BoxIn H0 H p n ∧ m ≤ 9 ∧ n + 100 < 1000000 ∧
  ∀ (H1 H' : Hp) (q : Addr) (rr : List MRow) (rt : Option Str) (left : List Str), Same H0 H1 → BoxIn H1 H' p (n + 100) → MdAt H1 q rr rt left → rr.length ≤ m → m + 3 = rr.length + left.length → SmL (rr.map (·.2.2.2)) ∧ (∀ s ∈ rr.map (·.2.1) ++ (rt.toList ++ left), s ≠ ("zzzz" : Str)) → Q (.ref q) H'
theorem sxB {H H' : Hp} {p : Addr} {n : Nat} (b : BoxIn (but H p) H' p n) : SX [p] H H' := fun c o nc e => b.same c o (by rw [but_ne (by simpa using nc)]; exact e)
/-- rows while they are made -/
structure MdIn (H0 H : Hp) (p q lr : Addr) (ss : List Str) (rr : List MRow) : Prop where
  qp : q ≠ p
  nm : H q = some (.lst (ss.map V.str))
  lp : lr ≠ p
  ql : q ≠ lr
  l0 : H0 lr = none
  lst : H lr = some (.lst (rr.map fun r => V.ref r.1))
  rows : ∀ r ∈ rr, rowAt H r ∧ r.1 ≠ p ∧ H0 r.1 = none ∧ r.1 ≠ lr ∧ r.2.2.1 ≠ p ∧ r.1 ≠ q
  nd : (rr.map (·.1)).Nodup
  eq : rr.map (·.2.1) = ss.take rr.length
theorem MdIn.sx {H0 H H' : Hp} {p q lr : Addr} {ss : List Str} {rr : List MRow} (s : SX [p] H H') (h : MdIn H0 H p q lr ss rr) : MdIn H0 H' p q lr ss rr := by
  have k : ∀ {b : Addr} {o : HO}, b ≠ p → H b = some o → H' b = some o := fun n e => s _ _ (by simpa using n) e
  exact ⟨h.qp, k h.qp h.nm, h.lp, h.ql, h.l0, k h.lp h.lst, fun r hr => by
    obtain ⟨⟨a1, a2⟩, a3, a4, a5, a6, a7⟩ := h.rows r hr
    exact ⟨⟨k a3 a1, k a6 a2⟩, a3, a4, a5, a6, a7⟩, h.nd, h.eq⟩
/-- spans one behind another, all limits there, up to at -/
def Line (sp : List Span) (z : Int) : Prop := Chain sp ∧ ∀ s ∈ sp, ∃ a b, s = (some a, some b) ∧ a < b ∧ b ≤ z
theorem Line.snoc {sp : List Span} {z a b : Int} (h : Line sp z) (h1 : z ≤ a) (h2 : a < b) : Line (sp ++ [(some a, some b)]) b := by
  refine ⟨List.pairwise_append.mpr ⟨h.1, List.pairwise_singleton _ _, fun s hs t ht => ?_⟩, fun s hs => ?_⟩
  · obtain ⟨c, d, rfl, _, e⟩ := h.2 s hs
    rw [List.mem_singleton.mp ht]
    exact ⟨d, a, rfl, rfl, by omega⟩
  · rcases List.mem_append.mp hs with hs | hs
    · obtain ⟨c, d, rfl, e1, e2⟩ := h.2 s hs
      exact ⟨c, d, rfl, e1, by omega⟩
    · rw [List.mem_singleton.mp hs]
      exact ⟨a, b, rfl, h2, Int.le_refl _⟩
theorem Line.ok {sp : List Span} {z : Int} (h : Line sp z) : ∀ s ∈ sp, okS s = true := fun s hs => by
  obtain ⟨a, b, rfl, e, _⟩ := h.2 s hs
  exact decide_eq_true e
theorem md_dp {K : PySem.W.Frag} {H : Hp} : ∀ {rr : List MRow}, (∀ r ∈ rr, rowAt H r) → DpAll K H (rr.map fun r => V.ref r.1) (rr.map fun r => PyData.list [.str r.2.1, spD r.2.2.2])
  | [], _ => .nil
  | r :: t, h => .cons (.lst (SqL.of (h r List.mem_cons_self).1) (.cons (.str _) (.cons (.tup (SqT.of (h r List.mem_cons_self).2) (dpAll_spV _)) .nil))) (md_dp fun x hx => h x (List.mem_cons_of_mem _ hx))
theorem md_sh {rr : List MRow} (h : ∀ r ∈ rr, nameS r.2.1 = true) : SeqAt.shaped (.list (rr.map fun r => PyData.list [.str r.2.1, spD r.2.2.2])) = true := shaped_list (n := 2) (by decide) fun d hd => by
  obtain ⟨r, hr, rfl⟩ := List.mem_map.mp hd
  have s2 := shaped_sp r.2.2.2
  obtain ⟨c1, c2⟩ := shaped_iff.mp s2
  constructor
  · simp only [PyData.canLay0]
    refine canAll_mem.mpr fun d hd => ?_
    simp only [List.mem_cons, List.not_mem_nil, or_false] at hd
    rcases hd with rfl | rfl
    · simp only [PyData.canLay0]
      exact nameC_ok (h r hr)
    · exact c1
  · have h1 : (spD r.2.2.2).depth ≤ 1 := by
      unfold spD
      have : PyData.depthAll [limD r.2.2.2.1, limD r.2.2.2.2] ≤ 0 := depthAll_le fun d hd => by
        simp only [List.mem_cons, List.not_mem_nil, or_false] at hd
        rcases hd with rfl | rfl
        · cases r.2.2.2.1 <;> simp [limD, PyData.depth]
        · cases r.2.2.2.2 <;> simp [limD, PyData.depth]
      simp only [PyData.depth]
      omega
    have : PyData.depthAll [.str r.2.1, spD r.2.2.2] ≤ 1 := depthAll_le fun d hd => by
      simp only [List.mem_cons, List.not_mem_nil, or_false] at hd
      rcases hd with rfl | rfl
      · simp [PyData.depth]
      · exact h1
    simp only [PyData.depth]
    omega
/-- a row gets another span -/
theorem MdIn.rep {H0 H : Hp} {p q lr t : Addr} {ss : List Str} {pre post : List MRow} {r : MRow} {s' : Span} (M : MdIn H0 H p q lr ss (pre ++ r :: post)) (ht : H t = none) (tp : t ≠ p) :
    MdIn H0 (upd (upd H t (.tup (spV s'))) r.1 (.lst [.str r.2.1, .ref t])) p q lr ss (pre ++ (r.1, r.2.1, t, s') :: post) := by
  have hr := M.rows r (List.mem_append_right _ List.mem_cons_self)
  obtain ⟨⟨a1, a2⟩, a3, a4, a5, a6, a7⟩ := hr
  have s1 := same_new (o := .tup (spV s')) ht
  have tr : t ≠ r.1 := (ne_of_none a1 ht).symm
  have up : ∀ {b : Addr} {o : HO}, b ≠ r.1 → H b = some o → (upd (upd H t (.tup (spV s'))) r.1 (.lst [.str r.2.1, .ref t])) b = some o := fun n e => by
    rw [upd_ne n]
    exact s1 _ _ e
  have nd := M.nd
  rw [List.map_append, List.map_cons] at nd
  have e1 : (pre ++ (r.1, r.2.1, t, s') :: post).map (fun x => V.ref x.1) = (pre ++ r :: post).map fun x => V.ref x.1 := by
    rw [List.map_append, List.map_append, List.map_cons, List.map_cons]
  have e2 : (pre ++ (r.1, r.2.1, t, s') :: post).map (·.1) = (pre ++ r :: post).map (·.1) := by
    rw [List.map_append, List.map_append, List.map_cons, List.map_cons]
  have e3 : (pre ++ (r.1, r.2.1, t, s') :: post).map (·.2.1) = (pre ++ r :: post).map (·.2.1) := by
    rw [List.map_append, List.map_append, List.map_cons, List.map_cons]
  have e4 : (pre ++ (r.1, r.2.1, t, s') :: post).length = (pre ++ r :: post).length := by
    rw [List.length_append, List.length_append, List.length_cons, List.length_cons]
  have oth : ∀ x, x ∈ pre ++ post → x.1 ≠ r.1 ∧ x ∈ pre ++ r :: post := fun x hx => by
    obtain ⟨n1, n2, n3⟩ := List.nodup_append.mp nd
    rcases List.mem_append.mp hx with hx | hx
    · exact ⟨n3 _ (List.mem_map.mpr ⟨x, hx, rfl⟩) _ List.mem_cons_self, List.mem_append_left _ hx⟩
    · exact ⟨fun z => (List.nodup_cons.mp n2).1 (by rw [← z]; exact List.mem_map.mpr ⟨x, hx, rfl⟩), List.mem_append_right _ (List.mem_cons_of_mem _ hx)⟩
  refine ⟨M.qp, up (fun z => a7 z.symm) M.nm, M.lp, M.ql, M.l0, by rw [e1]; exact up (fun z => a5 z.symm) M.lst, fun x hx => ?_, by rw [e2]; exact M.nd, by rw [e3, e4]; exact M.eq⟩
  by_cases h : x = (r.1, r.2.1, t, s')
  · rw [h]
    exact ⟨⟨upd_same, by rw [upd_ne tr, upd_same]⟩, a3, a4, a5, tp, a7⟩
  · have hx : x ∈ pre ++ post := by
      rcases List.mem_append.mp hx with hx | hx
      · exact List.mem_append_left _ hx
      · rcases List.mem_cons.mp hx with hx | hx
        · exact absurd hx h
        · exact List.mem_append_right _ hx
    obtain ⟨n1, n2⟩ := oth x hx
    obtain ⟨⟨b1, b2⟩, b3, b4, b5, b6, b7⟩ := M.rows x n2
    exact ⟨⟨up n1 b1, up (ne_of b2 a1 (by intro z; cases z)) b2⟩, b3, b4, b5, b6, b7⟩
theorem chain_head {s t : Span} {r : List Span} (h : Chain (s :: r)) (e : t.2 = s.2) : Chain (t :: r) := by
  obtain ⟨h1, h2⟩ := List.pairwise_cons.mp h
  exact List.pairwise_cons.mpr ⟨fun x hx => by rw [e]; exact h1 x hx, h2⟩
theorem chain_last {s t : Span} {r : List Span} (h : Chain (r ++ [s])) (e : t.1 = s.1) : Chain (r ++ [t]) := by
  obtain ⟨h1, h2, h3⟩ := List.pairwise_append.mp h
  refine List.pairwise_append.mpr ⟨h1, List.pairwise_singleton _ _, fun a ha b hb => ?_⟩
  rw [List.mem_singleton.mp hb, e]
  exact h3 a ha s List.mem_cons_self
theorem md_names {H0 H : Hp} {p q lr : Addr} {ss : List Str} {rr : List MRow} (M : MdIn H0 H p q lr ss rr) (h : ∀ s ∈ ss, nameS s = true) : ∀ r ∈ rr, nameS r.2.1 = true := fun r hr => by
  have : r.2.1 ∈ rr.map (·.2.1) := List.mem_map.mpr ⟨r, hr, rfl⟩
  rw [M.eq] at this
  exact h _ (List.mem_of_mem_take this)
/-! ### pairs, bent -/
abbrev PRow := Addr × Ent
structure PairsAt (K : PySem.W.Frag) (H : Hp) (q : Addr) (ps : List PRow) : Prop where
  lst : H q = some (.lst (ps.map fun r => V.ref r.1))
  rows : ∀ r ∈ ps, H r.1 = some (.tup [kV r.2.1, r.2.2.1])
  ev : EV K H (ps.map (·.2))
def sp_lbent (K : PySem.W.Frag) : Sp := fun vs H Q _ => ∃ (H0 : Hp) (p : Addr) (n : Nat) (q : Addr) (ps : List PRow) (sp : Str), vs = [.ref p, .ref q, .str sp] ∧ BoxIn H0 H p n ∧ PairsAt K H0 q ps ∧ ps.length ≤ 50 ∧ nameS sp = true ∧ n + 8 < 1000000 ∧
  ∀ (H1 H' : Hp) (q' : Addr) (ps' : List PRow), Same H0 H1 → BoxIn H1 H' p (n + 8) → PairsAt K H1 q' ps' → ps'.length ≤ ps.length + 3 → Q (.ref q') H'
theorem but_leC (H : Hp) (x : Addr) : Same (but H x) H := fun b u e => by
  by_cases z : b = x
  · rw [z, but_same] at e
    cases e
  · rw [but_ne z] at e
    exact e
/-- pairs while they are bent -/
def rowIn (K : PySem.W.Frag) (H : Hp) (p l : Addr) (r : PRow) : Prop := r.1 ≠ p ∧ r.1 ≠ l ∧ H r.1 = some (.tup [kV r.2.1, r.2.2.1]) ∧ VD K (but (but H p) l) r.2.2.1 (some r.2.2.2) ∧ keyOk r.2.1
structure BIn (K : PySem.W.Frag) (H0 H : Hp) (p l : Addr) (ps : List PRow) : Prop where
  lp : l ≠ p
  l0 : H0 l = none
  lst : H l = some (.lst (ps.map fun r => V.ref r.1))
  rows : ∀ r ∈ ps, rowIn K H p l r
theorem but2_sx {H H' : Hp} {p l : Addr} (s : SX [p, l] H H') : Same (but (but H p) l) (but (but H' p) l) := fun b o e => by
  by_cases h1 : b = l
  · rw [h1, but_same] at e
    cases e
  · rw [but_ne h1] at e ⊢
    by_cases h2 : b = p
    · rw [h2, but_same] at e
      cases e
    · rw [but_ne h2] at e ⊢
      exact s _ _ (by simp [h1, h2]) e
theorem rowIn.sx {K : PySem.W.Frag} {H H' : Hp} {p l : Addr} {r : PRow} (s : SX [p, l] H H') (h : rowIn K H p l r) : rowIn K H' p l r := by
  obtain ⟨h1, h2, h3, h4, h5⟩ := h
  exact ⟨h1, h2, s _ _ (by simp [h1, h2]) h3, h4.mono (but2_sx s), h5⟩
theorem BIn.sx {K : PySem.W.Frag} {H0 H H' : Hp} {p l : Addr} {ps : List PRow} (s : SX [p] H H') (M : BIn K H0 H p l ps) : BIn K H0 H' p l ps :=
  ⟨M.lp, M.l0, s _ _ (by simpa using M.lp) M.lst, fun r hr => (M.rows r hr).sx (s.mono (by simp))⟩
theorem BIn.put {K : PySem.W.Frag} {H0 H : Hp} {p l : Addr} {ps ps' : List PRow} (M : BIn K H0 H p l ps) (h : ∀ r ∈ ps', rowIn K H p l r) : BIn K H0 (upd H l (.lst (ps'.map fun r => V.ref r.1))) p l ps' :=
  ⟨M.lp, M.l0, upd_same, fun r hr => (h r hr).sx fun b o n e => by
    rw [upd_ne (fun z => n (by simp [z]))]
    exact e⟩
theorem BIn.at_ {K : PySem.W.Frag} {H0 H : Hp} {p l : Addr} {ps : List PRow} (M : BIn K H0 H p l ps) : PairsAt K (but H p) l ps := by
  refine ⟨by rw [but_ne M.lp]; exact M.lst, fun r hr => ?_, fun e he => ?_⟩
  · obtain ⟨h1, h2, h3, h4, h5⟩ := M.rows r hr
    rw [but_ne h1]
    exact h3
  · obtain ⟨r, hr, rfl⟩ := List.mem_map.mp he
    obtain ⟨h1, h2, h3, h4, h5⟩ := M.rows r hr
    exact ⟨h4.mono (but_leC _ _), h5⟩
theorem BoxIn.ne {H0 H : Hp} {p a : Addr} {n : Nat} (b : BoxIn H0 H p n) (h : H a = none) : a ≠ p := by
  obtain ⟨_, _, _, hp, _⟩ := b.box
  exact (ne_of_none hp h).symm
/-- a new row: its tuple at t holds the key and a value that stands somewhere else -/
theorem rowIn.new {K : PySem.W.Frag} {H : Hp} {p l t : Addr} {k : Key} {v : V} {d : PyData} (tp : t ≠ p) (tl : t ≠ l) (ht : H t = none) (hv : VD K (but (but H p) l) v (some d)) (hk : keyOk k) : rowIn K (upd H t (.tup [kV k, v])) p l (t, k, v, d) :=
  ⟨tp, tl, upd_same, hv.mono (but2_sx (.of (same_new ht))), hk⟩
theorem but2_at {H : Hp} {p l a : Addr} {o : HO} (h1 : a ≠ p) (h2 : a ≠ l) (h : H a = some o) : but (but H p) l a = some o := by
  rw [but_ne h2, but_ne h1]
  exact h
theorem BIn.ne {K : PySem.W.Frag} {H0 H : Hp} {p l t : Addr} {ps : List PRow} (M : BIn K H0 H p l ps) (ht : H t = none) : t ≠ l := (ne_of_none M.lst ht).symm
def goodI (ps : List PRow) (i : Nat) : Bool := match ps[i]? with
  | some r => spanO (some r.2.2.2)
  | none => false
theorem ixN_c {n i : Nat} (h : i < n) : ixN n (i : Int) = some i := by
  unfold ixN
  rw [if_pos (by omega), if_pos (by omega)]
  rfl
/-- (limit or 0) is an int -/
theorem or_lim {K : PySem.W.Frag} {i : Nat} {o : Option Int} {σ : List (Option V)} {H : Hp} {Q : VK} (h : σ[i]? = some (some (limV o))) (k : ∀ j : Int, Q (.int j) H) : tOrT K (tVar i) (tC (.int 0)) σ H Q := by
  refine ⟨limV o, h, ?_⟩
  cases o with
  | none => exact ⟨false, rfl, iteF (k 0)⟩
  | some j =>
    refine ⟨j != 0, rfl, ?_⟩
    by_cases e : (j != 0) = true
    · rw [e]
      exact iteT (k j)
    · rw [Bool.not_eq_true] at e
      rw [e]
      exact iteF (k 0)
theorem BIn.app {K : PySem.W.Frag} {H0 H : Hp} {p l : Addr} {ps : List PRow} {r : PRow} {i : Nat} (M : BIn K H0 H p l ps) (h : rowIn K H p l r) : BIn K H0 (upd H l (.lst ((ps.map fun r => V.ref r.1).take i ++ [V.ref r.1] ++ (ps.map fun r => V.ref r.1).drop i))) p l (ps.take i ++ [r] ++ ps.drop i) := by
  have := M.put (ps' := ps.take i ++ [r] ++ ps.drop i) fun x hx => by
    rcases List.mem_append.mp hx with hx | hx
    · rcases List.mem_append.mp hx with hx | hx
      · exact M.rows x (List.mem_of_mem_take hx)
      · rw [List.mem_singleton.mp hx]
        exact h
    · exact M.rows x (List.mem_of_mem_drop hx)
  rw [List.map_append, List.map_append, List.map_take, List.map_drop] at this
  exact this
theorem len_ins {α : Type} (ps : List α) (r : α) (i : Nat) : (ps.take i ++ [r] ++ ps.drop i).length = ps.length + 1 := by
  rw [List.append_assoc, List.length_append, List.length_append, List.length_take, List.length_drop, List.length_singleton]
  omega
theorem rowIn.sv {K : PySem.W.Frag} {H : Hp} {p l t : Addr} {k : Key} {v : V} {d : PyData} (tp : t ≠ p) (tl : t ≠ l) (ht : H t = none) (hv : VD K (but (but H p) l) v (some d)) (hk : keyOk k) : rowIn K (upd H t (.tup [kV k, v])) p l (t, k, v, d) := rowIn.new tp tl ht hv hk
def sp_lawT (K : PySem.W.Frag) (P : Addr) : Sp := fun vs H Q _ => ∃ (a : Addr) (ns : List Int), vs = [.ref a] ∧ SqL K H a (ns.map V.int) ∧ ns.length ≤ 63 ∧ LamX.TabS H P lamQ ∧ ∀ H', Q (.bl true) H'
def rTupOfN (K : PySem.W.Frag) : List V → Hp → VK → Prop := fun xs H Q => ∃ p ys, xs = [V.ref p] ∧ ((SqL K H p ys ∧ ∀ (l : Addr), H l = none → Q (V.ref l) (upd H l (HO.tup ys))) ∨ SqT K H p ys ∧ Q (V.ref p) H)
/-! ### the entries of dict(pairs) -/
def putE (es : List Ent) (e : Ent) : List Ent := if (es.any fun x => decide (x.1 = e.1)) = true then es.map (fun x => if x.1 = e.1 then (x.1, e.2) else x) else es ++ [e]
theorem putE_kv (es : List Ent) (e : Ent) : (putE es e).map kvE = putK (es.map kvE) e.1 e.2.1 := by
  unfold putE putK
  have ha : ((es.map kvE).any fun kv => decide (kv.1 = e.1)) = es.any fun x => decide (x.1 = e.1) := by
    rw [List.any_map]
    rfl
  rw [ha]
  split
  · rw [List.map_map, List.map_map]
    refine List.map_congr_left fun x _ => ?_
    show kvE (if x.1 = e.1 then (x.1, e.2) else x) = if x.1 = e.1 then (x.1, e.2.1) else kvE x
    split <;> rfl
  · rw [List.map_append]
    rfl
theorem putE_mem {es : List Ent} {e x : Ent} (h : x ∈ putE es e) : x ∈ es ∨ (x.2 = e.2 ∧ (x.1 = e.1)) := by
  unfold putE at h
  split at h
  · obtain ⟨y, hy, rfl⟩ := List.mem_map.mp h
    by_cases q : y.1 = e.1
    · rw [if_pos q]
      exact .inr ⟨rfl, q⟩
    · rw [if_neg q]
      exact .inl hy
  · rcases List.mem_append.mp h with h | h
    · exact .inl h
    · rw [List.mem_singleton.mp h]
      exact .inr ⟨rfl, rfl⟩
theorem putE_len (es : List Ent) (e : Ent) : (putE es e).length ≤ es.length + 1 := by
  unfold putE
  split
  · rw [List.length_map]
    exact Nat.le_succ _
  · rw [List.length_append]
    exact Nat.le_refl _
theorem putE_nod {es : List Ent} {e : Ent} (h : nodK es) : nodK (putE es e) := by
  unfold putE nodK
  split
  · have : (es.map fun x => if x.1 = e.1 then (x.1, e.2) else x).map (·.1) = es.map (·.1) := by
      rw [List.map_map]
      refine List.map_congr_left fun x _ => ?_
      show (if x.1 = e.1 then (x.1, e.2) else x).1 = x.1
      split <;> rfl
    rw [this]
    exact h
  · rename_i n
    rw [List.map_append]
    refine List.nodup_append.mpr ⟨h, List.nodup_cons.mpr ⟨List.not_mem_nil, List.nodup_nil⟩, fun a ha b hb => ?_⟩
    have hb : b = e.1 := List.mem_singleton.mp hb
    obtain ⟨x, hx, rfl⟩ := List.mem_map.mp ha
    intro z
    exact n (List.any_eq_true.mpr ⟨x, hx, decide_eq_true (z.trans hb)⟩)
theorem merge_ents : ∀ (ls es : List Ent), nodK es → ∃ es', mergeK (es.map kvE) (ls.map kvE) = es'.map kvE ∧ nodK es' ∧ es'.length ≤ es.length + ls.length ∧ ∀ x ∈ es', x ∈ es ∨ ∃ y ∈ ls, x.2 = y.2 ∧ x.1 = y.1
  | [], es, h => ⟨es, rfl, h, Nat.le_refl _, fun x hx => .inl hx⟩
  | e :: ls, es, h => by
    obtain ⟨es', h1, h2, h3, h4⟩ := merge_ents ls (putE es e) (putE_nod h)
    refine ⟨es', ?_, h2, ?_, fun x hx => ?_⟩
    · rw [← h1, putE_kv]
      rfl
    · have := putE_len es e
      rw [List.length_cons]
      omega
    · rcases h4 x hx with z | ⟨y, hy, z⟩
      · rcases putE_mem z with z | z
        · exact .inl z
        · exact .inr ⟨e, List.mem_cons_self, z⟩
      · exact .inr ⟨y, List.mem_cons_of_mem _ hy, z⟩
theorem merge_all {K : PySem.W.Frag} {H : Hp} (ls : List Ent) (h : EV K H ls) : ∃ es, mergeK [] (ls.map kvE) = es.map kvE ∧ nodK es ∧ es.length ≤ ls.length ∧ EV K H es := by
  obtain ⟨es, h1, h2, h3, h4⟩ := merge_ents ls [] List.nodup_nil
  refine ⟨es, h1, h2, by simpa using h3, fun x hx => ?_⟩
  rcases h4 x hx with z | ⟨y, hy, e2, e1⟩
  · exact (List.not_mem_nil z).elim
  · rw [e2, e1]
    exact h y hy
theorem key_sure (k : Key) : sureV (kV k) = true := by
  cases k <;> rfl
theorem VD.sure {K : PySem.W.Frag} {H : Hp} {v : V} {o : Option PyData} (h : VD K H v o) : sureV v = true := by
  cases h with
  | dat a _ _ => cases a <;> rfl
  | dic _ => rfl
theorem restR_sure {ns : List Str} {rv : V} {ro : Option PyData} {n : Nat} {w : V} (hv : sureV rv = true) (h : restR ns rv ro = some (n, w)) : sureV w = true := by
  unfold restR at h
  split at h
  · split at h
    · cases h
      rfl
    · cases h
  · split at h
    · cases h
      exact hv
    · split at h
      · cases h
        exact hv
      · split at h
        · cases h
          rfl
        · cases h
theorem catF_sure {K : PySem.W.Frag} {H : Hp} {es : List Ent} {rv : V} {ro : Option PyData} {n : Nat} {w : V} (he : EV K H es) (hv : sureV rv = true) (h : catF es rv ro = some (n, w)) : sureV w = true := by
  unfold catF at h
  split at h
  · rename_i q e
    cases h
    unfold rsF at e
    split at e
    · cases e
      exact key_sure _
    · split at e
      · cases e
        unfold valAt
        cases z : lookE es _ with
        | none => rfl
        | some x => exact (he _ (lookE_mem z).1).1.sure
      · cases e
  · unfold catR at h
    split at h
    · cases h
      rfl
    · exact restR_sure hv h
theorem catR_nil : catR [] .non (some .none) = none := by
  unfold catR
  have h : ovl [] = none := by
    unfold ovl sortR srtS
    rw [List.map_nil, List.mergeSort_nil]
    rfl
  rw [h]
  rfl
theorem catF_nil : catF [] .non (some .none) = none := by
  rw [catF_go rsF_nil]
  exact catR_nil
theorem nmsC_nil : nmsC [] none = [] := by
  unfold nmsC srtS
  exact List.mergeSort_nil
theorem ceq_nil : ceqB [] [] none none = true := by
  unfold ceqB sortD sortR srtS
  rw [List.map_nil, List.mergeSort_nil]
  rfl
theorem rows_from {α : Type} {f : α → V} {W : List α} : ∀ {xs : List V}, (∀ y ∈ xs, ∃ r, r ∈ W ∧ y = f r) → ∃ rs : List α, xs = rs.map f ∧ ∀ r ∈ rs, r ∈ W
  | [], _ => ⟨[], rfl, fun s h => (List.not_mem_nil h).elim⟩
  | x :: r, h => by
    obtain ⟨s, hs, rfl⟩ := h x List.mem_cons_self
    obtain ⟨rs, h1, h2⟩ := rows_from (xs := r) fun y hy => h y (List.mem_cons_of_mem _ hy)
    refine ⟨s :: rs, by rw [h1]; rfl, fun z hz => ?_⟩
    rcases List.mem_cons.mp hz with rfl | hz
    · exact hs
    · exact h2 z hz
theorem EX.seq {H H' : Hp} {d : Addr} {kvs : List (Key × V)} (s : EX [d] H H') (hd : H d = some (.dK kvs)) : ND H H' := s.nd fun x hx o e => by
  rw [List.mem_singleton.mp hx, hd] at e
  cases e
  rfl
/-- the drawing box by itself -/
theorem BoxAt.in_ {H : Hp} {p : Addr} {n : Nat} (b : BoxAt H p n) : BoxIn (but H p) H p n := ⟨but_leC _ _, but_same, b⟩
theorem BoxAt.nd {H H' : Hp} {p : Addr} {n : Nat} (s : ND H H') (b : BoxAt H p n) : BoxAt H' p n := by
  obtain ⟨d, s', c, h1, h⟩ := b
  exact ⟨d, s', c, s _ _ h1 rfl, h⟩
theorem CatNew.ex {K : PySem.W.Frag} {C : Addr} {H0 H H' : Hp} {x y : Addr} {rs : List Row} {rt : Option Str} (hy : H y = none) (s : EX [y] H H') (h : CatNew K C H0 H x rs rt) : CatAt K C H' x rs rt := by
  obtain ⟨dx, d, l, p, xs, h1, h2, h3, h4, h5, _⟩ := h
  have k : ∀ {b : Addr} {o : HO}, H b = some o → (∀ ps, o ≠ .tbl ps) → H' b = some o := fun e t => s _ _ (by simpa using ne_of_none e hy) e t
  have nd : ND H H' := fun b o e z => k e fun ps w => by
    rw [w] at z
    cases z
  refine ⟨dx, d, l, p, xs, k h1 (fun ps z => by cases z), k h2 (fun ps z => by cases z), k h3 (fun ps z => by cases z), h4.nd nd, h5.nd nd⟩
theorem PairsAt.mono {K : PySem.W.Frag} {H H' : Hp} {q : Addr} {ps : List PRow} (s : Same H H') (h : PairsAt K H q ps) : PairsAt K H' q ps := ⟨s _ _ h.lst, fun r hr => s _ _ (h.rows r hr), h.ev.mono s⟩
theorem pairs_paired {K : PySem.W.Frag} {H : Hp} : ∀ {ps : List PRow}, (∀ r ∈ ps, H r.1 = some (.tup [kV r.2.1, r.2.2.1])) → PySem.Paired (fun (p : Addr) (kv : Key × V) => SqT K H p [kV kv.1, kv.2]) (ps.map (·.1)) ((ps.map (·.2)).map kvE)
  | [], _ => .nil
  | r :: t, h => .cons (SqT.of (h r List.mem_cons_self)) (pairs_paired fun x hx => h x (List.mem_cons_of_mem _ hx))
theorem vd_rt {K : PySem.W.Frag} {H : Hp} {rt : Option Str} (h : ∀ s, rt = some s → nameS s = true) : ∃ rd, VD K H (rvO rt) (some rd) := by
  cases rt with
  | none => exact ⟨_, .dat .non (by decide) fun s e => by cases e⟩
  | some s => exact ⟨_, vd_key (k := .inr s) ⟨by have := nameC_len (h s rfl); omega, nameC_ok (h s rfl)⟩⟩
/-- what is told of a catalog's making stands at p -/
def TDAt (H : Hp) (r : Option (Nat × V)) (ns : List Str) (p : Addr) : Prop := match r with
  | some (n, w) => H p = some (.lst [.str (wC n), w])
  | none => ∃ l, H p = some (.lst [.str "made", .ref l]) ∧ H l = some (.lst (ns.map V.str))
theorem TDAt.nd {H H' : Hp} {r : Option (Nat × V)} {ns : List Str} {p : Addr} (s : ND H H') (h : TDAt H r ns p) : TDAt H' r ns p := by
  unfold TDAt at h ⊢
  split at h
  · exact s _ _ h rfl
  · obtain ⟨l, h1, h2⟩ := h
    exact ⟨l, s _ _ h1 rfl, s _ _ h2 rfl⟩
theorem due_both {H : Hp} {es : List Ent} {rv : V} {ro : Option PyData} {Pr : Hp → Addr → Prop} (k : ∀ H' p, Same H H' → TDAt H' (catF es rv ro) (srtS (nmsE es ++ (rtO ro).toList)) p → Pr H' p) :
    (∀ n w, catF es rv ro = some (n, w) → ∀ H' p, Same H H' → H p = none → H' p = some (.lst [.str (wC n), w]) → Pr H' p) ∧
    (catF es rv ro = none → ∀ H' p l, Same H H' → H p = none → H' p = some (.lst [.str "made", .ref l]) → H' l = some (.lst ((srtS (nmsE es ++ (rtO ro).toList)).map V.str)) → Pr H' p) :=
  ⟨fun n w e H' p s _ hp => k H' p s (by rw [e]; exact hp), fun e H' p l s _ hp hl => k H' p s (by rw [e]; exact ⟨l, hp, hl⟩)⟩
theorem told_both {P : Addr} {H : Hp} {v rv : V} {ro : Option PyData} {o : Option (Addr × List Ent)} {Pr : Hp → Addr → Prop} (k : ∀ H' p, EX (spX o) H H' → LamX.TabS H' P lamQ → TDAt H' (caR v rv ro (some o)) (nmsC (caRows (some o)) (rtO ro)) p → Pr H' p) :
    (∀ n w, caR v rv ro (some o) = some (n, w) → ∀ H' p, EX (spX o) H H' → LamX.TabS H' P lamQ → H' p = some (.lst [.str (wC n), w]) → Pr H' p) ∧
    (caR v rv ro (some o) = none → ∀ H' p l, EX (spX o) H H' → LamX.TabS H' P lamQ → H' p = some (.lst [.str "made", .ref l]) → H' l = some (.lst ((nmsC (caRows (some o)) (rtO ro)).map V.str)) → Pr H' p) :=
  ⟨fun n w e H' p s t hp => k H' p s t (by rw [e]; exact hp), fun e H' p l s t hp hl => k H' p s t (by rw [e]; exact ⟨l, hp, hl⟩)⟩
theorem td_same {K : PySem.W.Frag} {H H0 : Hp} {es : List Ent} {rv : V} {rd : PyData} {p q : Addr} {Q : VK} (he : EV K H0 es) (nd : nodK es) (hv : VD K H0 rv (some rd))
    (h1 : TDAt H (catF es rv (some rd)) (srtS (nmsE es ++ (rtO (some rd)).toList)) p) (h2 : TDAt H (catF es rv (some rd)) (srtS (nmsE es ++ (rtO (some rd)).toList)) q) (k : Q (.bl false) H) : rNe2 K (.ref p) (.ref q) H Q := by
  unfold TDAt at h1 h2
  cases e : catF es rv (some rd) with
  | some r =>
    obtain ⟨n, w⟩ := r
    rw [e] at h1 h2
    refine .inl ⟨p, q, _, rfl, rfl, SqL.of h1, SqL.of h2, ?_, k⟩
    have := catF_sure he hv.sure e
    simp only [List.all_cons, List.all_nil, this, Bool.and_true]
    rfl
  | none =>
    rw [e] at h1 h2
    obtain ⟨l1, a1, a2⟩ := h1
    obtain ⟨l2, b1, b2⟩ := h2
    have hg := caR_good (d := p) (v := .non) e
    have hnm : ∀ s ∈ srtS (nmsE es ++ (rtO (some rd)).toList), nameS s = true := fun s hs => by
      rcases List.mem_append.mp (srt_mem.mp hs) with z | z
      · obtain ⟨x, hx, rfl⟩ := List.mem_map.mp z
        have g := rsF_good nd hg.1 x hx
        unfold goodE at g
        rw [Bool.and_eq_true] at g
        obtain ⟨k, v, d⟩ := x
        cases k with
        | inl i => cases g.1
        | inr s => exact g.1
      · have z : rtO (some rd) = some s := by
          cases e : rtO (some rd) with
          | none => rw [e] at z; cases z
          | some s' =>
            rw [e] at z
            rw [List.mem_singleton.mp z]
        exact ((catR_rest hv hg.2).2 s z).1
    have hsh := strsC_sh hnm
    have hsh2 : SeqAt.shaped (.list [.str "made", .list ((srtS (nmsE es ++ (rtO (some rd)).toList)).map PyData.str)]) = true := by
      obtain ⟨c1, c2⟩ := shaped_iff.mp hsh
      refine shaped_list (n := 1) (by decide) fun d hd => ?_
      simp only [List.mem_cons, List.not_mem_nil, or_false] at hd
      rcases hd with rfl | rfl
      · refine ⟨?_, by simp [PyData.depth]⟩
        simp only [PyData.canLay0]
        decide +kernel
      · refine ⟨c1, ?_⟩
        simp only [PyData.depth]
        have : PyData.depthAll ((srtS (nmsE es ++ (rtO (some rd)).toList)).map PyData.str) ≤ 0 := depthAll_le fun d hd => by
          obtain ⟨s, _, rfl⟩ := List.mem_map.mp hd
          simp [PyData.depth]
        omega
    refine .inr ⟨_, _, .lst (SqL.of a1) (.cons (.str _) (.cons (.lst (SqL.of a2) (dpAll_strs _)) .nil)), .lst (SqL.of b1) (.cons (.str _) (.cons (.lst (SqL.of b2) (dpAll_strs _)) .nil)), hsh2, hsh2, ?_⟩
    rw [SeqAt.eqv_refl _ (shaped_iff.mp hsh2).1]
    exact k
theorem nms_rowsE (es : List Ent) : (rowsE es).map (·.1) = nmsE es := by
  unfold rowsE nmsE
  rw [List.map_map]
  rfl
theorem EX.nil0 {H H' : Hp} (s : EX [] H H') : ND H H' := s.nd fun x hx => (List.not_mem_nil hx).elim
/-- odd values that are no dict -/
def oddV (K : PySem.W.Frag) (H : Hp) (v : V) : Prop := ∃ d, VD K H v (some d) ∧ isT "dict" (some d) = false ∧ decide (v = .non) = false ∧ SeqAt.shaped (.list [.str "spans", d]) = true
theorem oddV.mono {K : PySem.W.Frag} {H H' : Hp} {v : V} (s : Same H H') (h : oddV K H v) : oddV K H' v := by
  obtain ⟨d, h1, h2⟩ := h
  exact ⟨d, h1.mono s, h2⟩
theorem but_ofC {H H' : Hp} {p : Addr} (s : Same H H') : Same (but H p) (but H' p) := fun b o e => by
  by_cases z : b = p
  · rw [z, but_same] at e
    cases e
  · rw [but_ne z] at e ⊢
    exact s _ _ e
theorem nd_but {H H' : Hp} {p : Addr} (s : ND H H') : ND (but H p) (but H' p) := fun b o e q => by
  by_cases z : b = p
  · rw [z, but_same] at e
    cases e
  · rw [but_ne z] at e ⊢
    exact s _ _ e q
theorem BoxAt.tabS {H : Hp} {p P : Addr} {n : Nat} {q : Str} (b : BoxAt H p n) (h : LamX.TabS H P q) : LamX.TabS (but H p) P q := by
  obtain ⟨d, s, c, h1, _⟩ := b
  refine tabS_sx (xs := [p]) h (fun x o n e => by rw [but_ne (by simpa using n)]; exact e) fun x hx o e => ?_
  rw [List.mem_singleton.mp hx, h1] at e
  cases e
  exact ⟨_, rfl⟩
/-! ### the stretches, read off the rows in the order of their spans -/
def tlG (rv : V) : Option Int → List Row → List StR
  | none, [] => []
  | some e, [] => [(some e, none, rv)]
  | e, r :: t => (if (!decide (limV r.2.2.1 = limV e)) = true then [(e, r.2.2.1, rv)] else []) ++ ((r.2.2.1, r.2.2.2, V.str r.1) :: tlG rv r.2.2.2 t)
theorem tlG_cons (rv : V) (e : Option Int) (r : Row) (t : List Row) : tlG rv e (r :: t) = (if (!decide (limV r.2.2.1 = limV e)) = true then [(e, r.2.2.1, rv)] else []) ++ ((r.2.2.1, r.2.2.2, V.str r.1) :: tlG rv r.2.2.2 t) := by
  cases e <;> rfl
theorem tlG_eq (rv : V) : ∀ (l : List Row) (e : Option Int), tlG rv e l = strG rv e l ++ (if (!decide (limV (endG e l) = V.non)) = true then [(endG e l, none, rv)] else [])
  | [], none => rfl
  | [], some e => rfl
  | r :: t, e => by
    rw [tlG_cons, tlG_eq rv t]
    show _ = (_ ++ (_ :: strG rv r.2.2.2 t)) ++ _
    rw [List.append_assoc, List.cons_append]
    rfl
theorem strT_nil (rv : V) : strT rv [] = [(none, none, rv)] := rfl
theorem strT_cons (rv : V) (r : Row) (t : List Row) : strT rv (r :: t) = tlG rv none (r :: t) := by
  rw [tlG_eq]
  unfold strT
  have h : (strG rv none (r :: t)).isEmpty = false := by
    unfold strG
    split <;> rfl
  rw [h, if_neg (by decide)]
  split
  · rfl
  · rw [List.append_nil]
theorem limV_inj {a b : Option Int} (h : limV a = limV b) : a = b := by
  cases a <;> cases b <;> simp [limV] at h <;> simp [h]
/-- stretches one behind the other from lo to the end, pm at each key -/
inductive TileL (pm : Int → V) : Option Int → Option V → List StR → Prop
  | last {lo : Option Int} {pw : Option V} {w : V} : (∀ k, loB lo k = true → pm k = w) → pw ≠ some w → TileL pm lo pw [(lo, none, w)]
  | cons {lo : Option Int} {pw : Option V} {h : Int} {w : V} {rest : List StR} : (∀ l, lo = some l → l < h) → (∀ k, loB lo k = true → k < h → pm k = w) → pw ≠ some w → TileL pm (some h) (some w) rest → TileL pm lo pw ((lo, some h, w) :: rest)
theorem TileL.head {pm : Int → V} {lo : Option Int} {pw : Option V} {l : List StR} (h : TileL pm lo pw l) : ∃ st t, l = st :: t ∧ st.1 = lo ∧ pw ≠ some st.2.2 ∧ (∀ k, loB lo k = true → hiB st.2.1 k = true → pm k = st.2.2) := by
  cases h with
  | last a b => exact ⟨_, _, rfl, rfl, b, fun k h1 _ => a k h1⟩
  | cons a b c d => exact ⟨_, _, rfl, rfl, c, fun k h1 h2 => b k h1 (of_decide_eq_true h2)⟩
theorem TileL.end_ {pm : Int → V} {lo : Option Int} {pw : Option V} {l : List StR} (h : TileL pm lo pw l) : ∃ pre st, l = pre ++ [st] ∧ st.2.1 = none := by
  induction h with
  | last a b => exact ⟨[], _, rfl, rfl⟩
  | cons a b c d ih =>
    obtain ⟨pre, st, e, z⟩ := ih
    exact ⟨_ :: pre, st, by rw [e]; rfl, z⟩
/-- what the law asks of a stretch -/
structure StGood (pm : Int → V) (sts : List StR) (j : Nat) (st : StR) : Prop where
  ok : okS (st.1, st.2.1) = true
  key : ∀ k, inS (st.1, st.2.1) k = true → pm k = st.2.2
  prev : 0 < j → ∃ q h, sts[j - 1]? = some q ∧ st.1 = some h ∧ q.2.1 = some h ∧ q.2.2 ≠ st.2.2
theorem TileL.good {pm : Int → V} {lo : Option Int} {pw : Option V} {l : List StR} (h : TileL pm lo pw l) : ∀ j st, l[j]? = some st → StGood pm l j st := by
  induction h with
  | @last lo pw w a b =>
    intro j st e
    cases j with
    | zero =>
      cases e
      exact ⟨by cases lo <;> rfl, fun k hk => a k (Bool.and_eq_true_iff.mp hk).1, fun z => absurd z (Nat.lt_irrefl _)⟩
    | succ j => simp at e
  | @cons lo pw h w rest a b c d ih =>
    intro j st e
    cases j with
    | zero =>
      cases e
      refine ⟨?_, fun k hk => ?_, fun z => absurd z (Nat.lt_irrefl _)⟩
      · cases lo with
        | none => rfl
        | some l => exact decide_eq_true (a l rfl)
      · obtain ⟨h1, h2⟩ := Bool.and_eq_true_iff.mp hk
        exact b k h1 (of_decide_eq_true h2)
    | succ j =>
      have e : rest[j]? = some st := by simpa using e
      obtain ⟨g1, g2, g3⟩ := ih j st e
      refine ⟨g1, g2, fun _ => ?_⟩
      cases j with
      | zero =>
        obtain ⟨st', t, e1, e2, e3, _⟩ := d.head
        rw [e1] at e
        cases e
        exact ⟨(lo, some h, w), h, rfl, e2, rfl, fun z => e3 (by rw [← z])⟩
      | succ i =>
        obtain ⟨q, h', e1, e2⟩ := g3 (Nat.succ_pos _)
        exact ⟨q, h', by simpa using e1, e2⟩
/-- the first stretch that ends behind k holds what stands at k -/
theorem TileL.find {pm : Int → V} {lo : Option Int} {pw : Option V} {l : List StR} (h : TileL pm lo pw l) : ∀ k, loB lo k = true → ∃ st, l.find? (fun st => hiB st.2.1 k) = some st ∧ st.2.2 = pm k := by
  induction h with
  | last a b => exact fun k hk => ⟨_, rfl, (a k hk).symm⟩
  | @cons lo pw h w rest a b c d ih =>
    intro k hk
    rw [List.find?_cons]
    cases e : hiB (some h) k with
    | true => exact ⟨_, rfl, (b k hk (of_decide_eq_true e)).symm⟩
    | false =>
      refine ih k (decide_eq_true ?_)
      have := of_decide_eq_false e
      omega
/-- where one stretch ends and the next begins -/
def bdsL (l : List StR) : List Int := l.filterMap fun st => st.2.1
theorem TileL.len {pm : Int → V} {lo : Option Int} {pw : Option V} {l : List StR} (h : TileL pm lo pw l) : l.length = 1 + (bdsL l).length ∧ ∀ b ∈ bdsL l, pm (b - 1) ≠ pm b := by
  induction h with
  | last a b => exact ⟨rfl, fun b hb => (List.not_mem_nil hb).elim⟩
  | @cons lo pw h w rest a b c d ih =>
    have e : bdsL ((lo, some h, w) :: rest) = h :: bdsL rest := rfl
    refine ⟨by rw [e, List.length_cons, List.length_cons, ih.1]; omega, fun z hz => ?_⟩
    rw [e] at hz
    rcases List.mem_cons.mp hz with rfl | hz
    · obtain ⟨st, t, e1, e2, e3, e4⟩ := d.head
      have h1 : pm (z - 1) = w := b (z - 1) (by
        cases lo with
        | none => rfl
        | some l =>
          have := a l rfl
          exact decide_eq_true (by omega)) (by omega)
      have h2 : pm z = st.2.2 := by
        refine e4 z (decide_eq_true (Int.le_refl _)) ?_
        have g := (d.good 0 st (by rw [e1]; rfl)).ok
        rw [e2] at g
        cases q : st.2.1 with
        | none => rfl
        | some u =>
          rw [q] at g
          exact g
      rw [h1, h2]
      intro q
      exact e3 (by rw [q])
    · exact ih.2 z hz
/-- what stands at a key by the rows -/
def partR (rs : List Row) (rv : V) (k : Int) : V := match rs.find? fun r => inS r.2.2 k with
  | some r => .str r.1
  | none => rv
theorem partR_none {rs : List Row} {rv : V} {k : Int} (h : ∀ r ∈ rs, inS r.2.2 k = false) : partR rs rv k = rv := by
  unfold partR
  rw [List.find?_eq_none.mpr fun r hr => by rw [h r hr]; exact Bool.false_ne_true]
theorem partR_at {pre t : List Row} {r : Row} {rv : V} {k : Int} (h : ∀ r ∈ pre, inS r.2.2 k = false) (hr : inS r.2.2 k = true) : partR (pre ++ r :: t) rv k = .str r.1 := by
  unfold partR
  rw [List.find?_append, List.find?_eq_none.mpr fun r hr => by rw [h r hr]; exact Bool.false_ne_true, Option.none_or, List.find?_cons, hr]
def chainR (rs : List Row) : Prop := Chain (rs.map (·.2.2))
theorem chainR_cons {r : Row} {t : List Row} (h : chainR (r :: t)) : (∀ x ∈ t, ∃ a b, r.2.2.2 = some a ∧ x.2.2.1 = some b ∧ a ≤ b) ∧ chainR t := by
  obtain ⟨h1, h2⟩ := List.pairwise_cons.mp (show List.Pairwise _ (r.2.2 :: t.map (·.2.2)) from h)
  exact ⟨fun x hx => h1 x.2.2 (List.mem_map.mpr ⟨x, hx, rfl⟩), h2⟩
theorem inS_hi {s : Span} {h k : Int} (e : s.2 = some h) (g : h ≤ k) : inS s k = false := by
  unfold inS hiB
  rw [e]
  have : decide (k < h) = false := decide_eq_false (by omega)
  show (loB s.1 k && decide (k < h)) = false
  rw [this, Bool.and_false]
theorem inS_lo {s : Span} {l k : Int} (e : s.1 = some l) (g : k < l) : inS s k = false := by
  unfold inS loB
  rw [e]
  have : decide (l ≤ k) = false := decide_eq_false (by omega)
  show (decide (l ≤ k) && hiB s.2 k) = false
  rw [this, Bool.false_and]
/-- behind the rows pre, that all end at e at the latest -/
theorem tile_tl {rows : List Row} {rv : V} (hrv : ∀ r ∈ rows, rv ≠ V.str r.1) (hnd : (rows.map (·.1)).Nodup) (hok : ∀ r ∈ rows, okS r.2.2 = true) : ∀ (suf pre : List Row) (e : Option Int) (pw : Option V), rows = pre ++ suf → chainR suf → (e = none → pre = []) → (∀ e0, e = some e0 → ∀ r ∈ pre, ∃ h, r.2.2.2 = some h ∧ h ≤ e0) → (∀ e0, e = some e0 → ∀ r ∈ suf, ∃ l, r.2.2.1 = some l ∧ e0 ≤ l) → pw ≠ some rv → (∀ r ∈ suf, pw ≠ some (V.str r.1)) → (e = none → suf ≠ []) → TileL (partR rows rv) e pw (tlG rv e suf)
  | [], pre, e, pw, hr, _, _, h2, _, hp, _, hne => by
    cases e with
    | none => exact absurd rfl (hne rfl)
    | some e0 =>
      refine .last (fun k hk => partR_none fun r hr' => ?_) hp
      rw [hr, List.append_nil] at hr'
      obtain ⟨h, e1, e2⟩ := h2 e0 rfl r hr'
      have hk : e0 ≤ k := of_decide_eq_true hk
      exact inS_hi e1 (by omega)
  | r :: t, pre, e, pw, hr, hc, h1, h2, h3, hp, hq, _ => by
    rw [tlG_cons]
    obtain ⟨hc1, hc2⟩ := chainR_cons hc
    have hmem : r ∈ rows := by rw [hr]; exact List.mem_append_right _ List.mem_cons_self
    have okr := hok r hmem
    have preN : ∀ k, loB e k = true → ∀ x ∈ pre, inS x.2.2 k = false := fun k hk x hx => by
      cases e with
      | none => rw [h1 rfl] at hx; exact (List.not_mem_nil hx).elim
      | some e0 =>
        obtain ⟨h, e1, e2⟩ := h2 e0 rfl x hx
        have hk : e0 ≤ k := of_decide_eq_true hk
        exact inS_hi e1 (by omega)
    have tN : ∀ x ∈ t, V.str r.1 ≠ V.str x.1 := fun x hx z => by
      rw [hr, List.map_append, List.map_cons] at hnd
      have := (List.nodup_cons.mp (List.nodup_append.mp hnd).2.1).1
      exact this (by rw [V.str.inj z]; exact List.mem_map.mpr ⟨x, hx, rfl⟩)
    -- the row itself
    have row : ∀ (e' : Option Int) (pw' : Option V), e' = r.2.2.1 → (∀ k, loB e' k = true → ∀ x ∈ pre, inS x.2.2 k = false) → pw' ≠ some (V.str r.1) → TileL (partR rows rv) e' pw' ((e', r.2.2.2, V.str r.1) :: tlG rv r.2.2.2 t) := fun e' pw' he' hpre hpw => by
      cases hh : r.2.2.2 with
      | none =>
        have ht : t = [] := by
          cases t with
          | nil => rfl
          | cons x t' =>
            obtain ⟨a, b, z, _⟩ := hc1 x List.mem_cons_self
            rw [hh] at z
            cases z
        rw [ht]
        refine .last (fun k hk => ?_) hpw
        rw [hr]
        refine partR_at (hpre k hk) ?_
        unfold inS
        rw [hh, ← he', hk]
        rfl
      | some h =>
        refine .cons (fun l hl => ?_) (fun k hk hk2 => ?_) hpw ?_
        · have okr := okr
          rw [he'] at hl
          unfold okS at okr
          cases q : r.2.2 with
          | mk a b =>
            rw [q] at hl hh okr
            cases hl
            cases hh
            exact of_decide_eq_true okr
        · rw [hr]
          refine partR_at (hpre k hk) ?_
          unfold inS
          rw [hh, ← he', hk]
          exact decide_eq_true hk2
        · refine tile_tl hrv hnd hok t (pre ++ [r]) (some h) (some (V.str r.1)) (by rw [hr, List.append_assoc]; rfl) hc2 (fun z => by cases z) (fun e0 z x hx => ?_) (fun e0 z x hx => ?_) (fun z => hrv r hmem (Option.some.inj z).symm) (fun x hx z => tN x hx (Option.some.inj z)) (fun z => by cases z)
          · cases z
            rcases List.mem_append.mp hx with hx | hx
            · -- rows ahead end ahead of this one's end
              cases he : e with
              | none => rw [h1 he] at hx; exact (List.not_mem_nil hx).elim
              | some e1 =>
                obtain ⟨h', q1, q2⟩ := h2 e1 he x hx
                obtain ⟨l, q3, q4⟩ := h3 e1 he r List.mem_cons_self
                refine ⟨h', q1, ?_⟩
                have okr := okr
                cases q : r.2.2 with
                | mk a b =>
                  rw [q] at q3 hh okr
                  cases q3
                  cases hh
                  have := of_decide_eq_true okr
                  omega
            · rw [List.mem_singleton.mp hx]
              exact ⟨h, hh, Int.le_refl _⟩
          · cases z
            obtain ⟨a, b, q1, q2, q3⟩ := hc1 x hx
            rw [hh] at q1
            cases q1
            exact ⟨b, q2, q3⟩
    by_cases hg : (!decide (limV r.2.2.1 = limV e)) = true
    · rw [if_pos hg]
      have hne : r.2.2.1 ≠ e := fun z => by
        rw [z, decide_eq_true rfl] at hg
        cases hg
      cases hl : r.2.2.1 with
      | none =>
        cases e with
        | none => exact absurd hl hne
        | some e0 =>
          obtain ⟨l, q, _⟩ := h3 e0 rfl r List.mem_cons_self
          rw [hl] at q
          cases q
      | some l =>
        refine .cons (fun l' hl' => ?_) (fun k hk hk2 => partR_none fun x hx => ?_) hp ?_
        · obtain ⟨l2, q1, q2⟩ := h3 l' hl' r List.mem_cons_self
          rw [hl] at q1
          cases q1
          have : l ≠ l' := fun z => hne (by rw [hl, hl', z])
          omega
        · rw [hr] at hx
          rcases List.mem_append.mp hx with hx | hx
          · exact preN k hk x hx
          · rcases List.mem_cons.mp hx with rfl | hx
            · exact inS_lo hl hk2
            · obtain ⟨a, b, q1, q2, q3⟩ := hc1 x hx
              refine inS_lo q2 ?_
              have okr := okr
              cases q : r.2.2 with
              | mk c d =>
                rw [q] at hl q1 okr
                cases hl
                cases q1
                have := of_decide_eq_true okr
                omega
        · have := row (some l) (some rv) hl.symm (fun k hk x hx => ?_) (fun z => hrv r hmem (Option.some.inj z))
          · exact this
          · refine preN k ?_ x hx
            cases he : e with
            | none => rfl
            | some e0 =>
              obtain ⟨l2, q1, q2⟩ := h3 e0 he r List.mem_cons_self
              rw [hl] at q1
              cases q1
              have hk : l ≤ k := of_decide_eq_true hk
              exact decide_eq_true (by omega)
    · rw [if_neg hg]
      have he : r.2.2.1 = e := by
        have : decide (limV r.2.2.1 = limV e) = true := by simpa using hg
        exact limV_inj (of_decide_eq_true this)
      have := row e pw he.symm preN (hq r List.mem_cons_self)
      rw [← he] at this ⊢
      exact this
theorem tile_strT {rows : List Row} {rv : V} (hrv : ∀ r ∈ rows, rv ≠ V.str r.1) (hnd : (rows.map (·.1)).Nodup) (hok : ∀ r ∈ rows, okS r.2.2 = true) (hc : chainR rows) : TileL (partR rows rv) none none (strT rv rows) := by
  cases rows with
  | nil => exact .last (fun k _ => rfl) (fun z => by cases z)
  | cons r t =>
    rw [strT_cons]
    exact tile_tl hrv hnd hok (r :: t) [] none none rfl hc (fun _ => rfl) (fun e0 z => by cases z) (fun e0 z => by cases z) (fun z => by cases z) (fun _ _ z => by cases z) (fun _ z => by cases z)
/-! ### the order of the low limits -/
def lxO : Option Int → Int
  | none => 0
  | some _ => 1
def lyO : Option Int → Int
  | none => 0
  | some i => i
theorem lowD_ii (s : Span) : lowD s = .tuple [.int (lxO s.1), .int (lyO s.1)] := by
  unfold lowD
  cases s.1 <;> rfl
theorem dataLe_low (f : Str → Span) : PySem.W.dataLe false (fun y => lowD (f y)) = fun p q => decide (lxO (f p).1 < lxO (f q).1 ∨ (lxO (f p).1 = lxO (f q).1 ∧ lyO (f p).1 ≤ lyO (f q).1)) := by
  have : (fun y => lowD (f y)) = fun y => PyData.tuple [.int (lxO (f y).1), .int (lyO (f y).1)] := funext fun y => lowD_ii _
  rw [this, PySem.W.dataLe_ii]
theorem chainR_lt : ∀ {rows : List Row}, chainR rows → (∀ r ∈ rows, okS r.2.2 = true) → rows.Pairwise fun a b => lxO a.2.2.1 < lxO b.2.2.1 ∨ (lxO a.2.2.1 = lxO b.2.2.1 ∧ lyO a.2.2.1 < lyO b.2.2.1)
  | [], _, _ => .nil
  | r :: t, hc, hok => by
    obtain ⟨h1, h2⟩ := chainR_cons hc
    refine List.pairwise_cons.mpr ⟨fun x hx => ?_, chainR_lt h2 fun y hy => hok y (List.mem_cons_of_mem _ hy)⟩
    obtain ⟨a, b, q1, q2, q3⟩ := h1 x hx
    have ok := hok r List.mem_cons_self
    rw [q2]
    cases q : r.2.2 with
    | mk c d =>
      rw [q] at q1 ok
      cases q1
      cases c with
      | none => exact .inl (by show (0 : Int) < 1; omega)
      | some c =>
        have := of_decide_eq_true ok
        exact .inr ⟨rfl, by show c < b; omega⟩
/-- sorted by their low limits, the rows stand in the order of their spans -/
theorem ordR_of {rs rows : List Row} (hp : rs.Perm rows) (hnd : (rows.map (·.1)).Nodup) (hc : chainR rows) (hok : ∀ r ∈ rows, okS r.2.2 = true) : ordR rs = rows := by
  have hnd2 : (rs.map (·.1)).Nodup := (hp.map _).nodup_iff.mpr hnd
  have hself : ∀ r ∈ rows, rowOf rs r.1 = r := fun r hr => rowOf_self hnd2 r (hp.mem_iff.mpr hr)
  have hpw := chainR_lt hc hok
  have key : lowsS rs = rows.map (·.1) := by
    unfold lowsS
    rw [dataLe_low fun y => (rowOf rs y).2.2]
    have e1 : ((rs.map (·.1)).mergeSort fun p q => decide (lxO (rowOf rs p).2.2.1 < lxO (rowOf rs q).2.2.1 ∨ (lxO (rowOf rs p).2.2.1 = lxO (rowOf rs q).2.2.1 ∧ lyO (rowOf rs p).2.2.1 ≤ lyO (rowOf rs q).2.2.1))).Perm (rows.map (·.1)) := (List.mergeSort_perm _ _).trans (hp.map _)
    refine List.Perm.eq_of_pairwise (le := fun p q => decide (lxO (rowOf rs p).2.2.1 < lxO (rowOf rs q).2.2.1 ∨ (lxO (rowOf rs p).2.2.1 = lxO (rowOf rs q).2.2.1 ∧ lyO (rowOf rs p).2.2.1 ≤ lyO (rowOf rs q).2.2.1)) = true) (fun a b ha hb h1 h2 => ?_) (List.pairwise_mergeSort (fun a b c h k => ?_) (fun a b => ?_) _) ?_ e1
    · obtain ⟨ra, hra, rfl⟩ := List.mem_map.mp (e1.mem_iff.mp ha)
      obtain ⟨rb, hrb, rfl⟩ := List.mem_map.mp hb
      rw [hself ra hra, hself rb hrb] at h1 h2
      have h1 := of_decide_eq_true h1
      have h2 := of_decide_eq_true h2
      obtain ⟨i, hi, rfl⟩ := List.mem_iff_getElem.mp hra
      obtain ⟨j, hj, rfl⟩ := List.mem_iff_getElem.mp hrb
      rcases Nat.lt_trichotomy i j with z | rfl | z
      · have := List.pairwise_iff_getElem.mp hpw i j hi hj z
        omega
      · rfl
      · have := List.pairwise_iff_getElem.mp hpw j i hj hi z
        omega
    · have h := of_decide_eq_true h
      have k := of_decide_eq_true k
      exact decide_eq_true (by omega)
    · rw [Bool.or_eq_true, decide_eq_true_iff, decide_eq_true_iff]
      omega
    · rw [List.pairwise_map]
      refine hpw.imp_of_mem fun {a b} ha hb h => ?_
      rw [hself a ha, hself b hb]
      exact decide_eq_true (by omega)
  unfold ordR
  rw [key, List.map_map]
  refine (List.map_congr_left fun r hr => ?_).trans (List.map_id _)
  exact hself r hr
theorem sortR_perm {rs : List Row} (hnd : (rs.map (·.1)).Nodup) : (sortR rs).Perm rs := by
  unfold sortR
  refine ((List.mergeSort_perm _ _).map _).trans ?_
  rw [List.map_map]
  refine List.Perm.of_eq ((List.map_congr_left fun r hr => ?_).trans (List.map_id _))
  exact rowOf_self hnd r hr
/-! ### the limits, each once -/
def newL (L : List Int) (s : Span) : List Int := [s.1, s.2].filterMap fun o => match o with
  | some i => if i ∈ L then none else some i
  | none => none
def limsG : List Int → List Row → List Int
  | L, [] => L
  | L, r :: t => limsG (L ++ newL L r.2.2) t
theorem limsG_snoc (r : Row) : ∀ (l : List Row) (L : List Int), limsG L (l ++ [r]) = limsG L l ++ newL (limsG L l) r.2.2
  | [], L => rfl
  | x :: l, L => limsG_snoc r l (L ++ newL L x.2.2)
theorem bds_app (a b : List StR) : bdsL (a ++ b) = bdsL a ++ bdsL b := List.filterMap_append
def pL (L : List Int) : Option Int → List Int
  | some i => if i ∈ L then [] else [i]
  | none => []
theorem newL_eq (L : List Int) (a b : Option Int) : newL L (a, b) = pL L a ++ pL L b := by
  have h : ∀ (o : Option Int) (r : List (Option Int)), ((o :: r).filterMap fun o => match o with
    | some i => if i ∈ L then none else some i
    | none => none) = pL L o ++ (r.filterMap fun o => match o with
    | some i => if i ∈ L then none else some i
    | none => none) := fun o r => by
    cases o with
    | none => rfl
    | some i =>
      by_cases q : i ∈ L <;> simp [pL, q]
  unfold newL
  rw [h, h]
  show pL L a ++ (pL L b ++ []) = _
  rw [List.append_nil]
theorem bds_gap (rv : V) (e a b : Option Int) (w : V) : bdsL ((if (!decide (limV a = limV e)) = true then [(e, a, rv)] else []) ++ [(a, b, w)]) = (if (!decide (limV a = limV e)) = true then a.toList else []) ++ b.toList := by
  unfold bdsL
  rw [List.filterMap_append]
  congr 1
  · split
    · cases a <;> rfl
    · rfl
theorem limsG_tl {rv : V} : ∀ (suf : List Row) (L : List Int) (e : Option Int), chainR suf → (∀ r ∈ suf, okS r.2.2 = true) → (∀ x ∈ L, ∃ e0, e = some e0 ∧ x ≤ e0) → (∀ e0, e = some e0 → e0 ∈ L) → (∀ e0, e = some e0 → ∀ r ∈ suf, ∃ l, r.2.2.1 = some l ∧ e0 ≤ l) → limsG L suf = L ++ bdsL (tlG rv e suf)
  | [], L, e, _, _, _, _, _ => by
    cases e <;> exact (List.append_nil L).symm
  | r :: t, L, e, hc, hok, h1, h2, h3 => by
    obtain ⟨hc1, hc2⟩ := chainR_cons hc
    have okr := hok r List.mem_cons_self
    have h3r := fun e0 z => h3 e0 z r List.mem_cons_self
    have e1 : tlG rv e (r :: t) = ((if (!decide (limV r.2.2.1 = limV e)) = true then [(e, r.2.2.1, rv)] else []) ++ [(r.2.2.1, r.2.2.2, V.str r.1)]) ++ tlG rv r.2.2.2 t := by
      rw [tlG_cons, List.append_assoc]
      rfl
    have e2 : limsG L (r :: t) = limsG (L ++ newL L (r.2.2.1, r.2.2.2)) t := rfl
    rw [e1, e2, bds_app, bds_gap, newL_eq]
    cases q : r.2.2 with
    | mk a b =>
    rw [q] at okr h3r
    have ha : pL L a = if (!decide (limV a = limV e)) = true then a.toList else [] := by
      cases a with
      | none => split <;> rfl
      | some l =>
        show (if l ∈ L then [] else [l]) = if (!decide (limV (some l) = limV e)) = true then [l] else []
        cases e with
        | none =>
          have : l ∉ L := fun hm => by
            obtain ⟨_, z, _⟩ := h1 l hm
            cases z
          rw [if_neg this]
          rfl
        | some e0 =>
          obtain ⟨l', z, z2⟩ := h3r e0 rfl
          cases z
          by_cases w : l = e0
          · subst w
            rw [if_pos (h2 l rfl), if_neg (by simp)]
          · have : l ∉ L := fun hm => by
              obtain ⟨e1, z, z3⟩ := h1 l hm
              cases z
              omega
            have w2 : ¬ limV (some l) = limV (some e0) := fun z => w (Option.some.inj (limV_inj z))
            rw [if_neg this, if_pos (by rw [decide_eq_false w2]; rfl)]
    have small : ∀ h, b = some h → ∀ x ∈ L, x < h := fun h z x hx => by
      subst z
      obtain ⟨e0, z, z2⟩ := h1 x hx
      obtain ⟨l, z3, z4⟩ := h3r e0 z
      cases z3
      have := of_decide_eq_true okr
      omega
    have hb : pL L b = b.toList := by
      cases b with
      | none => rfl
      | some h =>
        show (if h ∈ L then [] else [h]) = [h]
        rw [if_neg fun hm => by have := small h rfl h hm; omega]
    show limsG (L ++ (pL L a ++ pL L b)) t = L ++ (((if (!decide (limV a = limV e)) = true then a.toList else []) ++ b.toList) ++ bdsL (tlG rv b t))
    rw [hb, ha, ← List.append_assoc L]
    have hc1 : ∀ x ∈ t, ∃ h l, b = some h ∧ x.2.2.1 = some l ∧ h ≤ l := fun x hx => by
      have := hc1 x hx
      rw [q] at this
      exact this
    cases t with
    | nil =>
      have : bdsL (tlG rv b []) = [] := by cases b <;> rfl
      rw [this, List.append_nil, List.append_assoc]
      rfl
    | cons x t' =>
      obtain ⟨h, l, z, _⟩ := hc1 x List.mem_cons_self
      subst z
      rw [List.append_assoc L, ← List.append_assoc L _ (bdsL _)]
      refine limsG_tl (x :: t') _ (some h) hc2 (fun y hy => hok y (List.mem_cons_of_mem _ hy)) (fun y hy => ⟨h, rfl, ?_⟩) (fun e0 z => ?_) (fun e0 z y hy => ?_)
      · rcases List.mem_append.mp hy with hy | hy
        · have := small h rfl y hy
          omega
        · rcases List.mem_append.mp hy with hy | hy
          · split at hy
            · cases a with
              | none => exact (List.not_mem_nil hy).elim
              | some l0 =>
                rw [List.mem_singleton.mp hy]
                have := of_decide_eq_true okr
                omega
            · exact (List.not_mem_nil hy).elim
          · rw [List.mem_singleton.mp hy]
            exact Int.le_refl _
      · cases z
        exact List.mem_append_right _ (List.mem_append_right _ (List.mem_singleton.mpr rfl))
      · cases z
        obtain ⟨h', l', z1, z2, z3⟩ := hc1 y hy
        cases z1
        exact ⟨l', z2, z3⟩
theorem lims_strT {rv : V} {rows : List Row} (hc : chainR rows) (hok : ∀ r ∈ rows, okS r.2.2 = true) : limsG [] rows = bdsL (strT rv rows) := by
  cases rows with
  | nil => rfl
  | cons r t =>
    rw [strT_cons]
    exact limsG_tl (r :: t) [] none hc hok (fun x hx => (List.not_mem_nil hx).elim) (fun e0 z => by cases z) (fun e0 z => by cases z)
theorem count_ok {rv : V} {rows : List Row} (hrv : ∀ r ∈ rows, rv ≠ V.str r.1) (hnd : (rows.map (·.1)).Nodup) (hok : ∀ r ∈ rows, okS r.2.2 = true) (hc : chainR rows) : (strT rv rows).length = 1 + ((limsG [] rows).filter fun l => !decide (partR rows rv (l - 1) = partR rows rv l)).length := by
  obtain ⟨h1, h2⟩ := (tile_strT hrv hnd hok hc).len
  rw [h1, lims_strT (rv := rv) hc hok, List.filter_eq_self.mpr fun b hb => by rw [decide_eq_false (h2 b hb)]; rfl]
/-! ### promises for the stretches -/
def sp_has (K : PySem.W.Frag) : Sp := fun vs H Q _ => ∃ (a : Addr) (s : Span) (i : Int), vs = [.ref a, .int i] ∧ SqT K H a (spV s) ∧ Q (.bl (inS s i)) H
def rowsM (rr : List MRow) : List Row := rr.map fun r => (r.2.1, r.2.2.1, r.2.2.2)
/-- what is known beside the box and the tables -/
def nb (H : Hp) (p : Addr) : Hp := fun b => if b = p then none else match H b with
  | some (.tbl _) => none
  | o => o
theorem nb_some {H : Hp} {p b : Addr} {o : HO} (h : nb H p b = some o) : b ≠ p ∧ H b = some o ∧ ∀ ps, o ≠ .tbl ps := by
  unfold nb at h
  by_cases z : b = p
  · rw [if_pos z] at h
    cases h
  · rw [if_neg z] at h
    cases q : H b with
    | none => rw [q] at h; cases h
    | some u =>
      rw [q] at h
      cases u with
      | tbl ps => cases h
      | _ =>
        cases h
        exact ⟨z, rfl, fun ps w => by cases w⟩
theorem nb_of {H : Hp} {p b : Addr} {o : HO} (h1 : b ≠ p) (h2 : H b = some o) (h3 : ∀ ps, o ≠ .tbl ps) : nb H p b = some o := by
  unfold nb
  rw [if_neg h1, h2]
  cases o with
  | tbl ps => exact absurd rfl (h3 ps)
  | _ => rfl
theorem nb_ex {H H' : Hp} {p : Addr} (s : EX [p] H H') : Same (nb H p) (nb H' p) := fun b o e => by
  obtain ⟨h1, h2, h3⟩ := nb_some e
  exact nb_of h1 (s b o (by simpa using h1) h2 h3) h3
theorem nb_le (H : Hp) (p : Addr) : Same (nb H p) H := fun b o e => (nb_some e).2.1
/-- the box, the table -/
structure LS (H : Hp) (p : Addr) (n : Nat) (P : Addr) : Prop where
  box : BoxAt H p n
  tab : LamX.TabS H P lamQ
theorem LS.keep {H H' : Hp} {p : Addr} {n : Nat} {P : Addr} (S : LS H p n P) (s : Same H H') : LS H' p n P := ⟨S.box.nd (.of s), S.tab.ext s⟩
theorem LS.mono {H : Hp} {p : Addr} {n m : Nat} {P : Addr} (S : LS H p n P) (h : n ≤ m) : LS H p m P := ⟨S.box.mono h, S.tab⟩
theorem LS.after {H H' : Hp} {p : Addr} {n m : Nat} {P : Addr} (S : LS H p n P) (B : BoxIn (but H p) H' p m) : LS H' p m P := ⟨B.box, (S.box.tabS S.tab).ext B.same⟩
theorem ex_of {H H' : Hp} {p : Addr} {m : Nat} (B : BoxIn (but H p) H' p m) : EX [p] H H' := fun b o n e _ => B.same b o (by rw [but_ne (by simpa using n)]; exact e)
theorem LS.ne {H : Hp} {p a : Addr} {n : Nat} {P : Addr} (S : LS H p n P) (h : H a = none) : a ≠ p := by
  obtain ⟨_, _, _, hp, _⟩ := S.box
  exact (ne_of_none hp h).symm
def sp_lcat (K : PySem.W.Frag) (C P : Addr) : Sp := fun vs H Q _ => ∃ (p : Addr) (n : Nat) (q : Addr) (rr : List MRow) (rt : Option Str) (left : List Str), vs = [.ref p, .ref q] ∧ LS H p n P ∧ MdAt (nb H p) q rr rt left ∧ rr.length ≤ 7 ∧ n + 20 < 1000000 ∧
  ∀ (H' : Hp) (x : Addr) (rs : List Row), EX [p] H H' → LS H' p (n + 20) P → CatAt K C (nb H' p) x rs rt → rs.Perm (rowsM rr) → Q (.ref x) H'
def sp_lpart : Sp := fun vs H Q _ => ∃ (q : Addr) (k : Int) (rr : List MRow) (rt : Option Str) (left : List Str), vs = [.ref q, .int k] ∧ MdAt H q rr rt left ∧ rr.length ≤ 60 ∧ ∀ H', Same H H' → Q (partR (rowsM rr) (rvO rt) k) H'
def innerI : Option Int → Option Int → List Int
  | none, none => [-(10 ^ 29), 0, 10 ^ 29]
  | none, some h => [h - 1, h - 10 ^ 29]
  | some l, none => [l, l + 10 ^ 29]
  | some l, some h => [l, h - 1, (l + h) / 2]
def sp_linner : Sp := fun vs H Q _ => ∃ (lo hi : Option Int), vs = [limV lo, limV hi] ∧ ∀ p H', Same H H' → H p = none → H' p = some (.lst ((innerI lo hi).map V.int)) → Q (.ref p) H'
def sp_lcount : Sp := fun vs H Q _ => ∃ (q : Addr) (rr : List MRow) (rt : Option Str) (left : List Str), vs = [.ref q] ∧ MdAt H q rr rt left ∧ rr.length ≤ 60 ∧ ∀ H', Same H H' → Q (.int (1 + (((limsG [] (rowsM rr)).filter fun l => !decide (partR (rowsM rr) (rvO rt) (l - 1) = partR (rowsM rr) (rvO rt) l)).length : Nat))) H'
def sp_cstr (K : PySem.W.Frag) (C : Addr) : Sp := fun vs H Q _ => ∃ (x : Addr) (rs : List Row) (rt : Option Str), vs = [.ref x] ∧ CatAt K C H x rs rt ∧ rs.length ≤ 60 ∧ ∀ p xs, H p = none → StAt H xs (strT (rvO rt) (ordR (sortR rs))) → Q (.ref p) (upd H p (.lst xs))
def sp_cpart (K : PySem.W.Frag) (C CK : Addr) : Sp := fun vs H Q E => ∃ (x : Addr) (k : Int) (rs : List Row) (rt : Option Str) (st : StR), vs = [.ref x, .int k] ∧ CatAt K C H x rs rt ∧ (strT (rvO rt) (ordR (sortR rs))).find? (fun st => hiB st.2.1 k) = some st ∧ ∀ H', Same H H' → Q st.2.2 H'
def sp_lright (K : PySem.W.Frag) (C : Addr) : Sp := fun vs H Q _ => ∃ (x q : Addr) (rs : List Row) (rr : List MRow) (rt : Option Str) (left : List Str), vs = [.ref x, .ref q] ∧ CatAt K C H x rs rt ∧ MdAt H q rr rt left ∧ rs.Perm (rowsM rr) ∧ rr.length ≤ 7 ∧ ∀ H', Same H H' → Q (.bl true) H'
theorem lkT (d : Addr) (rv : V) (l p : Addr) : (fsC d rv l p).lookup ("_stretches" : Str) = some (.ref p) := by simp [fsC, List.lookup, sb "_stretches" "_spans", sb "_stretches" "_rest", sb "_stretches" "_names"]
theorem in_intsC (k : Int) (L : List Int) : inV (.int k) (L.map V.int) = decide (k ∈ L) := by
  unfold inV
  rw [Bool.eq_iff_iff, List.any_eq_true, decide_eq_true_iff]
  constructor
  · rintro ⟨z, hz, e⟩
    obtain ⟨t, ht, rfl⟩ := List.mem_map.mp hz
    have : (t == k) = true := e
    rw [← eq_of_beq this]
    exact ht
  · intro h
    exact ⟨_, List.mem_map.mpr ⟨k, h, rfl⟩, by show (k == k) = true; simp⟩
theorem flat_intsC (L : List Int) : (L.map V.int).all flatV = true := by
  rw [List.all_eq_true]
  intro x hx
  obtain ⟨s, _, rfl⟩ := List.mem_map.mp hx
  rfl
theorem limsG_len : ∀ (l : List Row) (L : List Int), (limsG L l).length ≤ L.length + 2 * l.length
  | [], L => Nat.le_refl _
  | r :: t, L => by
    have h1 := limsG_len t (L ++ newL L r.2.2)
    have h2 : (newL L r.2.2).length ≤ 2 := List.length_filterMap_le _ _
    rw [List.length_append] at h1
    show (limsG (L ++ newL L r.2.2) t).length ≤ _
    rw [List.length_cons]
    omega
def newP (L : List Int) (s : Span) (j : Nat) : List Int := ([s.1, s.2].take j).filterMap fun o => match o with
  | some i => if i ∈ L then none else some i
  | none => none
theorem newP_step {L : List Int} {s : Span} {j : Nat} {o : Option Int} (h : [s.1, s.2][j]? = some o) : newP L s (j + 1) = newP L s j ++ pL L o := by
  unfold newP
  rw [List.take_add_one, h, List.filterMap_append]
  congr 1
  cases o with
  | none => rfl
  | some i => by_cases q : i ∈ L <;> simp [pL, q]
theorem partR_scal {rs : List Row} {rt : Option Str} (i j : Int) : scal (partR rs (rvO rt) i) (partR rs (rvO rt) j) = true := by
  unfold partR
  cases rs.find? (fun r => inS r.2.2 i) <;> cases rs.find? (fun r => inS r.2.2 j) <;> cases rt <;> rfl
/-! ### catalogs of rows drawn -/
theorem paired_imp {α β : Type} {R S : α → β → Prop} (h : ∀ a b, R a b → S a b) : ∀ {l : List α} {m : List β}, PySem.Paired R l m → PySem.Paired S l m
  | _, _, .nil => .nil
  | _, _, .cons a b => .cons (h _ _ a) (paired_imp h b)
theorem paired_snoc {α β : Type} {R : α → β → Prop} {a : α} {b : β} (h : R a b) : ∀ {l : List α} {m : List β}, PySem.Paired R l m → PySem.Paired R (l ++ [a]) (m ++ [b])
  | _, _, .nil => .cons h .nil
  | _, _, .cons x y => .cons x (paired_snoc h y)
theorem paired_perm {α β : Type} {R : α → β → Prop} {l l' : List α} (p : l'.Perm l) : ∀ {m : List β}, PySem.Paired R l m → ∃ m', PySem.Paired R l' m' ∧ m'.Perm m := by
  suffices h : ∀ {l l' : List α}, l.Perm l' → ∀ {m : List β}, PySem.Paired R l m → ∃ m', PySem.Paired R l' m' ∧ m'.Perm m from fun {m} hp => h p.symm hp
  intro l l' p
  induction p with
  | nil => exact fun h => ⟨_, h, List.Perm.refl _⟩
  | cons x _ ih =>
    intro m h
    cases h with
    | cons a b =>
      obtain ⟨m', h1, h2⟩ := ih b
      exact ⟨_, .cons a h1, h2.cons _⟩
  | swap x y l =>
    intro m h
    cases h with
    | cons a b =>
      cases b with
      | cons c d => exact ⟨_, .cons c (.cons a d), List.Perm.swap _ _ _⟩
  | trans _ _ ih1 ih2 =>
    intro m h
    obtain ⟨m1, h1, h2⟩ := ih1 h
    obtain ⟨m2, h3, h4⟩ := ih2 h1
    exact ⟨m2, h3, h4.trans h2⟩
theorem mergeK_nod : ∀ (l acc : List (Key × V)), ((acc ++ l).map (·.1)).Nodup → mergeK acc l = acc ++ l
  | [], acc, _ => (List.append_nil acc).symm
  | p :: r, acc, h => by
    have hk : ¬ ((acc.any fun kv => decide (kv.1 = p.1)) = true) := fun e => by
      obtain ⟨x, hx, e⟩ := List.any_eq_true.mp e
      rw [List.map_append, List.map_cons] at h
      exact (List.nodup_append.mp h).2.2 x.1 (List.mem_map.mpr ⟨x, hx, rfl⟩) p.1 List.mem_cons_self (of_decide_eq_true e)
    have e : putK acc p.1 p.2 = acc ++ [p] := by
      unfold putK
      rw [if_neg hk]
    show mergeK (putK acc p.1 p.2) r = _
    rw [e, mergeK_nod r (acc ++ [p]) (by rw [List.append_assoc]; exact h), List.append_assoc]
    rfl
theorem ovlR_none : ∀ (t acc : List Row), (∀ a ∈ acc, ∀ r ∈ t, meetB a.2.2 r.2.2 = false) → (t.Pairwise fun a b => meetB a.2.2 b.2.2 = false) → ovlR acc t = none
  | [], _, _, _ => rfl
  | r :: t, acc, h1, h2 => by
    rw [ovlR_step]
    have h3 : (acc.any fun q => meetB q.2.2 r.2.2) = false := by
      rw [Bool.eq_false_iff]
      intro z
      obtain ⟨a, ha, e⟩ := List.any_eq_true.mp z
      rw [h1 a ha r List.mem_cons_self] at e
      cases e
    rw [h3, if_neg Bool.false_ne_true]
    obtain ⟨h4, h5⟩ := List.pairwise_cons.mp h2
    refine ovlR_none t (acc ++ [r]) (fun a ha x hx => ?_) h5
    rcases List.mem_append.mp ha with ha | ha
    · exact h1 a ha x (List.mem_cons_of_mem _ hx)
    · rw [List.mem_singleton.mp ha]
      exact h4 x hx
theorem chain_apart {rows : List Row} (hc : chainR rows) (hok : ∀ r ∈ rows, okS r.2.2 = true) : ∀ a ∈ rows, ∀ b ∈ rows, a ≠ b → meetB a.2.2 b.2.2 = false := by
  have key : ∀ {s t : Span}, okS s = true → okS t = true → (∃ h l, s.2 = some h ∧ t.1 = some l ∧ h ≤ l) → meetB s t = false ∧ meetB t s = false := fun {s t} hs ht ⟨h, l, e1, e2, e3⟩ => by
    have d : decide (l < h) = false := decide_eq_false (by omega)
    rw [← meetL_eq hs ht, ← meetL_eq ht hs]
    unfold meetL
    rw [e1, e2]
    show (ok2 s.1 t.2 && decide (l < h)) = false ∧ (decide (l < h) && ok2 s.1 t.2) = false
    rw [d, Bool.and_false, Bool.false_and]
    exact ⟨rfl, rfl⟩
  have hpw : rows.Pairwise fun a b => ∃ h l, a.2.2.2 = some h ∧ b.2.2.1 = some l ∧ h ≤ l := by
    have h : List.Pairwise _ (rows.map (·.2.2)) := hc
    rwa [List.pairwise_map] at h
  intro a ha b hb ne
  obtain ⟨i, hi, rfl⟩ := List.mem_iff_getElem.mp ha
  obtain ⟨j, hj, rfl⟩ := List.mem_iff_getElem.mp hb
  rcases Nat.lt_trichotomy i j with z | rfl | z
  · exact (key (hok _ ha) (hok _ hb) (List.pairwise_iff_getElem.mp hpw i j hi hj z)).1
  · exact absurd rfl ne
  · exact (key (hok _ hb) (hok _ ha) (List.pairwise_iff_getElem.mp hpw j i hj hi z)).2
theorem ovl_none {rs rows : List Row} (hp : rs.Perm rows) (hnd : (rows.map (·.1)).Nodup) (hc : chainR rows) (hok : ∀ r ∈ rows, okS r.2.2 = true) : ovl rs = none := by
  have hnd2 : (rs.map (·.1)).Nodup := (hp.map _).nodup_iff.mpr hnd
  have hs := (sortR_perm hnd2).trans hp
  refine ovlR_none _ _ (fun a ha => (List.not_mem_nil ha).elim) ?_
  have hn : (sortR rs).Pairwise fun a b => a ≠ b := by
    have : ((sortR rs).map (·.1)).Nodup := (hs.map _).nodup_iff.mpr hnd
    unfold List.Nodup at this
    rw [List.pairwise_map] at this
    exact this.imp fun h e => h (by rw [e])
  exact hn.imp_of_mem fun {a b} ha hb h => chain_apart hc hok a (hs.mem_iff.mp ha) b (hs.mem_iff.mp hb) h
theorem rowsM_names (rr : List MRow) : (rowsM rr).map (·.1) = rr.map (·.2.1) := by
  unfold rowsM
  rw [List.map_map]
  rfl
theorem rowsM_chain {rr : List MRow} (h : Chain (rr.map (·.2.2.2))) : chainR (rowsM rr) := by
  unfold chainR rowsM
  rw [List.map_map]
  exact h
theorem rowsM_ok {rr : List MRow} (h : ∀ r ∈ rr, okS r.2.2.2 = true) : ∀ r ∈ rowsM rr, okS r.2.2 = true := fun r hr => by
  obtain ⟨m, hm, rfl⟩ := List.mem_map.mp hr
  exact h m hm
def rtD : Option Str → PyData
  | none => .none
  | some s => .str s
theorem rtO_rtD (rt : Option Str) : rtO (some (rtD rt)) = rt := by cases rt <;> rfl
theorem vd_rtD {K : PySem.W.Frag} {H : Hp} {rt : Option Str} (h : ∀ s, rt = some s → nameS s = true) : VD K H (rvO rt) (some (rtD rt)) := by
  cases rt with
  | none => exact .dat .non (by decide) fun s e => by cases e
  | some s => exact vd_key (k := .inr s) ⟨by have := nameC_len (h s rfl); omega, nameC_ok (h s rfl)⟩
/-- rows that do not meet make a catalog -/
theorem cat_good {rs rows : List Row} {rt : Option Str} (hp : rs.Perm rows) (hnd : (rows.map (·.1)).Nodup) (hc : chainR rows) (hok : ∀ r ∈ rows, okS r.2.2 = true) (hnm : ∀ r ∈ rows, nameS r.1 = true) (hr : ∀ s, rt = some s → nameS s = true ∧ s ∉ rows.map (·.1)) (hl : rows.length + rt.toList.length ≤ 8) : catF (rs.map rE) (rvO rt) (some (rtD rt)) = none := by
  have hnd2 : (rs.map (·.1)).Nodup := (hp.map _).nodup_iff.mpr hnd
  have nk : nodK (rs.map rE) := by
    unfold nodK
    rw [List.map_map]
    unfold List.Nodup at hnd2 ⊢
    rw [List.pairwise_map] at hnd2 ⊢
    exact hnd2.imp fun h e => h (Sum.inr.inj e)
  rw [catF_go (rsF_of_good nk fun e he => ?_), rowsE_rows, catR_go (ovl_none hp hnd hc hok)]
  · have hlen : (rs.map (·.1)).length + rt.toList.length ≤ 8 := by
      rw [List.length_map, hp.length_eq]
      exact hl
    unfold restR
    cases rt with
    | none =>
      have e1 : nonO (some (rtD none)) = true := rfl
      have hlen : ¬ 8 < (rs.map (·.1)).length := by
        have : (none : Option Str).toList.length = 0 := rfl
        omega
      rw [e1, if_pos rfl, if_neg hlen]
    | some s =>
      obtain ⟨h1, h2⟩ := hr s rfl
      have h3 : s ∉ rs.map (·.1) := fun z => h2 ((hp.map _).mem_iff.mp z)
      have e1 : nonO (some (rtD (some s))) = false := rfl
      have e2 : nameO (some (rtD (some s))) = true := h1
      have e3 : inNames (rs.map (·.1)) (some (rtD (some s))) = false := decide_eq_false h3
      have hlen : ¬ 8 < (rs.map (·.1)).length + 1 := by
        have : (some s : Option Str).toList.length = 1 := rfl
        omega
      rw [e1, if_neg Bool.false_ne_true, e2, if_neg (by decide), e3, if_neg Bool.false_ne_true, if_neg hlen]
  · obtain ⟨r, hr', rfl⟩ := List.mem_map.mp he
    have hm := hp.mem_iff.mp hr'
    unfold goodE
    rw [Bool.and_eq_true]
    refine ⟨hnm r hm, ?_⟩
    have : spanO (some (spD r.2.2)) = okS r.2.2 := spanO_ok _
    exact this.trans (hok r hm)
theorem SqT.nbC {K : PySem.W.Frag} {H : Hp} {p a : Addr} {n : Nat} {xs : List V} (b : BoxAt H p n) (h : SqT K H a xs) : SqT K (nb H p) a xs := by
  obtain ⟨_, _, _, hp, _⟩ := b
  rcases h with (h | ⟨o, h⟩) | h
  · exact .inl (.inl (nb_of (ne_of h hp (by intro z; cases z)) h fun ps z => by cases z))
  · exact .inl (.inr ⟨o, nb_of (ne_of h hp (by intro z; cases z)) h fun ps z => by cases z⟩)
  · exact .inr h
/-- a catalog just made, seen beside the box and the tables -/
theorem CatNew.nbC {K : PySem.W.Frag} {C : Addr} {H0 H : Hp} {p x : Addr} {n : Nat} {rs : List Row} {rt : Option Str} (b : BoxAt H p n) (h0 : ∃ o, H0 p = some o) (h : CatNew K C H0 H x rs rt) : CatAt K C (nb H p) x rs rt := by
  obtain ⟨dx, d, l, s, xs, h1, h2, h3, h4, h5, h6, h7, h8⟩ := h
  obtain ⟨o, ho⟩ := h0
  have ne : ∀ {a : Addr}, H0 a = none → a ≠ p := fun e z => by
    rw [z, ho] at e
    cases e
  have b' := b
  obtain ⟨_, _, _, hp, _⟩ := b'
  obtain ⟨zs, e1, e2, e3⟩ := h4.2
  exact ⟨dx, d, l, s, xs, nb_of (ne_of h1 hp (by intro z; cases z)) h1 (fun ps z => by cases z), nb_of (ne h6) h2 (fun ps z => by cases z), nb_of (ne h7) h3 (fun ps z => by cases z), ⟨nb_of (ne h8) h4.1 (fun ps z => by cases z), zs, e1, e2, fun z hz => nb_of (ne_of (e3 z hz) hp (by intro z; cases z)) (e3 z hz) (fun ps z => by cases z)⟩, fun r hr => ⟨SqT.nbC b (h5 r hr).1, (h5 r hr).2⟩⟩
theorem lkSt (d : Addr) (rv : V) (l p : Addr) : (fsC d rv l p).lookup ("stretches" : Str) = none := by simp [fsC, List.lookup, sb "stretches" "_spans", sb "stretches" "_rest", sb "stretches" "_names", sb "stretches" "_stretches"]
theorem lkPo (d : Addr) (rv : V) (l p : Addr) : (fsC d rv l p).lookup ("part_of" : Str) = none := by simp [fsC, List.lookup, sb "part_of" "_spans", sb "part_of" "_rest", sb "part_of" "_names", sb "part_of" "_stretches"]
/-- a stretch's part: None or a short text -/
def wOk (w : V) : Prop := w = .non ∨ ∃ s, w = .str s ∧ nameS s = true
def wD : V → PyData
  | .str s => .str s
  | _ => .none
def stD (s : StR) : PyData := .tuple [limD s.1, limD s.2.1, wD s.2.2]
theorem wOk_scal {a b : V} (ha : wOk a) (hb : wOk b) : scal a b = true := by
  rcases ha with rfl | ⟨s, rfl, _⟩ <;> rcases hb with rfl | ⟨t, rfl, _⟩ <;> rfl
theorem st_dp {K : PySem.W.Frag} {H : Hp} : ∀ {zs : List (Addr × StR)}, (∀ z ∈ zs, H z.1 = some (.tup (stV z.2))) → (∀ z ∈ zs, wOk z.2.2.2) → DpAll K H (zs.map fun z => V.ref z.1) (zs.map fun z => stD z.2)
  | [], _, _ => .nil
  | z :: t, h, w => .cons (.tup (SqT.of (h z List.mem_cons_self)) (.cons (dp_lim _) (.cons (dp_lim _) (.cons (by
      rcases w z List.mem_cons_self with e | ⟨s, e, _⟩
      · rw [e]; exact .non
      · rw [e]; exact .str s) .nil)))) (st_dp (fun x hx => h x (List.mem_cons_of_mem _ hx)) fun x hx => w x (List.mem_cons_of_mem _ hx))
theorem st_sh {zs : List (Addr × StR)} (w : ∀ z ∈ zs, wOk z.2.2.2) : SeqAt.shaped (.list (zs.map fun z => stD z.2)) = true := shaped_list (n := 1) (by decide) fun d hd => by
  obtain ⟨z, hz, rfl⟩ := List.mem_map.mp hd
  have h3 : (wD z.2.2.2).canLay0 = true ∧ (wD z.2.2.2).depth = 0 := by
    rcases w z hz with e | ⟨s, e, hn⟩
    · rw [e]
      exact ⟨rfl, rfl⟩
    · rw [e]
      refine ⟨?_, by simp [wD, PyData.depth]⟩
      simp only [wD, PyData.canLay0]
      exact nameC_ok hn
  have hl : ∀ o : Option Int, (limD o).canLay0 = true ∧ (limD o).depth = 0 := fun o => by
    cases o
    · exact ⟨rfl, rfl⟩
    · exact ⟨by simp [limD, PyData.canLay0], by simp [limD, PyData.depth]⟩
  constructor
  · simp only [stD, PyData.canLay0]
    refine canAll_mem.mpr fun d hd => ?_
    simp only [List.mem_cons, List.not_mem_nil, or_false] at hd
    rcases hd with rfl | rfl | rfl
    · exact (hl _).1
    · exact (hl _).1
    · exact h3.1
  · have : PyData.depthAll [limD z.2.1, limD z.2.2.1, wD z.2.2.2] ≤ 0 := depthAll_le fun d hd => by
      simp only [List.mem_cons, List.not_mem_nil, or_false] at hd
      rcases hd with rfl | rfl | rfl
      · exact Nat.le_of_eq (hl _).2
      · exact Nat.le_of_eq (hl _).2
      · exact Nat.le_of_eq h3.2
    simp only [stD, PyData.depth]
    omega
theorem strG_w {rv : V} : ∀ (l : List Row) (e : Option Int) (st : StR), st ∈ strG rv e l → st.2.2 = rv ∨ ∃ r ∈ l, st.2.2 = .str r.1
  | r :: t, e, st, h => by
    unfold strG at h
    rcases List.mem_append.mp h with h | h
    · split at h
      · rw [List.mem_singleton.mp h]
        exact .inl rfl
      · exact (List.not_mem_nil h).elim
    · rcases List.mem_cons.mp h with rfl | h
      · exact .inr ⟨r, List.mem_cons_self, rfl⟩
      · rcases strG_w t _ st h with z | ⟨x, hx, z⟩
        · exact .inl z
        · exact .inr ⟨x, List.mem_cons_of_mem _ hx, z⟩
theorem strT_w {rv : V} {l : List Row} {st : StR} (h : st ∈ strT rv l) : st.2.2 = rv ∨ ∃ r ∈ l, st.2.2 = .str r.1 := by
  have key : ∀ st, st ∈ strG rv none l ++ [(endG none l, none, rv)] → st.2.2 = rv ∨ ∃ r ∈ l, st.2.2 = .str r.1 := fun st h => by
    rcases List.mem_append.mp h with h | h
    · exact strG_w l none st h
    · rw [List.mem_singleton.mp h]
      exact .inl rfl
  unfold strT at h
  split at h
  · exact key st h
  · split at h
    · exact key st h
    · exact strG_w l none st h
theorem strT_len {rv : V} {l : List Row} : (strT rv l).length ≤ 2 * l.length + 1 := by
  have h := strG_len rv l none
  unfold strT
  split
  · rw [List.length_append, List.length_singleton]; omega
  · split
    · rw [List.length_append, List.length_singleton]; omega
    · omega
theorem inner_in {lo hi : Option Int} (h : okS (lo, hi) = true) : ∀ k ∈ innerI lo hi, inS (lo, hi) k = true := by
  intro k hk
  cases lo with
  | none =>
    cases hi with
    | none => rfl
    | some h' =>
      simp only [innerI, List.mem_cons, List.not_mem_nil, or_false] at hk
      show (true && decide (k < h')) = true
      rw [Bool.true_and]
      refine decide_eq_true ?_
      rcases hk with rfl | rfl
      · omega
      · have : (0 : Int) < 10 ^ 29 := by decide
        omega
  | some l =>
    cases hi with
    | none =>
      simp only [innerI, List.mem_cons, List.not_mem_nil, or_false] at hk
      show (decide (l ≤ k) && true) = true
      rw [Bool.and_true]
      refine decide_eq_true ?_
      rcases hk with rfl | rfl
      · omega
      · have : (0 : Int) < 10 ^ 29 := by decide
        omega
    | some h' =>
      have h : l < h' := of_decide_eq_true h
      simp only [innerI, List.mem_cons, List.not_mem_nil, or_false] at hk
      show (decide (l ≤ k) && decide (k < h')) = true
      rw [Bool.and_eq_true, decide_eq_true_iff, decide_eq_true_iff]
      rcases hk with rfl | rfl | rfl
      · omega
      · omega
      · omega
theorem st_dp1 {K : PySem.W.Frag} {H : Hp} {a : Addr} {s : StR} (h : H a = some (.tup (stV s))) (w : wOk s.2.2) : Dp K H (.ref a) (stD s) := .tup (SqT.of h) (.cons (dp_lim _) (.cons (dp_lim _) (.cons (by
  rcases w with e | ⟨s', e, _⟩
  · rw [e]; exact .non
  · rw [e]; exact .str s') .nil)))
theorem MdAt.ofND {H H' : Hp} {q : Addr} {rr : List MRow} {rt : Option Str} {left : List Str} (s : ND H H') (h : MdAt H q rr rt left) : MdAt H' q rr rt left := by
  obtain ⟨⟨lr, ll, h1, h2, h3⟩, h4, h5, h6, h7, h8⟩ := h
  exact ⟨⟨lr, ll, s _ _ h1 rfl, s _ _ h2 rfl, s _ _ h3 rfl⟩, fun r hr => ⟨s _ _ (h4 r hr).1 rfl, s _ _ (h4 r hr).2 rfl⟩, h5, h6, h7, h8⟩
theorem nd_nb {G H : Hp} {p : Addr} (s : Same G H) (g : G p = none) : ND G (nb H p) := fun b o e z => nb_of (fun w => by
  rw [w, g] at e
  cases e) (s _ _ e) fun ps w => by
  rw [w] at z
  cases z
/-! ### changes and roles -/
def hangD : List PyData → Bool
  | [a, b] => nameO (some a) && spanO (some b)
  | _ => false
def takeD : List PyData → Bool
  | [a] => nameO (some a)
  | _ => false
def splitD : List PyData → Bool
  | [a, b, c, d] => intO (some b) && diffN [a, c, d]
  | _ => false
def joinD : List PyData → Bool
  | [a, b, c] => diffN [a, b, c]
  | _ => false
def isS (d : PyData) (s : Str) : Bool := PyData.eqv d (.str s)
def chD : List PyData → Bool
  | [] => false
  | k :: r => if isS k "hang" = true then hangD r else if isS k "take" = true then takeD r else if isS k "split" = true then splitD r else isS k "join" && joinD r
def chO : Option PyData → Bool
  | some (.tuple ds) => chD ds
  | _ => false
theorem chO_ty {o : Option PyData} (e : isT "tuple" o = false) : chO o = false := by
  rcases o with _ | d
  · rfl
  · cases d with
    | tuple s => cases e
    | _ => rfl
/-- a tuple of few items, its texts short -/
def fewO (o : Option PyData) : Prop := ∀ ds, o = some (.tuple ds) → ds.length ≤ 100 ∧ ∀ s, PyData.str s ∈ ds → s.length ≤ 1000
theorem its_of {K : PySem.W.Frag} {H : Hp} {xs : List V} {ds : List PyData} (h : DpAll K H xs ds) (sh : SeqAt.shaped (.tuple ds) = true) (f : fewO (some (.tuple ds))) : Its K H xs ds :=
  ⟨h, (f ds rfl).1, fun d hd => ⟨shaped_iff.mpr ⟨(shaped_of_tuple sh hd).1, Nat.le_succ_of_le (shaped_of_tuple sh hd).2⟩, fun s e => (f ds rfl).2 s (e ▸ hd)⟩⟩
theorem Its.mono {K : PySem.W.Frag} {H H' : Hp} {xs : List V} {ds : List PyData} (s : Same H H') (h : Its K H xs ds) : Its K H' xs ds := ⟨dpAll_mono s h.1, h.2⟩
theorem Its.tail {K : PySem.W.Frag} {H : Hp} {x : V} {d : PyData} {xs : List V} {ds : List PyData} (h : Its K H (x :: xs) (d :: ds)) : Its K H xs ds := by
  obtain ⟨h1, h2, h3⟩ := h
  cases h1 with
  | cons a b => exact ⟨b, Nat.le_of_succ_le h2, fun e he => h3 e (List.mem_cons_of_mem _ he)⟩
theorem Its.head {K : PySem.W.Frag} {H : Hp} {x : V} {d : PyData} {xs : List V} {ds : List PyData} (h : Its K H (x :: xs) (d :: ds)) : Dp K H x d ∧ SeqAt.shaped d = true ∧ VD K H x (some d) := by
  obtain ⟨h1, h2, h3⟩ := h
  cases h1 with
  | cons a b => exact ⟨a, (h3 d List.mem_cons_self).1, .dat a (h3 d List.mem_cons_self).1 (h3 d List.mem_cons_self).2⟩
theorem Its.cons {K : PySem.W.Frag} {H : Hp} {x : V} {d : PyData} {xs : List V} {ds : List PyData} (a : VD K H x (some d)) (h : Its K H xs ds) (f : ds.length < 100) : Its K H (x :: xs) (d :: ds) := by
  cases a with
  | dat p q r => exact ⟨.cons p h.1, f, fun e he => (List.mem_cons.mp he).elim (fun z => by rw [z]; exact ⟨q, r⟩) fun z => h.2.2 e z⟩
theorem Its.nil {K : PySem.W.Frag} {H : Hp} : Its K H [] [] := ⟨.nil, Nat.zero_le _, fun _ h => by cases h⟩
/-- what a starred target leaves -/
theorem star1 (x : V) (r : List V) (q : Addr) : (x :: r).take 1 ++ [V.ref q] ++ ((x :: r).drop 1).drop ((x :: r).length + 1 - 2) = [x, .ref q] ∧ ((x :: r).drop 1).take ((x :: r).length + 1 - 2) = r := by
  have e : (x :: r).length + 1 - 2 = r.length := rfl
  rw [e]
  refine ⟨?_, ?_⟩
  · show x :: V.ref q :: r.drop r.length = _
    rw [List.drop_length]
  · show r.take r.length = _
    rw [List.take_length]
theorem isS_str (s t : Str) : isS (.str s) t = (s == t) := by
  unfold isS
  simp [PyData.eqv]
theorem isS_of {d : PyData} {t : Str} (h : isS d t = true) : d = .str t := by
  cases d with
  | str s =>
    rw [isS_str, beq_iff_eq] at h
    rw [h]
  | _ => simp [isS, PyData.eqv] at h
theorem isS_sh (t : Str) (h : PyData.strOk t = true) : SeqAt.shaped (.str t) = true := shaped_iff.mpr ⟨h, by simp [PyData.depth]⟩
def sp_chg (K : PySem.W.Frag) : Sp := fun vs H Q _ => ∃ (v : V) (o : Option PyData), vs = [v] ∧ VD K H v o ∧ fewO o ∧ ∀ H', Same H H' → Q (.bl (chO o)) H'
def sp_rchg (K : PySem.W.Frag) (C : Addr) : Sp := fun vs H Q E => ∃ (v : V) (o : Option PyData), vs = [v] ∧ VD K H v o ∧ fewO o ∧ (chO o = true → ∀ H', Same H H' → Q .non H') ∧ (chO o = false → Rz H E C "value" v)
def strsOf (ds : List PyData) : List Str := ds.map strOf
def roleD : List PyData → List Str × List Str
  | [] => ([], [])
  | k :: r => if isS k "hang" = true then ([], strsOf (r.take 1)) else if isS k "take" = true then (strsOf r, []) else if isS k "split" = true then (strsOf (r.take 1), strsOf (r.drop 2)) else (strsOf (r.take 2), strsOf (r.drop 2))
/-- a tuple of two new lists of texts -/
def Roles (H : Hp) (Q : VK) (ls : List Str × List Str) : Prop := ∀ p l1 l2 H', Same H H' → H p = none → H l1 = none → H l2 = none → H' p = some (.tup [.ref l1, .ref l2]) → H' l1 = some (.lst (ls.1.map V.str)) → H' l2 = some (.lst (ls.2.map V.str)) → Q (.ref p) H'
def sp_roles (K : PySem.W.Frag) (C : Addr) : Sp := fun vs H Q E => ∃ (v : V) (o : Option PyData), vs = [v] ∧ VD K H v o ∧ fewO o ∧ (chO o = false → Rz H E C "value" v) ∧ ∀ ds, o = some (.tuple ds) → chD ds = true → Roles H Q (roleD ds)
def sp_lroles (K : PySem.W.Frag) : Sp := fun vs H Q _ => ∃ (v : V) (ds : List PyData), vs = [v] ∧ VD K H v (some (.tuple ds)) ∧ fewO (some (.tuple ds)) ∧ chD ds = true ∧ Roles H Q (roleD ds)
/-- two new lists: what the roles are, or the value -/
def sp_told11 (K : PySem.W.Frag) : Sp := fun vs H Q _ => ∃ (v : V) (o : Option PyData), vs = [v] ∧ VD K H v o ∧ fewO o ∧ (chO o = false → ∀ f H', Same H H' → H f = none → H' f = some (.lst [.str "change", v]) → Q (.ref f) H') ∧
  ∀ ds, o = some (.tuple ds) → chD ds = true → ∀ f p l1 l2 H', Same H H' → H f = none → H p = none → H l1 = none → H l2 = none → H' f = some (.lst [.str "told", .ref p]) → H' p = some (.tup [.ref l1, .ref l2]) → H' l1 = some (.lst ((roleD ds).1.map V.str)) → H' l2 = some (.lst ((roleD ds).2.map V.str)) → Q (.ref f) H'
/-- items of changes -/
def GI (K : PySem.W.Frag) (H : Hp) (v : V) : Prop := ∃ d, Dp K H v d ∧ d.canLay0 = true ∧ d.depth ≤ 3 ∧ ∀ s, d = .str s → s.length ≤ 1000
theorem GI.mono {K : PySem.W.Frag} {H H' : Hp} {v : V} (h : GI K H v) (s : Same H H') : GI K H' v := by
  obtain ⟨d, h1, h2⟩ := h
  exact ⟨d, dp_mono s h1, h2⟩
theorem gi_none (K : PySem.W.Frag) (H : Hp) : GI K H .non := ⟨.none, .non, rfl, by simp [PyData.depth], fun _ e => nomatch e⟩
theorem gi_bl (K : PySem.W.Frag) (H : Hp) (b : Bool) : GI K H (.bl b) := ⟨.bool b, .bl b, rfl, by simp [PyData.depth], fun _ e => nomatch e⟩
theorem gi_int (K : PySem.W.Frag) (H : Hp) (i : Int) : GI K H (.int i) := ⟨.int i, .int i, rfl, by simp [PyData.depth], fun _ e => nomatch e⟩
theorem gi_str (K : PySem.W.Frag) (H : Hp) {s : Str} (h : sOk 16 s) : GI K H (.str s) := ⟨.str s, .str s, by simp only [PyData.canLay0]; exact h.2, by simp [PyData.depth], fun t e => by injection e with e; rw [← e]; exact Nat.le_trans h.1 (by decide)⟩
theorem gi_all {K : PySem.W.Frag} {H : Hp} {xs : List V} (g : ∀ x ∈ xs, GI K H x) : ∃ ds, DpAll K H xs ds ∧ ds.length = xs.length ∧ (∀ d ∈ ds, d.canLay0 = true ∧ d.depth ≤ 3) ∧ ∀ s, PyData.str s ∈ ds → s.length ≤ 1000 := by
  induction xs with
  | nil => exact ⟨[], .nil, rfl, (fun d h => by cases h), fun d h => by cases h⟩
  | cons y r ih =>
    obtain ⟨ds, i1, i2, i3, i4⟩ := ih fun x hx => g x (List.mem_cons_of_mem _ hx)
    obtain ⟨d, a, b, c, e⟩ := g y List.mem_cons_self
    refine ⟨d :: ds, .cons a i1, by simp [i2], fun x hx => ?_, fun s hs => ?_⟩
    · rcases List.mem_cons.mp hx with rfl | q
      · exact ⟨b, c⟩
      · exact i3 x q
    · rcases List.mem_cons.mp hs with q | q
      · exact e s q.symm
      · exact i4 s q
/-- a tuple or a list of items -/
def SeqC (H : Hp) (c : Addr) (xs : List V) : Prop := H c = some (.tup xs) ∨ H c = some (.lst xs)
theorem SeqC.mono {H H' : Hp} {c : Addr} {xs : List V} (h : SeqC H c xs) (s : Same H H') : SeqC H' c xs := h.imp (s _ _) (s _ _)
/-- what stands for a value of the law -/
def ValC (K : PySem.W.Frag) (H : Hp) (v : V) : Prop := ∃ o, VD K H v o ∧ fewO o
theorem ValC.mono {K : PySem.W.Frag} {H H' : Hp} {v : V} (h : ValC K H v) (s : Same H H') : ValC K H' v := by
  obtain ⟨o, h1, h2⟩ := h
  exact ⟨o, h1.mono s, h2⟩
theorem seq_val {K : PySem.W.Frag} {H : Hp} {c : Addr} {xs : List V} (h : SeqC H c xs) (g : ∀ x ∈ xs, GI K H x) (few : xs.length ≤ 100) : ValC K H (.ref c) := by
  obtain ⟨ds, i1, i2, i3, i4⟩ := gi_all g
  rcases h with h | h
  · refine ⟨some (.tuple ds), .dat (.tup (SqT.of h) i1) (shaped_iff.mpr ⟨?_, ?_⟩) (fun _ e => nomatch e), fun es e => ?_⟩
    · simp only [PyData.canLay0]
      exact canAll_mem.mpr fun d hd => (i3 d hd).1
    · have := depthAll_le fun d hd => (i3 d hd).2
      simp only [PyData.depth]
      omega
    · injection e with e
      injection e with e
      rw [← e]
      exact ⟨by omega, i4⟩
  · exact ⟨some (.list ds), .dat (.lst (SqL.of h) i1) (shaped_list (n := 3) (by decide) i3) (fun _ e => nomatch e), fun es e => by cases e⟩
theorem less_ok {G G1 H' : Hp} {p l : Addr} {n : Nat} (s : Same G G1) (b : BoxIn G1 H' p n) (h : G l = none) : Same G (but G1 l) ∧ BoxIn (but G1 l) H' p n := by
  refine ⟨fun x u e => ?_, ⟨fun x u e => ?_, ?_, b.box⟩⟩
  · rw [but_ne (ne_of_none e h)]
    exact s _ _ e
  · by_cases hx : x = l
    · rw [hx, but_same] at e
      cases e
    · rw [but_ne hx] at e
      exact b.same _ _ e
  · by_cases hx : p = l
    · rw [hx, but_same]
    · rw [but_ne hx]
      exact b.free
theorem ixN_nat {n : Nat} {z : Int} (h0 : 0 ≤ z) (h1 : z < n) : ixN n z = some z.toNat := by
  unfold ixN
  rw [if_pos h0, if_pos (by omega)]
theorem last_at {ys : List V} (h : ys ≠ []) : atI ys (-1) = some (ys.getLast h) := by
  have l : 0 < ys.length := List.length_pos_iff.mpr h
  unfold atI ixN
  have e : ((-1 : Int) + (ys.length : Int)).toNat = ys.length - 1 := by omega
  rw [if_neg (by decide), if_pos (by omega)]
  show ys[((-1 : Int) + (ys.length : Int)).toNat]? = _
  rw [e, ← List.getLast?_eq_getElem?, List.getLast?_eq_getLast h]
theorem gi_two {K : PySem.W.Frag} {H : Hp} {t : Addr} {a b : Int} (h : H t = some (.tup [.int a, .int b]) ∨ H t = some (.lst [.int a, .int b])) : GI K H (.ref t) := by
  have i : DpAll K H [.int a, .int b] [.int a, .int b] := .cons (.int a) (.cons (.int b) .nil)
  rcases h with h | h
  · exact ⟨.tuple [.int a, .int b], .tup (SqT.of h) i, rfl, by simp [PyData.depth, PyData.depthAll], fun _ e => nomatch e⟩
  · exact ⟨.list [.int a, .int b], .lst (SqL.of h) i, rfl, by simp [PyData.depth, PyData.depthAll], fun _ e => nomatch e⟩
theorem gi_non {K : PySem.W.Frag} {H : Hp} {t : Addr} {b : Int} (h : H t = some (.tup [.non, .int b])) : GI K H (.ref t) :=
  ⟨.tuple [.none, .int b], .tup (SqT.of h) (.cons .non (.cons (.int b) .nil)), rfl, by simp [PyData.depth, PyData.depthAll], fun _ e => nomatch e⟩
theorem gi_one {K : PySem.W.Frag} {H : Hp} {t : Addr} (h : H t = some (.tup [.str "a"])) : GI K H (.ref t) :=
  ⟨.tuple [.str "a"], .tup (SqT.of h) (.cons (.str _) .nil), by decide +kernel, by decide +kernel, fun _ e => nomatch e⟩
theorem its_one {K : PySem.W.Frag} {H : Hp} : ∀ {xs : List V} {ds : List PyData}, DpAll K H xs ds → xs.length = 1 → ∃ x d, xs = [x] ∧ ds = [d]
  | [x], [d], .cons _ .nil, _ => ⟨x, d, rfl, rfl⟩
theorem its_two {K : PySem.W.Frag} {H : Hp} : ∀ {xs : List V} {ds : List PyData}, DpAll K H xs ds → xs.length = 2 → ∃ x y d e, xs = [x, y] ∧ ds = [d, e]
  | [x, y], [d, e], .cons _ (.cons _ .nil), _ => ⟨x, y, d, e, rfl, rfl⟩
theorem its_three {K : PySem.W.Frag} {H : Hp} : ∀ {xs : List V} {ds : List PyData}, DpAll K H xs ds → xs.length = 3 → ∃ x y z d e f, xs = [x, y, z] ∧ ds = [d, e, f]
  | [x, y, z], [d, e, f], .cons _ (.cons _ (.cons _ .nil)), _ => ⟨x, y, z, d, e, f, rfl, rfl⟩
theorem its_four {K : PySem.W.Frag} {H : Hp} : ∀ {xs : List V} {ds : List PyData}, DpAll K H xs ds → xs.length = 4 → ∃ x y z u d e f g, xs = [x, y, z, u] ∧ ds = [d, e, f, g]
  | [x, y, z, u], [d, e, f, g], .cons _ (.cons _ (.cons _ (.cons _ .nil))), _ => ⟨x, y, z, u, d, e, f, g, rfl, rfl⟩
theorem take_no {ds : List PyData} (h : ds.length ≠ 1) : takeD ds = false := by
  match ds, h with
  | [], _ => rfl
  | [_], h => exact absurd rfl h
  | _ :: _ :: _, _ => rfl
theorem hang_no {ds : List PyData} (h : ds.length ≠ 2) : hangD ds = false := by
  match ds, h with
  | [], _ => rfl
  | [_], _ => rfl
  | [_, _], h => exact absurd rfl h
  | _ :: _ :: _ :: _, _ => rfl
theorem join_no {ds : List PyData} (h : ds.length ≠ 3) : joinD ds = false := by
  match ds, h with
  | [], _ => rfl
  | [_], _ => rfl
  | [_, _], _ => rfl
  | [_, _, _], h => exact absurd rfl h
  | _ :: _ :: _ :: _ :: _, _ => rfl
theorem split_no {ds : List PyData} (h : ds.length ≠ 4) : splitD ds = false := by
  match ds, h with
  | [], _ => rfl
  | [_], _ => rfl
  | [_, _], _ => rfl
  | [_, _, _], _ => rfl
  | [_, _, _, _], h => exact absurd rfl h
  | _ :: _ :: _ :: _ :: _ :: _, _ => rfl
theorem dp_cases {K : PySem.W.Frag} {H : Hp} {xs : List V} {ds : List PyData} (h : DpAll K H xs ds) : (xs = [] ∧ ds = []) ∨ ∃ x r d e, xs = x :: r ∧ ds = d :: e := by
  cases h with
  | nil => exact .inl ⟨rfl, rfl⟩
  | cons a b => exact .inr ⟨_, _, _, _, rfl, rfl⟩
theorem lenF {n : Nat} {m : Int} (h : (n : Int) ≠ m) : decide (V.int (n : Int) = V.int m) = false := decide_eq_false fun z => by
  injection z with z
  exact h z
theorem lenT {n : Nat} {m : Int} (h : (n : Int) = m) : decide (V.int (n : Int) = V.int m) = true := by
  rw [h]
  exact decide_eq_true rfl
theorem chD_hang {d : PyData} {e : List PyData} (h : isS d "hang" = true) : chD (d :: e) = hangD e := if_pos h
theorem chD_take {d : PyData} {e : List PyData} (h0 : isS d "hang" = false) (h : isS d "take" = true) : chD (d :: e) = takeD e := by
  show (if _ then _ else _) = _
  rw [if_neg (by rw [h0]; decide), if_pos h]
theorem chD_split {d : PyData} {e : List PyData} (h0 : isS d "hang" = false) (h1 : isS d "take" = false) (h : isS d "split" = true) : chD (d :: e) = splitD e := by
  show (if _ then _ else _) = _
  rw [if_neg (by rw [h0]; decide), if_neg (by rw [h1]; decide), if_pos h]
theorem chD_join {d : PyData} {e : List PyData} (h0 : isS d "hang" = false) (h1 : isS d "take" = false) (h2 : isS d "split" = false) : chD (d :: e) = (isS d "join" && joinD e) := by
  show (if _ then _ else _) = _
  rw [if_neg (by rw [h0]; decide), if_neg (by rw [h1]; decide), if_neg (by rw [h2]; decide)]
theorem name_v {K : PySem.W.Frag} {H : Hp} {x : V} {d : PyData} (h : Dp K H x d) (e : nameO (some d) = true) : ∃ n, d = .str n ∧ x = .str n := by
  obtain ⟨n, rfl⟩ := nameO_str e
  cases h
  exact ⟨n, rfl, rfl⟩
theorem diff_names {ds : List PyData} (h : diffN ds = true) : ∀ d ∈ ds, nameO (some d) = true := by
  unfold diffN at h
  rw [Bool.and_eq_true] at h
  exact List.all_eq_true.mp h.1
theorem roles_fin {H H2 H3 : Hp} {Q : VK} {ls : List Str × List Str} (k : Roles H Q ls) (s : Same H H2) {p l1 l2 : Addr} (s3 : Same H2 H3) (h1 : H3 l1 = some (.lst (ls.1.map V.str))) (h2 : H3 l2 = some (.lst (ls.2.map V.str))) (hp : H3 p = none) (n1 : H l1 = none) (n2 : H l2 = none) :
    Q (.ref p) (upd H3 p (.tup [.ref l1, .ref l2])) := k p l1 l2 _ (s.trans (s3.trans (same_new hp))) ((s.trans s3).free hp) n1 n2 upd_same (same_new hp _ _ h1) (same_new hp _ _ h2)
theorem roleD_hang {d : PyData} {e : List PyData} (h : isS d "hang" = true) : roleD (d :: e) = ([], strsOf (e.take 1)) := if_pos h
theorem roleD_take {d : PyData} {e : List PyData} (h0 : isS d "hang" = false) (h : isS d "take" = true) : roleD (d :: e) = (strsOf e, []) := by
  show (if _ then _ else _) = _
  rw [if_neg (by rw [h0]; decide), if_pos h]
theorem roleD_split {d : PyData} {e : List PyData} (h0 : isS d "hang" = false) (h1 : isS d "take" = false) (h : isS d "split" = true) : roleD (d :: e) = (strsOf (e.take 1), strsOf (e.drop 2)) := by
  show (if _ then _ else _) = _
  rw [if_neg (by rw [h0]; decide), if_neg (by rw [h1]; decide), if_pos h]
theorem roleD_join {d : PyData} {e : List PyData} (h0 : isS d "hang" = false) (h1 : isS d "take" = false) (h2 : isS d "split" = false) : roleD (d :: e) = (strsOf (e.take 2), strsOf (e.drop 2)) := by
  show (if _ then _ else _) = _
  rw [if_neg (by rw [h0]; decide), if_neg (by rw [h1]; decide), if_neg (by rw [h2]; decide)]
/-- the items of a change, by its kind -/
theorem hang_is {K : PySem.W.Frag} {H : Hp} {xs : List V} {ds : List PyData} (D : DpAll K H xs ds) (h : hangD ds = true) : ∃ n x1 d1, xs = [.str n, x1] ∧ ds = [.str n, d1] := by
  by_cases l : xs.length = 2
  · obtain ⟨x0, x1, d0, d1, rfl, rfl⟩ := its_two D l
    have h : (nameO (some d0) && spanO (some d1)) = true := h
    rw [Bool.and_eq_true] at h
    cases D with
    | cons a b =>
      obtain ⟨n, rfl, rfl⟩ := name_v a h.1
      exact ⟨n, x1, d1, rfl, rfl⟩
  · rw [hang_no (by rw [← dpAll_len D]; exact l)] at h
    cases h
theorem take_is {K : PySem.W.Frag} {H : Hp} {xs : List V} {ds : List PyData} (D : DpAll K H xs ds) (h : takeD ds = true) : ∃ n, xs = [.str n] ∧ ds = [.str n] := by
  by_cases l : xs.length = 1
  · obtain ⟨x0, d0, rfl, rfl⟩ := its_one D l
    cases D with
    | cons a b =>
      obtain ⟨n, rfl, rfl⟩ := name_v a h
      exact ⟨n, rfl, rfl⟩
  · rw [take_no (by rw [← dpAll_len D]; exact l)] at h
    cases h
theorem split_is {K : PySem.W.Frag} {H : Hp} {xs : List V} {ds : List PyData} (D : DpAll K H xs ds) (h : splitD ds = true) : ∃ n x1 d1 l r, xs = [.str n, x1, .str l, .str r] ∧ ds = [.str n, d1, .str l, .str r] := by
  by_cases l : xs.length = 4
  · obtain ⟨x0, x1, x2, x3, d0, d1, d2, d3, rfl, rfl⟩ := its_four D l
    have h : (intO (some d1) && diffN [d0, d2, d3]) = true := h
    rw [Bool.and_eq_true] at h
    have n := diff_names h.2
    cases D with
    | cons a b =>
      cases b with
      | cons b c =>
        cases c with
        | cons c d =>
          cases d with
          | cons d e =>
            obtain ⟨n0, rfl, rfl⟩ := name_v a (n _ (by simp))
            obtain ⟨n2, rfl, rfl⟩ := name_v c (n _ (by simp))
            obtain ⟨n3, rfl, rfl⟩ := name_v d (n _ (by simp))
            exact ⟨n0, x1, d1, n2, n3, rfl, rfl⟩
  · rw [split_no (by rw [← dpAll_len D]; exact l)] at h
    cases h
theorem join_is {K : PySem.W.Frag} {H : Hp} {xs : List V} {ds : List PyData} (D : DpAll K H xs ds) (h : joinD ds = true) : ∃ l r n, xs = [.str l, .str r, .str n] ∧ ds = [.str l, .str r, .str n] := by
  by_cases l : xs.length = 3
  · obtain ⟨x0, x1, x2, d0, d1, d2, rfl, rfl⟩ := its_three D l
    have n := diff_names (show diffN [d0, d1, d2] = true from h)
    cases D with
    | cons a b =>
      cases b with
      | cons b c =>
        cases c with
        | cons c d =>
          obtain ⟨n0, rfl, rfl⟩ := name_v a (n _ (by simp))
          obtain ⟨n1, rfl, rfl⟩ := name_v b (n _ (by simp))
          obtain ⟨n2, rfl, rfl⟩ := name_v c (n _ (by simp))
          exact ⟨n0, n1, n2, rfl, rfl⟩
  · rw [join_no (by rw [← dpAll_len D]; exact l)] at h
    cases h
theorem eqv_nilT (ds : List PyData) : PyData.eqv (.tuple ds) (.tuple []) = ds.isEmpty := by
  cases ds with
  | nil => simp [PyData.eqv, PyData.eqvAll]
  | cons d r => simp [PyData.eqv, PyData.eqvAll]
theorem eqv_sym (s : Str) (d : PyData) : PyData.eqv (.str s) d = isS d s := by
  cases d with
  | str t =>
    rw [isS_str]
    simp [PyData.eqv]
    rw [Bool.eq_iff_iff, beq_iff_eq, beq_iff_eq]
    exact ⟨fun e => e.symm, fun e => e.symm⟩
  | _ => simp [isS, PyData.eqv]
theorem any4 (d : PyData) : (([.str "hang", .str "take", .str "split", .str "join"] : List PyData).any fun z => PyData.eqv z d) = (isS d "hang" || (isS d "take" || (isS d "split" || isS d "join"))) := by
  simp only [List.any_cons, List.any_nil, eqv_sym, Bool.or_false]
def metI (xs : List Str) (j : Nat) : Bool := met xs j (xs.getD j Str.empty)
theorem met_empty (xs : List Str) : ((List.range xs.length).filter (metI xs)).isEmpty = decide (metN xs xs.length = xs.length) := by
  rw [Bool.eq_iff_iff, List.isEmpty_iff, decide_eq_true_iff, List.filter_eq_nil_iff]
  unfold metN metI
  have h : ((List.range xs.length).filter fun j => !met xs j (xs.getD j Str.empty)).length = xs.length ↔ ∀ j ∈ List.range xs.length, (!met xs j (xs.getD j Str.empty)) = true := by
    have := List.length_filter_eq_length_iff (p := fun j => !met xs j (xs.getD j Str.empty)) (l := List.range xs.length)
    rw [List.length_range] at this
    exact this
  rw [h]
  exact ⟨fun q j hj => by simpa using q j hj, fun q j hj => by simpa using q j hj⟩
theorem met_in (xs : List Str) (j : Nat) (k : Str) : decide (k ∈ xs.take j) = met xs j k := by
  unfold met
  rw [Bool.eq_iff_iff, decide_eq_true_iff, List.any_eq_true]
  exact ⟨fun h => ⟨k, h, by simp⟩, fun ⟨y, hy, e⟩ => by
    rw [beq_iff_eq] at e
    rw [← e]
    exact hy⟩
theorem none4 {d : PyData} {e : List PyData} (h : (isS d "hang" || (isS d "take" || (isS d "split" || isS d "join"))) = false) : chD (d :: e) = false := by
  rw [Bool.or_eq_false_iff, Bool.or_eq_false_iff, Bool.or_eq_false_iff] at h
  rw [chD_join h.1 h.2.1 h.2.2.1, h.2.2.2]
  rfl
theorem one4 {d : PyData} (h : (isS d "hang" || (isS d "take" || (isS d "split" || isS d "join"))) = true) : d = .str "hang" ∨ d = .str "take" ∨ d = .str "split" ∨ d = .str "join" := by
  rw [Bool.or_eq_true, Bool.or_eq_true, Bool.or_eq_true] at h
  exact h.imp isS_of fun h => h.imp isS_of fun h => h.imp isS_of isS_of
def kinds4 : List (Key × V) := [(.inr "hang", .int 2), (.inr "take", .int 1), (.inr "split", .int 4), (.inr "join", .int 3)]
def cntW (w : Str) : Int := if w = "hang" then 2 else if w = "take" then 1 else if w = "split" then 4 else 3
theorem kinds4_at : ∀ w ∈ (["hang", "take", "split", "join"] : List Str), valV (mergeK [] kinds4) (.inr w) = some (.int (cntW w)) := by
  intro w hw
  simp only [List.mem_cons, List.not_mem_nil, or_false] at hw
  rcases hw with rfl | rfl | rfl | rfl
  all_goals decide +kernel
theorem sh4 : ∀ w ∈ (["hang", "take", "split", "join"] : List Str), SeqAt.shaped (.str w) = true := by decide +kernel
theorem chD_len : ∀ {w : Str} {es : List PyData}, w ∈ (["hang", "take", "split", "join"] : List Str) → ((es.length : Nat) : Int) ≠ cntW w → chD (.str w :: es) = false := by
  intro w es hw h
  simp only [List.mem_cons, List.not_mem_nil, or_false] at hw
  rcases hw with rfl | rfl | rfl | rfl
  · rw [chD_hang (by decide +kernel), hang_no (fun e => h (by rw [e]; decide +kernel))]
  · rw [chD_take (by decide +kernel) (by decide +kernel), take_no (fun e => h (by rw [e]; decide +kernel))]
  · rw [chD_split (by decide +kernel) (by decide +kernel) (by decide +kernel), split_no (fun e => h (by rw [e]; decide +kernel))]
  · rw [chD_join (by decide +kernel) (by decide +kernel) (by decide +kernel), join_no (fun e => h (by rw [e]; decide +kernel)), Bool.and_false]
theorem chw_hang (es : List PyData) : chD (.str "hang" :: es) = hangD es := chD_hang (by decide +kernel)
theorem chw_take (es : List PyData) : chD (.str "take" :: es) = takeD es := chD_take (by decide +kernel) (by decide +kernel)
theorem chw_split (es : List PyData) : chD (.str "split" :: es) = splitD es := chD_split (by decide +kernel) (by decide +kernel) (by decide +kernel)
theorem chw_join (es : List PyData) : chD (.str "join" :: es) = joinD es := by
  rw [chD_join (by decide +kernel) (by decide +kernel) (by decide +kernel), show isS (.str "join") "join" = true by decide +kernel]
  rfl
theorem diff_one (d : PyData) : diffN [d] = nameO (some d) := by
  unfold diffN
  simp [metN, met]
theorem not_lim {d : PyData} (h : nonO (some d) = true) : intO (some d) = false := by
  cases d <;> first | rfl | cases h
theorem lim_int {d : PyData} (h : nonO (some d) = false) : limO (some d) = intO (some d) := by
  unfold limO
  rw [h]
  rfl
theorem eqv_strs (a b : Str) : PyData.eqv (.str a) (.str b) = (a == b) := isS_str a b
def sp_right11 (K : PySem.W.Frag) : Sp := fun vs H Q _ => ∃ (H0 : Hp) (p q : Addr) (n : Nat) (ss : List Str), vs = [.ref p, .ref q] ∧ BoxIn H0 H p n ∧ H0 q = some (.lst (ss.map V.str)) ∧ ss.length = 3 ∧ (∀ s ∈ ss, sOk 16 s) ∧ n + 2 < 1000000 ∧
  ∀ (H1 H' : Hp) (t : Addr) (xs : List V), Same H0 H1 → BoxIn H1 H' p (n + 2) → H1 t = some (.tup xs) → 0 < xs.length → xs.length ≤ 5 → (∀ x ∈ xs, GI K H1 x) → Q (.ref t) H'
def sp_bent11 (K : PySem.W.Frag) : Sp := fun vs H Q _ => ∃ (H0 : Hp) (p c : Addr) (n : Nat) (xs : List V), vs = [.ref p, .ref c] ∧ BoxIn H0 H p n ∧ SeqC H0 c xs ∧ 0 < xs.length ∧ xs.length ≤ 40 ∧ (∀ x ∈ xs, GI K H0 x) ∧ n + 10 < 1000000 ∧
  ∀ (H1 H' : Hp) (c' : Addr) (xs' : List V), Same H0 H1 → BoxIn H1 H' p (n + 10) → SeqC H1 c' xs' → xs'.length ≤ xs.length + 1 → (∀ x ∈ xs', GI K H1 x) → Q (.ref c') H'
/-- two lists of the same objects, or data -/
def rNeU (K : PySem.W.Frag) : R2 := fun x y H Q => rNeS K x y H Q ∨ rNeD K x y H Q
theorem op_neU {X : Cx} (hu : X.A.units + 64 < cLine) : OpR X (compareOp .NotEq) (rNeU X.K) := fun pins s σ H x y v u Q I rx ry h => h.elim (op_neS hu pins s σ H x y v u Q I rx ry) (op_neD hu pins s σ H x y v u Q I rx ry)
/-- two lists of texts as data -/
def rolesT (ls : List Str × List Str) : PyData := .tuple [.list (ls.1.map PyData.str), .list (ls.2.map PyData.str)]
theorem or_one {K : PySem.W.Frag} {σ : L2.St} {Q : V → Hp → Prop} {c : Bool} {x : V} {H : Hp} (Good : V → Hp → Prop) (rest : ∀ x H, Good x H → Q x H) (h1 : c = true → Good x H) (h2 : c = false → ∀ t, H t = none → Good (.ref t) (upd H t (.tup [.int 1]))) :
    if c = true then Q x H else tTup (tCons (tC (V.int 1)) tNil) σ H Q := by
  cases c with
  | true => exact iteT (rest _ _ (h1 rfl))
  | false => exact iteF ⟨by show 1 ≤ sizeLine; decide, fun t ht => rest _ _ (h2 rfl t ht)⟩
theorem vd_sure {K : PySem.W.Frag} {H : Hp} {v : V} {o : Option PyData} (h : VD K H v o) : sureV v = true := by
  cases h with
  | dat a _ _ => cases a <;> rfl
  | dic a => rfl
theorem role_hang (n : Str) (d : PyData) : roleD [.str "hang", .str n, d] = ([], [n]) := roleD_hang (by decide +kernel)
theorem role_take (n : Str) : roleD [.str "take", .str n] = ([n], []) := roleD_take (by decide +kernel) (by decide +kernel)
theorem role_split (n l r : Str) (d : PyData) : roleD [.str "split", .str n, d, .str l, .str r] = ([n], [l, r]) := roleD_split (by decide +kernel) (by decide +kernel) (by decide +kernel)
theorem role_join (n l r : Str) : roleD [.str "join", .str l, .str r, .str n] = ([l, r], [n]) := roleD_join (by decide +kernel) (by decide +kernel) (by decide +kernel)
theorem ch_cases {K : PySem.W.Frag} {H : Hp} {xs : List V} {ds : List PyData} (D : DpAll K H xs ds) (h : chD ds = true) : (∃ n x1 d1, xs = [.str "hang", .str n, x1] ∧ ds = [.str "hang", .str n, d1]) ∨ (∃ n, xs = [.str "take", .str n] ∧ ds = [.str "take", .str n]) ∨
    (∃ n x1 d1 l r, xs = [.str "split", .str n, x1, .str l, .str r] ∧ ds = [.str "split", .str n, d1, .str l, .str r]) ∨ ∃ l r n, xs = [.str "join", .str l, .str r, .str n] ∧ ds = [.str "join", .str l, .str r, .str n] := by
  obtain ⟨rfl, rfl⟩ | ⟨x, r, d, es, rfl, rfl⟩ := dp_cases D
  · cases h
  · obtain ⟨a, b⟩ : Dp K H x d ∧ DpAll K H r es := by
      cases D with
      | cons a b => exact ⟨a, b⟩
    clear D
    cases c0 : (isS d "hang" || (isS d "take" || (isS d "split" || isS d "join"))) with
    | false =>
      rw [none4 c0] at h
      cases h
    | true =>
      rcases one4 c0 with rfl | rfl | rfl | rfl
      all_goals cases a
      · rw [chw_hang] at h
        obtain ⟨n, x1, d1, rfl, rfl⟩ := hang_is b h
        exact .inl ⟨n, x1, d1, rfl, rfl⟩
      · rw [chw_take] at h
        obtain ⟨n, rfl, rfl⟩ := take_is b h
        exact .inr (.inl ⟨n, rfl, rfl⟩)
      · rw [chw_split] at h
        obtain ⟨n, x1, d1, l, r, rfl, rfl⟩ := split_is b h
        exact .inr (.inr (.inl ⟨n, x1, d1, l, r, rfl, rfl⟩))
      · rw [chw_join] at h
        obtain ⟨l, r, n, rfl, rfl⟩ := join_is b h
        exact .inr (.inr (.inr ⟨l, r, n, rfl, rfl⟩))
/-- two lists of texts as data -/
def twoD (ls : List Str × List Str) : PyData := .tuple [.list (ls.1.map PyData.str), .list (ls.2.map PyData.str)]
theorem dp_two_l {K : PySem.W.Frag} {H : Hp} {p l1 l2 : Addr} {ls : List Str × List Str} (hp : H p = some (.tup [.ref l1, .ref l2])) (h1 : H l1 = some (.lst (ls.1.map V.str))) (h2 : H l2 = some (.lst (ls.2.map V.str))) : Dp K H (.ref p) (twoD ls) :=
  .tup (SqT.of hp) (.cons (.lst (SqL.of h1) (dpAll_strs _)) (.cons (.lst (SqL.of h2) (dpAll_strs _)) .nil))
theorem strs_can {ss : List Str} (h : ∀ s ∈ ss, PyData.strOk s = true) : (PyData.list (ss.map PyData.str)).canLay0 = true ∧ (PyData.list (ss.map PyData.str)).depth ≤ 1 := by
  constructor
  · simp only [PyData.canLay0]
    refine canAll_mem.mpr fun d hd => ?_
    obtain ⟨s, hs, rfl⟩ := List.mem_map.mp hd
    simp only [PyData.canLay0]
    exact h s hs
  · have : PyData.depthAll (ss.map PyData.str) ≤ 0 := depthAll_le fun d hd => by
      obtain ⟨s, hs, rfl⟩ := List.mem_map.mp hd
      simp [PyData.depth]
    simp only [PyData.depth]
    omega
theorem two_can {ls : List Str × List Str} (h1 : ∀ s ∈ ls.1, PyData.strOk s = true) (h2 : ∀ s ∈ ls.2, PyData.strOk s = true) : (twoD ls).canLay0 = true ∧ (twoD ls).depth ≤ 2 := by
  have a := strs_can h1
  have b := strs_can h2
  constructor
  · simp only [twoD, PyData.canLay0]
    refine canAll_mem.mpr fun d hd => ?_
    simp only [List.mem_cons, List.not_mem_nil, or_false] at hd
    rcases hd with rfl | rfl
    · exact a.1
    · exact b.1
  · have : PyData.depthAll [.list (ls.1.map PyData.str), .list (ls.2.map PyData.str)] ≤ 1 := depthAll_le fun d hd => by
      simp only [List.mem_cons, List.not_mem_nil, or_false] at hd
      rcases hd with rfl | rfl
      · exact a.2
      · exact b.2
    simp only [twoD, PyData.depth]
    omega
/-- the names that roles tell are texts that can be laid -/
theorem role_ok {K : PySem.W.Frag} {H : Hp} {xs : List V} {ds : List PyData} (D : DpAll K H xs ds) (h : chD ds = true) (sh : SeqAt.shaped (.tuple ds) = true) : (∀ s ∈ (roleD ds).1, PyData.strOk s = true) ∧ ∀ s ∈ (roleD ds).2, PyData.strOk s = true := by
  have key : ∀ s, PyData.str s ∈ ds → PyData.strOk s = true := fun s hs => by
    have := (shaped_of_tuple sh hs).1
    simpa only [PyData.canLay0] using this
  rcases ch_cases D h with ⟨n, x1, d1, rfl, rfl⟩ | ⟨n, rfl, rfl⟩ | ⟨n, x1, d1, l, r, rfl, rfl⟩ | ⟨l, r, n, rfl, rfl⟩
  · rw [role_hang]
    exact ⟨fun s h => (List.not_mem_nil h).elim, fun s h => by rw [List.mem_singleton.mp h]; exact key n (by simp)⟩
  · rw [role_take]
    exact ⟨fun s h => by rw [List.mem_singleton.mp h]; exact key n (by simp), fun s h => (List.not_mem_nil h).elim⟩
  · rw [role_split]
    refine ⟨fun s h => by rw [List.mem_singleton.mp h]; exact key n (by simp), fun s h => ?_⟩
    simp only [List.mem_cons, List.not_mem_nil, or_false] at h
    rcases h with rfl | rfl
    all_goals exact key _ (by simp)
  · rw [role_join]
    refine ⟨fun s h => ?_, fun s h => by rw [List.mem_singleton.mp h]; exact key n (by simp)⟩
    simp only [List.mem_cons, List.not_mem_nil, or_false] at h
    rcases h with rfl | rfl
    all_goals exact key _ (by simp)
theorem told_can {ls : List Str × List Str} (h : (twoD ls).canLay0 = true ∧ (twoD ls).depth ≤ 2) : SeqAt.shaped (.list [.str "told", twoD ls]) = true := shaped_list (n := 2) (by decide) fun d hd => by
  simp only [List.mem_cons, List.not_mem_nil, or_false] at hd
  rcases hd with rfl | rfl
  · exact ⟨by decide +kernel, by decide +kernel⟩
  · exact h
theorem role_len {K : PySem.W.Frag} {H : Hp} {xs : List V} {ds : List PyData} (D : DpAll K H xs ds) (h : chD ds = true) : (roleD ds).1.length ≤ 2 := by
  rcases ch_cases D h with ⟨n, x1, d1, rfl, rfl⟩ | ⟨n, rfl, rfl⟩ | ⟨n, x1, d1, l, r, rfl, rfl⟩ | ⟨l, r, n, rfl, rfl⟩
  · rw [role_hang]
    exact Nat.zero_le _
  · rw [role_take]
    exact Nat.le_succ 1
  · rw [role_split]
    exact Nat.le_succ 1
  · rw [role_join]
    exact Nat.le_refl 2
theorem few_no {o : Option PyData} (h : isT "tuple" o = false) : fewO o := fun ds e => by
  rw [e] at h
  cases h
theorem vc_non (K : PySem.W.Frag) (H : Hp) : ValC K H .non := ⟨some .none, .dat .non (by decide +kernel) (fun _ e => nomatch e), few_no rfl⟩
theorem vc_int (K : PySem.W.Frag) (H : Hp) (i : Int) : ValC K H (.int i) := ⟨some (.int i), .dat (.int i) (shaped_iff.mpr ⟨rfl, by simp [PyData.depth]⟩) (fun _ e => nomatch e), few_no rfl⟩
theorem vc_hang (K : PySem.W.Frag) (H : Hp) : ValC K H (.str "hang") := ⟨some (.str "hang"), .dat (.str _) (by decide +kernel) (fun s e => by cases e; decide +kernel), few_no rfl⟩
theorem vc_dic {K : PySem.W.Frag} {H : Hp} {t : Addr} (h : H t = some (.dK [])) : ValC K H (.ref t) := ⟨none, .dic h, few_no rfl⟩
theorem gi_seq1 {K : PySem.W.Frag} {H : Hp} {t : Addr} (h : H t = some (.tup [.str "take"])) : GI K H (.ref t) :=
  ⟨.tuple [.str "take"], .tup (SqT.of h) (.cons (.str _) .nil), by decide +kernel, by decide +kernel, fun _ e => nomatch e⟩
/-! base 5 -/
def kwg_changed_0_change_catalog {α : Type} : List α → List α → List α
  | [], [w0, w1] => [w1, w0]
  | _, _ => []
def gv_Catalog_init_2_rest : List V → List V → List V
  | [u0, u1], [w0] => [u0, u1, w0]
  | _, _ => []
/-- what the top has written -/
structure Txt (K : PySem.W.Frag) (mg : Str → Option Value) (base : Heap) where
  f_InvalidName_init : Addr
  fd_InvalidName_init : FuncData
  F_InvalidName_init : Fun K "__init__" "InvalidName.__init__" s_InvalidName_init f_InvalidName_init fd_InvalidName_init
  b_InvalidName_init : Binds K fd_InvalidName_init ["self", "value"] []
  f_InvalidSpan_init : Addr
  fd_InvalidSpan_init : FuncData
  F_InvalidSpan_init : Fun K "__init__" "InvalidSpan.__init__" s_InvalidSpan_init f_InvalidSpan_init fd_InvalidSpan_init
  b_InvalidSpan_init : Binds K fd_InvalidSpan_init ["self", "value"] []
  f_InvalidSpans_init : Addr
  fd_InvalidSpans_init : FuncData
  F_InvalidSpans_init : Fun K "__init__" "InvalidSpans.__init__" s_InvalidSpans_init f_InvalidSpans_init fd_InvalidSpans_init
  b_InvalidSpans_init : Binds K fd_InvalidSpans_init ["self", "value"] []
  f_InvalidCatalog_init : Addr
  fd_InvalidCatalog_init : FuncData
  F_InvalidCatalog_init : Fun K "__init__" "InvalidCatalog.__init__" s_InvalidCatalog_init f_InvalidCatalog_init fd_InvalidCatalog_init
  b_InvalidCatalog_init : Binds K fd_InvalidCatalog_init ["self", "value"] []
  f_InvalidChange_init : Addr
  fd_InvalidChange_init : FuncData
  F_InvalidChange_init : Fun K "__init__" "InvalidChange.__init__" s_InvalidChange_init f_InvalidChange_init fd_InvalidChange_init
  b_InvalidChange_init : Binds K fd_InvalidChange_init ["self", "value"] []
  f_UnknownPart_init : Addr
  fd_UnknownPart_init : FuncData
  F_UnknownPart_init : Fun K "__init__" "UnknownPart.__init__" s_UnknownPart_init f_UnknownPart_init fd_UnknownPart_init
  b_UnknownPart_init : Binds K fd_UnknownPart_init ["self", "name"] []
  f_NameTaken_init : Addr
  fd_NameTaken_init : FuncData
  F_NameTaken_init : Fun K "__init__" "NameTaken.__init__" s_NameTaken_init f_NameTaken_init fd_NameTaken_init
  b_NameTaken_init : Binds K fd_NameTaken_init ["self", "name"] []
  f_Overlap_init : Addr
  fd_Overlap_init : FuncData
  F_Overlap_init : Fun K "__init__" "Overlap.__init__" s_Overlap_init f_Overlap_init fd_Overlap_init
  b_Overlap_init : Binds K fd_Overlap_init ["self", "name"] []
  f_NotInside_init : Addr
  fd_NotInside_init : FuncData
  F_NotInside_init : Fun K "__init__" "NotInside.__init__" s_NotInside_init f_NotInside_init fd_NotInside_init
  b_NotInside_init : Binds K fd_NotInside_init ["self", "at"] []
  f_NotNeighbours_init : Addr
  fd_NotNeighbours_init : FuncData
  F_NotNeighbours_init : Fun K "__init__" "NotNeighbours.__init__" s_NotNeighbours_init f_NotNeighbours_init fd_NotNeighbours_init
  b_NotNeighbours_init : Binds K fd_NotNeighbours_init ["self", "name"] []
  f_TooMany_init : Addr
  fd_TooMany_init : FuncData
  F_TooMany_init : Fun K "__init__" "TooMany.__init__" s_TooMany_init f_TooMany_init fd_TooMany_init
  b_TooMany_init : Binds K fd_TooMany_init ["self", "bound"] []
  f_is_integer : Addr
  fd_is_integer : FuncData
  F_is_integer : Fun K "is_integer" "is_integer" s_is_integer f_is_integer fd_is_integer
  b_is_integer : Binds K fd_is_integer ["value"] []
  m_is_integer : mg "is_integer" = some (.ref f_is_integer)
  f_is_name : Addr
  fd_is_name : FuncData
  F_is_name : Fun K "is_name" "is_name" s_is_name f_is_name fd_is_name
  b_is_name : Binds K fd_is_name ["value"] []
  m_is_name : mg "is_name" = some (.ref f_is_name)
  f_is_span : Addr
  fd_is_span : FuncData
  F_is_span : Fun K "is_span" "is_span" s_is_span f_is_span fd_is_span
  b_is_span : Binds K fd_is_span ["value"] []
  m_is_span : mg "is_span" = some (.ref f_is_span)
  f_is_limit : Addr
  fd_is_limit : FuncData
  F_is_limit : Fun K "is_limit" "is_limit" s_is_limit f_is_limit fd_is_limit
  b_is_limit : Binds K fd_is_limit ["value"] []
  m_is_limit : mg "is_limit" = some (.ref f_is_limit)
  f_require_name : Addr
  fd_require_name : FuncData
  F_require_name : Fun K "require_name" "require_name" s_require_name f_require_name fd_require_name
  b_require_name : Binds K fd_require_name ["value"] []
  m_require_name : mg "require_name" = some (.ref f_require_name)
  f_require_span : Addr
  fd_require_span : FuncData
  F_require_span : Fun K "require_span" "require_span" s_require_span f_require_span fd_require_span
  b_require_span : Binds K fd_require_span ["value"] []
  m_require_span : mg "require_span" = some (.ref f_require_span)
  f_meet : Addr
  fd_meet : FuncData
  F_meet : Fun K "meet" "meet" s_meet f_meet fd_meet
  b_meet : Binds K fd_meet ["one", "other"] []
  m_meet : mg "meet" = some (.ref f_meet)
  f_common : Addr
  fd_common : FuncData
  F_common : Fun K "common" "common" s_common f_common fd_common
  b_common : Binds K fd_common ["one", "other"] []
  m_common : mg "common" = some (.ref f_common)
  f_Catalog_init : Addr
  fd_Catalog_init : FuncData
  F_Catalog_init : FunD K "__init__" "Catalog.__init__" (defArgs s_Catalog_init) (defBody s_Catalog_init) (defScope s_Catalog_init) [.non] [("rest", .non)] f_Catalog_init fd_Catalog_init
  gk_Catalog_init_2_rest : List Value → List Value → List Value
  kb_Catalog_init_2_rest : KBn K fd_Catalog_init ["self", "spans", "rest"] 2 ["rest"] gk_Catalog_init_2_rest gv_Catalog_init_2_rest
  f_Catalog_rest : Addr
  fd_Catalog_rest : FuncData
  F_Catalog_rest : Fun K "rest" "Catalog.rest" s_Catalog_rest f_Catalog_rest fd_Catalog_rest
  b_Catalog_rest : Binds K fd_Catalog_rest ["self"] []
  f_Catalog_names : Addr
  fd_Catalog_names : FuncData
  F_Catalog_names : Fun K "names" "Catalog.names" s_Catalog_names f_Catalog_names fd_Catalog_names
  b_Catalog_names : Binds K fd_Catalog_names ["self"] []
  f_Catalog_contains : Addr
  fd_Catalog_contains : FuncData
  F_Catalog_contains : Fun K "__contains__" "Catalog.__contains__" s_Catalog_contains f_Catalog_contains fd_Catalog_contains
  b_Catalog_contains : Binds K fd_Catalog_contains ["self", "x"] []
  f_Catalog_eq : Addr
  fd_Catalog_eq : FuncData
  F_Catalog_eq : Fun K "__eq__" "Catalog.__eq__" s_Catalog_eq f_Catalog_eq fd_Catalog_eq
  b_Catalog_eq : Binds K fd_Catalog_eq ["self", "other"] []
  f_Catalog_span : Addr
  fd_Catalog_span : FuncData
  F_Catalog_span : Fun K "span" "Catalog.span" s_Catalog_span f_Catalog_span fd_Catalog_span
  b_Catalog_span : Binds K fd_Catalog_span ["self", "name"] []
  f_require_spans : Addr
  fd_require_spans : FuncData
  F_require_spans : Fun K "require_spans" "require_spans" s_require_spans f_require_spans fd_require_spans
  b_require_spans : Binds K fd_require_spans ["spans"] []
  m_require_spans : mg "require_spans" = some (.ref f_require_spans)
  f_require_rest : Addr
  fd_require_rest : FuncData
  F_require_rest : Fun K "require_rest" "require_rest" s_require_rest f_require_rest fd_require_rest
  b_require_rest : Binds K fd_require_rest ["rest", "spans"] []
  m_require_rest : mg "require_rest" = some (.ref f_require_rest)
  f_ordered_spans : Addr
  fd_ordered_spans : FuncData
  F_ordered_spans : Fun K "ordered_spans" "ordered_spans" s_ordered_spans f_ordered_spans fd_ordered_spans
  b_ordered_spans : Binds K fd_ordered_spans ["spans"] []
  m_ordered_spans : mg "ordered_spans" = some (.ref f_ordered_spans)
  f_first_meeting : Addr
  fd_first_meeting : FuncData
  F_first_meeting : Fun K "first_meeting" "first_meeting" s_first_meeting f_first_meeting fd_first_meeting
  b_first_meeting : Binds K fd_first_meeting ["spans", "span"] []
  m_first_meeting : mg "first_meeting" = some (.ref f_first_meeting)
  f_all_stretches : Addr
  fd_all_stretches : FuncData
  F_all_stretches : Fun K "all_stretches" "all_stretches" s_all_stretches f_all_stretches fd_all_stretches
  b_all_stretches : Binds K fd_all_stretches ["spans", "rest"] []
  cc_all_stretches : Addr
  pt_all_stretches : Addr
  FC_all_stretches : FunC K "all_stretches" "all_stretches" s_all_stretches f_all_stretches fd_all_stretches cc_all_stretches
  tb_all_stretches : LamX.TabB base mg cc_all_stretches pt_all_stretches
  m_all_stretches : mg "all_stretches" = some (.ref f_all_stretches)
  f_low_place : Addr
  fd_low_place : FuncData
  F_low_place : Fun K "low_place" "low_place" s_low_place f_low_place fd_low_place
  b_low_place : Binds K fd_low_place ["span"] []
  m_low_place : mg "low_place" = some (.ref f_low_place)
  f_is_change : Addr
  fd_is_change : FuncData
  F_is_change : Fun K "is_change" "is_change" s_is_change f_is_change fd_is_change
  b_is_change : Binds K fd_is_change ["value"] []
  m_is_change : mg "is_change" = some (.ref f_is_change)
  f_are_different_names : Addr
  fd_are_different_names : FuncData
  F_are_different_names : Fun K "are_different_names" "are_different_names" s_are_different_names f_are_different_names fd_are_different_names
  b_are_different_names : Binds K fd_are_different_names ["values"] []
  m_are_different_names : mg "are_different_names" = some (.ref f_are_different_names)
  f_require_change : Addr
  fd_require_change : FuncData
  F_require_change : Fun K "require_change" "require_change" s_require_change f_require_change fd_require_change
  b_require_change : Binds K fd_require_change ["value"] []
  m_require_change : mg "require_change" = some (.ref f_require_change)
  f_require_catalog : Addr
  fd_require_catalog : FuncData
  F_require_catalog : Fun K "require_catalog" "require_catalog" s_require_catalog f_require_catalog fd_require_catalog
  b_require_catalog : Binds K fd_require_catalog ["value"] []
  m_require_catalog : mg "require_catalog" = some (.ref f_require_catalog)
  f_roles : Addr
  fd_roles : FuncData
  F_roles : Fun K "roles" "roles" s_roles f_roles fd_roles
  b_roles : Binds K fd_roles ["change"] []
  m_roles : mg "roles" = some (.ref f_roles)
  f_changed : Addr
  fd_changed : FuncData
  F_changed : Fun K "changed" "changed" s_changed f_changed fd_changed
  b_changed : Binds K fd_changed ["catalog", "change"] []
  m_changed : mg "changed" = some (.ref f_changed)
  f_spans_of : Addr
  fd_spans_of : FuncData
  F_spans_of : Fun K "spans_of" "spans_of" s_spans_of f_spans_of fd_spans_of
  b_spans_of : Binds K fd_spans_of ["catalog"] []
  m_spans_of : mg "spans_of" = some (.ref f_spans_of)
  f_new_spans : Addr
  fd_new_spans : FuncData
  F_new_spans : Fun K "new_spans" "new_spans" s_new_spans f_new_spans fd_new_spans
  b_new_spans : Binds K fd_new_spans ["spans", "change"] []
  m_new_spans : mg "new_spans" = some (.ref f_new_spans)
  f_split_spans : Addr
  fd_split_spans : FuncData
  F_split_spans : Fun K "split_spans" "split_spans" s_split_spans f_split_spans fd_split_spans
  b_split_spans : Binds K fd_split_spans ["spans", "name", "at", "left", "right"] []
  m_split_spans : mg "split_spans" = some (.ref f_split_spans)
  f_joined_spans : Addr
  fd_joined_spans : FuncData
  F_joined_spans : Fun K "joined_spans" "joined_spans" s_joined_spans f_joined_spans fd_joined_spans
  b_joined_spans : Binds K fd_joined_spans ["spans", "left", "right", "name"] []
  m_joined_spans : mg "joined_spans" = some (.ref f_joined_spans)
  f_fits : Addr
  fd_fits : FuncData
  F_fits : Fun K "fits" "fits" s_fits f_fits fd_fits
  b_fits : Binds K fd_fits ["catalog", "change"] []
  m_fits : mg "fits" = some (.ref f_fits)
  f_reverse : Addr
  fd_reverse : FuncData
  F_reverse : Fun K "reverse" "reverse" s_reverse f_reverse fd_reverse
  b_reverse : Binds K fd_reverse ["catalog", "change"] []
  m_reverse : mg "reverse" = some (.ref f_reverse)
  f_law_cell : Addr
  fd_law_cell : FuncData
  F_law_cell : Fun K "_law_cell" "_law_cell" s_law_cell f_law_cell fd_law_cell
  b_law_cell : Binds K fd_law_cell ["_law_script", "_law_k"] []
  m_law_cell : mg "_law_cell" = some (.ref f_law_cell)
  f_law_box : Addr
  fd_law_box : FuncData
  F_law_box : Fun K "_law_box" "_law_box" s_law_box f_law_box fd_law_box
  b_law_box : Binds K fd_law_box ["_law_cell_here"] []
  m_law_box : mg "_law_box" = some (.ref f_law_box)
  f_law_take : Addr
  fd_law_take : FuncData
  F_law_take : Fun K "_law_take" "_law_take" s_law_take f_law_take fd_law_take
  b_law_take : Binds K fd_law_take ["_law_box_here", "_law_many"] []
  m_law_take : mg "_law_take" = some (.ref f_law_take)
  f_law_mixed : Addr
  fd_law_mixed : FuncData
  F_law_mixed : Fun K "_law_mixed" "_law_mixed" s_law_mixed f_law_mixed fd_law_mixed
  b_law_mixed : Binds K fd_law_mixed ["_law_box_here", "_law_some"] []
  m_law_mixed : mg "_law_mixed" = some (.ref f_law_mixed)
  f_law_names : Addr
  fd_law_names : FuncData
  F_law_names : Fun K "_law_names" "_law_names" s_law_names f_law_names fd_law_names
  b_law_names : Binds K fd_law_names ["_law_box_here", "_law_many"] []
  m_law_names : mg "_law_names" = some (.ref f_law_names)
  f_law_model : Addr
  fd_law_model : FuncData
  F_law_model : Fun K "_law_model" "_law_model" s_law_model f_law_model fd_law_model
  b_law_model : Binds K fd_law_model ["_law_box_here", "_law_most"] []
  m_law_model : mg "_law_model" = some (.ref f_law_model)
  f_law_catalog : Addr
  fd_law_catalog : FuncData
  F_law_catalog : Fun K "_law_catalog" "_law_catalog" s_law_catalog f_law_catalog fd_law_catalog
  b_law_catalog : Binds K fd_law_catalog ["_law_box_here", "_law_model_here"] []
  m_law_catalog : mg "_law_catalog" = some (.ref f_law_catalog)
  f_law_all_names : Addr
  fd_law_all_names : FuncData
  F_law_all_names : Fun K "_law_all_names" "_law_all_names" s_law_all_names f_law_all_names fd_law_all_names
  b_law_all_names : Binds K fd_law_all_names ["_law_model_here"] []
  m_law_all_names : mg "_law_all_names" = some (.ref f_law_all_names)
  f_law_meet : Addr
  fd_law_meet : FuncData
  F_law_meet : Fun K "_law_meet" "_law_meet" s_law_meet f_law_meet fd_law_meet
  b_law_meet : Binds K fd_law_meet ["_law_one", "_law_other"] []
  m_law_meet : mg "_law_meet" = some (.ref f_law_meet)
  f_law_span_of : Addr
  fd_law_span_of : FuncData
  F_law_span_of : Fun K "_law_span_of" "_law_span_of" s_law_span_of f_law_span_of fd_law_span_of
  b_law_span_of : Binds K fd_law_span_of ["_law_model_here", "_law_name"] []
  m_law_span_of : mg "_law_span_of" = some (.ref f_law_span_of)
  f_law_after : Addr
  fd_law_after : FuncData
  F_law_after : Fun K "_law_after" "_law_after" s_law_after f_law_after fd_law_after
  b_law_after : Binds K fd_law_after ["_law_model_here", "_law_deed"] []
  m_law_after : mg "_law_after" = some (.ref f_law_after)
  f_law_limits : Addr
  fd_law_limits : FuncData
  F_law_limits : Fun K "_law_limits" "_law_limits" s_law_limits f_law_limits fd_law_limits
  b_law_limits : Binds K fd_law_limits ["_law_model_here"] []
  m_law_limits : mg "_law_limits" = some (.ref f_law_limits)
  f_law_spare : Addr
  fd_law_spare : FuncData
  F_law_spare : Fun K "_law_spare" "_law_spare" s_law_spare f_law_spare fd_law_spare
  b_law_spare : Binds K fd_law_spare ["_law_box_here", "_law_model_here"] []
  m_law_spare : mg "_law_spare" = some (.ref f_law_spare)
  f_law_drawn_change : Addr
  fd_law_drawn_change : FuncData
  F_law_drawn_change : Fun K "_law_drawn_change" "_law_drawn_change" s_law_drawn_change f_law_drawn_change fd_law_drawn_change
  b_law_drawn_change : Binds K fd_law_drawn_change ["_law_box_here", "_law_model_here", "_law_spare_here"] []
  m_law_drawn_change : mg "_law_drawn_change" = some (.ref f_law_drawn_change)
  f_law_drawn_join : Addr
  fd_law_drawn_join : FuncData
  F_law_drawn_join : Fun K "_law_drawn_join" "_law_drawn_join" s_law_drawn_join f_law_drawn_join fd_law_drawn_join
  b_law_drawn_join : Binds K fd_law_drawn_join ["_law_box_here", "_law_model_here", "_law_name", "_law_goal"] []
  m_law_drawn_join : mg "_law_drawn_join" = some (.ref f_law_drawn_join)
  f_law_told : Addr
  fd_law_told : FuncData
  F_law_told : Fun K "_law_told" "_law_told" s_law_told f_law_told fd_law_told
  b_law_told : Binds K fd_law_told ["_law_way", "_law_book", "_law_deed"] []
  m_law_told : mg "_law_told" = some (.ref f_law_told)
  f_law : Addr
  fd_law : FuncData
  F_law : Fun K "law" "law" s_law f_law fd_law
  b_law : Binds K fd_law ["_law_script"] []
  m_law : mg "law" = some (.ref f_law)
  k_changed_0_change_catalog : KwB K fd_changed ["catalog", "change"] 0 ["change", "catalog"] kwg_changed_0_change_catalog
  C_PartsError : Addr
  g_PartsError : mg "PartsError" = some (.ref C_PartsError)
  C_InvalidName : Addr
  g_InvalidName : mg "InvalidName" = some (.ref C_InvalidName)
  x_InvalidName : OexC K C_InvalidName
  y_InvalidName : XfC K C_InvalidName
  n_InvalidName : PySem.W.findIn K (.ref C_InvalidName) "value" = some none
  i_InvalidName : PySem.W.findIn K (.ref C_InvalidName) "__init__" = some (some (.ref f_InvalidName_init))
  t_InvalidName : PySem.W.typeIn K (.ref f_InvalidName_init) = some (.type "function")
  C_InvalidSpan : Addr
  g_InvalidSpan : mg "InvalidSpan" = some (.ref C_InvalidSpan)
  x_InvalidSpan : OexC K C_InvalidSpan
  y_InvalidSpan : XfC K C_InvalidSpan
  n_InvalidSpan : PySem.W.findIn K (.ref C_InvalidSpan) "value" = some none
  i_InvalidSpan : PySem.W.findIn K (.ref C_InvalidSpan) "__init__" = some (some (.ref f_InvalidSpan_init))
  t_InvalidSpan : PySem.W.typeIn K (.ref f_InvalidSpan_init) = some (.type "function")
  C_InvalidSpans : Addr
  g_InvalidSpans : mg "InvalidSpans" = some (.ref C_InvalidSpans)
  x_InvalidSpans : OexC K C_InvalidSpans
  y_InvalidSpans : XfC K C_InvalidSpans
  n_InvalidSpans : PySem.W.findIn K (.ref C_InvalidSpans) "value" = some none
  i_InvalidSpans : PySem.W.findIn K (.ref C_InvalidSpans) "__init__" = some (some (.ref f_InvalidSpans_init))
  t_InvalidSpans : PySem.W.typeIn K (.ref f_InvalidSpans_init) = some (.type "function")
  C_InvalidCatalog : Addr
  g_InvalidCatalog : mg "InvalidCatalog" = some (.ref C_InvalidCatalog)
  x_InvalidCatalog : OexC K C_InvalidCatalog
  y_InvalidCatalog : XfC K C_InvalidCatalog
  n_InvalidCatalog : PySem.W.findIn K (.ref C_InvalidCatalog) "value" = some none
  i_InvalidCatalog : PySem.W.findIn K (.ref C_InvalidCatalog) "__init__" = some (some (.ref f_InvalidCatalog_init))
  t_InvalidCatalog : PySem.W.typeIn K (.ref f_InvalidCatalog_init) = some (.type "function")
  C_InvalidChange : Addr
  g_InvalidChange : mg "InvalidChange" = some (.ref C_InvalidChange)
  x_InvalidChange : OexC K C_InvalidChange
  y_InvalidChange : XfC K C_InvalidChange
  n_InvalidChange : PySem.W.findIn K (.ref C_InvalidChange) "value" = some none
  i_InvalidChange : PySem.W.findIn K (.ref C_InvalidChange) "__init__" = some (some (.ref f_InvalidChange_init))
  t_InvalidChange : PySem.W.typeIn K (.ref f_InvalidChange_init) = some (.type "function")
  C_UnknownPart : Addr
  g_UnknownPart : mg "UnknownPart" = some (.ref C_UnknownPart)
  x_UnknownPart : OexC K C_UnknownPart
  y_UnknownPart : XfC K C_UnknownPart
  n_UnknownPart : PySem.W.findIn K (.ref C_UnknownPart) "name" = some none
  i_UnknownPart : PySem.W.findIn K (.ref C_UnknownPart) "__init__" = some (some (.ref f_UnknownPart_init))
  t_UnknownPart : PySem.W.typeIn K (.ref f_UnknownPart_init) = some (.type "function")
  C_NameTaken : Addr
  g_NameTaken : mg "NameTaken" = some (.ref C_NameTaken)
  x_NameTaken : OexC K C_NameTaken
  y_NameTaken : XfC K C_NameTaken
  n_NameTaken : PySem.W.findIn K (.ref C_NameTaken) "name" = some none
  i_NameTaken : PySem.W.findIn K (.ref C_NameTaken) "__init__" = some (some (.ref f_NameTaken_init))
  t_NameTaken : PySem.W.typeIn K (.ref f_NameTaken_init) = some (.type "function")
  C_Overlap : Addr
  g_Overlap : mg "Overlap" = some (.ref C_Overlap)
  x_Overlap : OexC K C_Overlap
  y_Overlap : XfC K C_Overlap
  n_Overlap : PySem.W.findIn K (.ref C_Overlap) "name" = some none
  i_Overlap : PySem.W.findIn K (.ref C_Overlap) "__init__" = some (some (.ref f_Overlap_init))
  t_Overlap : PySem.W.typeIn K (.ref f_Overlap_init) = some (.type "function")
  C_NotInside : Addr
  g_NotInside : mg "NotInside" = some (.ref C_NotInside)
  x_NotInside : OexC K C_NotInside
  y_NotInside : XfC K C_NotInside
  n_NotInside : PySem.W.findIn K (.ref C_NotInside) "at" = some none
  i_NotInside : PySem.W.findIn K (.ref C_NotInside) "__init__" = some (some (.ref f_NotInside_init))
  t_NotInside : PySem.W.typeIn K (.ref f_NotInside_init) = some (.type "function")
  C_NotNeighbours : Addr
  g_NotNeighbours : mg "NotNeighbours" = some (.ref C_NotNeighbours)
  x_NotNeighbours : OexC K C_NotNeighbours
  y_NotNeighbours : XfC K C_NotNeighbours
  n_NotNeighbours : PySem.W.findIn K (.ref C_NotNeighbours) "name" = some none
  i_NotNeighbours : PySem.W.findIn K (.ref C_NotNeighbours) "__init__" = some (some (.ref f_NotNeighbours_init))
  t_NotNeighbours : PySem.W.typeIn K (.ref f_NotNeighbours_init) = some (.type "function")
  C_TooMany : Addr
  g_TooMany : mg "TooMany" = some (.ref C_TooMany)
  x_TooMany : OexC K C_TooMany
  y_TooMany : XfC K C_TooMany
  n_TooMany : PySem.W.findIn K (.ref C_TooMany) "bound" = some none
  i_TooMany : PySem.W.findIn K (.ref C_TooMany) "__init__" = some (some (.ref f_TooMany_init))
  t_TooMany : PySem.W.typeIn K (.ref f_TooMany_init) = some (.type "function")
  C_Catalog : Addr
  g_Catalog : mg "Catalog" = some (.ref C_Catalog)
  cl_Catalog : Cls K C_Catalog
  mk_Catalog : Mk K C_Catalog f_Catalog_init
  ic_Catalog : C8.InsC K C_Catalog
  me_Catalog_init : Meth K C_Catalog "__init__" f_Catalog_init
  pa_Catalog_rest : Addr
  pr_Catalog_rest : PropOf K C_Catalog "rest" pa_Catalog_rest f_Catalog_rest
  me_Catalog_names : Meth K C_Catalog "names" f_Catalog_names
  me_Catalog_contains : Meth K C_Catalog "__contains__" f_Catalog_contains
  me_Catalog_eq : Meth K C_Catalog "__eq__" f_Catalog_eq
  me_Catalog_span : Meth K C_Catalog "span" f_Catalog_span
  no_Catalog_spans : NoAttr K C_Catalog "_spans"
  no_Catalog_rest : NoAttr K C_Catalog "_rest"
  no_Catalog_names : NoAttr K C_Catalog "_names"
  no_Catalog_stretches : NoAttr K C_Catalog "_stretches"
  io_Catalog_list : PySem.W.kitOne K (.type "list") (.ref C_Catalog) = some false
  nf_Catalog_list : PySem.W.notFirst K C_Catalog (.type "list") = true
  io_Catalog_str : PySem.W.kitOne K (.type "str") (.ref C_Catalog) = some false
  nf_Catalog_str : PySem.W.notFirst K C_Catalog (.type "str") = true
  io_Catalog_NoneType : PySem.W.kitOne K (.type "NoneType") (.ref C_Catalog) = some false
  io_Catalog_bool : PySem.W.kitOne K (.type "bool") (.ref C_Catalog) = some false
  io_Catalog_int : PySem.W.kitOne K (.type "int") (.ref C_Catalog) = some false
  io_Catalog_tuple : PySem.W.kitOne K (.type "tuple") (.ref C_Catalog) = some false
  io_Catalog_dict : PySem.W.kitOne K (.type "dict") (.ref C_Catalog) = some false
  e_InvalidCatalog_InvalidCatalog : PySem.W.exmOne K (.ref C_InvalidCatalog) (.ref C_InvalidCatalog) = some true
  e_InvalidChange_InvalidCatalog : PySem.W.exmOne K (.ref C_InvalidChange) (.ref C_InvalidCatalog) = some false
  e_InvalidChange_InvalidChange : PySem.W.exmOne K (.ref C_InvalidChange) (.ref C_InvalidChange) = some true
  e_UnknownPart_InvalidCatalog : PySem.W.exmOne K (.ref C_UnknownPart) (.ref C_InvalidCatalog) = some false
  e_UnknownPart_InvalidChange : PySem.W.exmOne K (.ref C_UnknownPart) (.ref C_InvalidChange) = some false
  e_UnknownPart_UnknownPart : PySem.W.exmOne K (.ref C_UnknownPart) (.ref C_UnknownPart) = some true
  e_NameTaken_InvalidCatalog : PySem.W.exmOne K (.ref C_NameTaken) (.ref C_InvalidCatalog) = some false
  e_NameTaken_InvalidChange : PySem.W.exmOne K (.ref C_NameTaken) (.ref C_InvalidChange) = some false
  e_NameTaken_UnknownPart : PySem.W.exmOne K (.ref C_NameTaken) (.ref C_UnknownPart) = some false
  e_NameTaken_NameTaken : PySem.W.exmOne K (.ref C_NameTaken) (.ref C_NameTaken) = some true
  e_Overlap_InvalidCatalog : PySem.W.exmOne K (.ref C_Overlap) (.ref C_InvalidCatalog) = some false
  e_Overlap_InvalidChange : PySem.W.exmOne K (.ref C_Overlap) (.ref C_InvalidChange) = some false
  e_Overlap_UnknownPart : PySem.W.exmOne K (.ref C_Overlap) (.ref C_UnknownPart) = some false
  e_Overlap_NameTaken : PySem.W.exmOne K (.ref C_Overlap) (.ref C_NameTaken) = some false
  e_Overlap_Overlap : PySem.W.exmOne K (.ref C_Overlap) (.ref C_Overlap) = some true
  e_NotInside_InvalidCatalog : PySem.W.exmOne K (.ref C_NotInside) (.ref C_InvalidCatalog) = some false
  e_NotInside_InvalidChange : PySem.W.exmOne K (.ref C_NotInside) (.ref C_InvalidChange) = some false
  e_NotInside_UnknownPart : PySem.W.exmOne K (.ref C_NotInside) (.ref C_UnknownPart) = some false
  e_NotInside_NameTaken : PySem.W.exmOne K (.ref C_NotInside) (.ref C_NameTaken) = some false
  e_NotInside_Overlap : PySem.W.exmOne K (.ref C_NotInside) (.ref C_Overlap) = some false
  e_NotInside_NotInside : PySem.W.exmOne K (.ref C_NotInside) (.ref C_NotInside) = some true
  e_NotNeighbours_InvalidCatalog : PySem.W.exmOne K (.ref C_NotNeighbours) (.ref C_InvalidCatalog) = some false
  e_NotNeighbours_InvalidChange : PySem.W.exmOne K (.ref C_NotNeighbours) (.ref C_InvalidChange) = some false
  e_NotNeighbours_UnknownPart : PySem.W.exmOne K (.ref C_NotNeighbours) (.ref C_UnknownPart) = some false
  e_NotNeighbours_NameTaken : PySem.W.exmOne K (.ref C_NotNeighbours) (.ref C_NameTaken) = some false
  e_NotNeighbours_Overlap : PySem.W.exmOne K (.ref C_NotNeighbours) (.ref C_Overlap) = some false
  e_NotNeighbours_NotInside : PySem.W.exmOne K (.ref C_NotNeighbours) (.ref C_NotInside) = some false
  e_NotNeighbours_NotNeighbours : PySem.W.exmOne K (.ref C_NotNeighbours) (.ref C_NotNeighbours) = some true
  e_TooMany_InvalidCatalog : PySem.W.exmOne K (.ref C_TooMany) (.ref C_InvalidCatalog) = some false
  e_TooMany_InvalidChange : PySem.W.exmOne K (.ref C_TooMany) (.ref C_InvalidChange) = some false
  e_TooMany_UnknownPart : PySem.W.exmOne K (.ref C_TooMany) (.ref C_UnknownPart) = some false
  e_TooMany_NameTaken : PySem.W.exmOne K (.ref C_TooMany) (.ref C_NameTaken) = some false
  e_TooMany_Overlap : PySem.W.exmOne K (.ref C_TooMany) (.ref C_Overlap) = some false
  e_TooMany_NotInside : PySem.W.exmOne K (.ref C_TooMany) (.ref C_NotInside) = some false
  e_TooMany_NotNeighbours : PySem.W.exmOne K (.ref C_TooMany) (.ref C_NotNeighbours) = some false
  e_TooMany_TooMany : PySem.W.exmOne K (.ref C_TooMany) (.ref C_TooMany) = some true
  e_UnknownPart_PartsError : PySem.W.exmOne K (.ref C_UnknownPart) (.ref C_PartsError) = some true
  e_NameTaken_PartsError : PySem.W.exmOne K (.ref C_NameTaken) (.ref C_PartsError) = some true
  e_Overlap_PartsError : PySem.W.exmOne K (.ref C_Overlap) (.ref C_PartsError) = some true
  e_NotInside_PartsError : PySem.W.exmOne K (.ref C_NotInside) (.ref C_PartsError) = some true
  e_NotNeighbours_PartsError : PySem.W.exmOne K (.ref C_NotNeighbours) (.ref C_PartsError) = some true
  e_TooMany_PartsError : PySem.W.exmOne K (.ref C_TooMany) (.ref C_PartsError) = some true
  t_LONGEST_NAME : Tok
  c_LONGEST_NAME : mg "LONGEST_NAME" = some (.int 8 t_LONGEST_NAME)
  t_MOST_PARTS : Tok
  c_MOST_PARTS : mg "MOST_PARTS" = some (.int 8 t_MOST_PARTS)
  z_isinstance : mg "isinstance" = none
  z_int : mg "int" = none
  z_bool : mg "bool" = none
  z_all : mg "all" = none
  z_str : mg "str" = none
  z_len : mg "len" = none
  z_tuple : mg "tuple" = none
  z_max : mg "max" = none
  z_min : mg "min" = none
  z_sorted : mg "sorted" = none
  z_list : mg "list" = none
  z_property : mg "property" = none
  z_dict : mg "dict" = none
  z_part : mg "part" = none
  z_set : mg "set" = none
  z_range : mg "range" = none

section
variable {K : PySem.W.Frag} {mg : Str → Option Value} {base : Heap}
def C5 (T : Txt K mg base) : Nat → Addr
  | 0 => T.C_InvalidSpans
  | 1 => T.C_InvalidName
  | 2 => T.C_InvalidSpan
  | 3 => T.C_Overlap
  | 4 => T.C_NameTaken
  | _ => T.C_TooMany
end
/-! base 6 -/
/-! ### catalogs with other parts -/
def isNm (ns : List Str) (w : V) : Bool := ns.any fun s => decide (w = .str s)
def sp_chas (K : PySem.W.Frag) (C : Addr) : Sp := fun vs H Q _ => ∃ (x : Addr) (w : V) (rs : List Row) (rt : Option Str), vs = [.ref x, w] ∧ flatV w = true ∧ CatAt K C H x rs rt ∧ ∀ H', Same H H' → Q (.bl (inV w ((nmsC rs rt).map V.str))) H'
theorem RzX.fresh {xs : List Addr} {H HM : Hp} {E : XK} {C : Addr} {f : Str} {v : V} (s : Same H HM) (n : ∀ x ∈ xs, H x = none) (h : RzX [] H E C f v) : RzX xs HM E C f v := fun d H' nd hd sx => h d H' (s.free nd) hd fun b o _ e => sx b o (fun hb => by
  rw [n b hb] at e
  cases e) (s _ _ e)
theorem rows_ev {K : PySem.W.Frag} {H : Hp} {rs : List Row} (h : RowsOk K H rs) : EV K H (rs.map rE) := fun e he => by
  obtain ⟨r, hr, rfl⟩ := List.mem_map.mp he
  have nm := (h r hr).2.2
  exact ⟨vd_sp (h r hr).1, by have := nameC_len nm; exact ⟨by omega, nameC_ok nm⟩⟩
theorem rows_nodK {rs : List Row} (h : (rs.map (·.1)).Nodup) : nodK (rs.map rE) := by
  unfold nodK
  rw [List.map_map]
  unfold List.Nodup at h ⊢
  rw [List.pairwise_map] at h ⊢
  exact h.imp fun h e => h (Sum.inr.inj e)
theorem rows_good {K : PySem.W.Frag} {H : Hp} {rs : List Row} (hr : RowsOk K H rs) (h : (rs.map (·.1)).Nodup) : rsF (rs.map rE) = none := rsF_of_good (rows_nodK h) fun e he => by
  obtain ⟨r, hr', rfl⟩ := List.mem_map.mp he
  unfold goodE
  rw [Bool.and_eq_true]
  refine ⟨(hr r hr').2.2, ?_⟩
  have : spanO (some (spD r.2.2)) = okS r.2.2 := spanO_ok _
  exact this.trans (hr r hr').2.1
theorem sortR_ok {K : PySem.W.Frag} {H : Hp} {rs : List Row} (h : RowsOk K H rs) : RowsOk K H (sortR rs) := fun r hr => h r (sortR_mem hr)
/-- with_rest(rv): rows as they are -/
def sp_cwr (K : PySem.W.Frag) (C : Addr) (Cs : Nat → Addr) (P : Addr) : Sp := fun vs H Q E => ∃ (x : Addr) (rv : V) (rd : PyData) (rs : List Row) (rt : Option Str), vs = [.ref x, rv] ∧ CatAt K C H x rs rt ∧ (rs.map (·.1)).Nodup ∧ rs.length ≤ 50 ∧ VD K H rv (some rd) ∧ LamX.TabS H P lamQ ∧
  (∀ q, catR (sortR rs) rv (some rd) = some q → ExC [] H E Cs q) ∧ (catR (sortR rs) rv (some rd) = none → ∀ x' H', EX [] H H' → LamX.TabS H' P lamQ → CatNew K C H H' x' (sortR rs) (rtO (some rd)) → rv = rvO (rtO (some rd)) → Q (.ref x') H')
/-- what with_part refuses -/
def wpR (rs : List Row) (rt : Option Str) (nv sv : V) (nd sd : PyData) : Option (Nat × V) :=
  if nameO (some nd) = false then some (1, nv) else if spanO (some sd) = false then some (2, sv) else if inV nv ((nmsC rs rt).map V.str) = true then some (4, nv) else match (sortR rs).find? fun r => meetB r.2.2 (spOf sd) with
  | some r => some (3, .str r.1)
  | none => none
def sp_cwp (K : PySem.W.Frag) (C : Addr) (Cs : Nat → Addr) (P : Addr) : Sp := fun vs H Q E => ∃ (x : Addr) (nv sv : V) (nd sd : PyData) (rs : List Row) (rt : Option Str), vs = [.ref x, nv, sv] ∧ CatAt K C H x rs rt ∧ (rs.map (·.1)).Nodup ∧ rs.length ≤ 50 ∧ VD K H nv (some nd) ∧ VD K H sv (some sd) ∧ LamX.TabS H P lamQ ∧ (∀ s, rt = some s → nameS s = true) ∧
  (∀ q, wpR rs rt nv sv nd sd = some q → ExC [] H E Cs q) ∧ (wpR rs rt nv sv nd sd = none → ∀ s a sp, nv = .str s → sv = .ref a → sd = spD sp → (∀ q, catR (sortR rs ++ [(s, a, sp)]) (rvO rt) (some (rtD rt)) = some q → ExC [] H E Cs q) ∧
    (catR (sortR rs ++ [(s, a, sp)]) (rvO rt) (some (rtD rt)) = none → ∀ x' H', EX [] H H' → LamX.TabS H' P lamQ → CatNew K C H H' x' (sortR rs ++ [(s, a, sp)]) rt → Q (.ref x') H'))
/-- what is wished of a making of rows that are right one by one -/
def MkP (K : PySem.W.Frag) (C : Addr) (Cs : Nat → Addr) (P : Addr) (H : Hp) (Q : VK) (E : XK) (rs : List Row) (rt : Option Str) : Prop :=
  (∀ q, catR rs (rvO rt) (some (rtD rt)) = some q → ExC [] H E Cs q) ∧ (catR rs (rvO rt) (some (rtD rt)) = none → ∀ x' H', EX [] H H' → LamX.TabS H' P lamQ → CatNew K C H H' x' rs rt → Q (.ref x') H')
theorem MkP.same {K : PySem.W.Frag} {C P : Addr} {Cs : Nat → Addr} {H H1 : Hp} {Q : VK} {E : XK} {rs : List Row} {rt : Option Str} (s : Same H H1) (m : MkP K C Cs P H Q E rs rt) : MkP K C Cs P H1 Q E rs rt :=
  ⟨fun q e => RzX.same s (m.1 q e), fun e x' H' ex hT hc => m.2 e x' H' ((EX.same s).trans ex) hT (hc.back s)⟩
theorem cinit_rows {K : PySem.W.Frag} {C P : Addr} {Cs : Nat → Addr} {H HM : Hp} {Q : VK} {E : XK} {rs : List Row} {rt : Option Str} {x2 dx2 d : Addr} (s : Same H HM) (hx : H x2 = none) (hxM : HM x2 = some (.ins C dx2 [])) (hd : HM d = some (.dK (rs.map rKV))) (hok : RowsOk K HM rs) (hnd : (rs.map (·.1)).Nodup) (hl : rs.length ≤ 60)
    (hrt : ∀ s, rt = some s → nameS s = true) (hT : LamX.TabS HM P lamQ) (m : MkP K C Cs P H Q E rs rt) : sp_cinit K C Cs P [.ref x2, .ref d, rvO rt] HM (fun v H3 => v = .non ∧ Q (.ref x2) H3) E := by
  have hgood := rows_good hok hnd
  have e1 : caR (.ref d) (rvO rt) (some (rtD rt)) (some (some (d, rs.map rE))) = catR rs (rvO rt) (some (rtD rt)) := by
    show catF (rs.map rE) (rvO rt) (some (rtD rt)) = _
    rw [catF_go hgood, rowsE_rows]
  refine ⟨x2, dx2, .ref d, rvO rt, rtD rt, some (some (d, rs.map rE)), rfl, hxM, .some (.dict (by rw [map_rKV]; exact hd) (rows_ev hok) (rows_nodK hnd) (by rw [List.length_map]; omega)) rfl, vd_rtD hrt, hT, fun q er => ?_, fun er H' ex hT' hcn hrv => ⟨rfl, ?_⟩⟩
  · rw [e1] at er
    rw [caL_none hgood]
    exact RzX.fresh s (fun b hb => by rw [List.mem_singleton.mp hb]; exact hx) (m.1 q er)
  · rw [e1] at er
    have hcr : caRows (some (some (d, rs.map rE))) = rs := rowsE_rows _
    rw [hcr, rtO_rtD] at hcn
    exact m.2 er x2 H' (fun b o _ e t => ex b o (by simpa using ne_of_none e hx) (s _ _ e) t) hT' (hcn.back s)
theorem cinit_rowsR {K : PySem.W.Frag} {C P : Addr} {Cs : Nat → Addr} {H HM : Hp} {R : Hp → Prop} {E : XK} {rs : List Row} {rt : Option Str} {x2 dx2 d : Addr} (s : Same H HM) (hx : H x2 = none) (hxM : HM x2 = some (.ins C dx2 [])) (hd : HM d = some (.dK (rs.map rKV))) (hok : RowsOk K HM rs) (hnd : (rs.map (·.1)).Nodup) (hl : rs.length ≤ 60)
    (hrt : ∀ s, rt = some s → nameS s = true) (hT : LamX.TabS HM P lamQ) (m1 : ∀ q, catR rs (rvO rt) (some (rtD rt)) = some q → ExC [] H E Cs q) (m2 : catR rs (rvO rt) (some (rtD rt)) = none → ∀ H', EX [] H H' → LamX.TabS H' P lamQ → CatNew K C H H' x2 rs rt → R H') : sp_cinit K C Cs P [.ref x2, .ref d, rvO rt] HM (fun v H3 => v = .non ∧ R H3) E := by
  have hgood := rows_good hok hnd
  have e1 : caR (.ref d) (rvO rt) (some (rtD rt)) (some (some (d, rs.map rE))) = catR rs (rvO rt) (some (rtD rt)) := by
    show catF (rs.map rE) (rvO rt) (some (rtD rt)) = _
    rw [catF_go hgood, rowsE_rows]
  refine ⟨x2, dx2, .ref d, rvO rt, rtD rt, some (some (d, rs.map rE)), rfl, hxM, .some (.dict (by rw [map_rKV]; exact hd) (rows_ev hok) (rows_nodK hnd) (by rw [List.length_map]; omega)) rfl, vd_rtD hrt, hT, fun q er => ?_, fun er H' ex hT' hcn hrv => ⟨rfl, ?_⟩⟩
  · rw [e1] at er
    rw [caL_none hgood]
    exact RzX.fresh s (fun b hb => by rw [List.mem_singleton.mp hb]; exact hx) (m1 q er)
  · rw [e1] at er
    have hcr : caRows (some (some (d, rs.map rE))) = rs := rowsE_rows _
    rw [hcr, rtO_rtD] at hcn
    exact m2 er H' (fun b o _ e t => ex b o (by simpa using ne_of_none e hx) (s _ _ e) t) hT' (hcn.back s)
theorem in_flatS {w : V} {ns : List Str} (h : inV w (ns.map V.str) = true) : ∃ s, w = .str s ∧ s ∈ ns := by
  obtain ⟨z, hz, e⟩ := List.any_eq_true.mp h
  obtain ⟨s, hs, rfl⟩ := List.mem_map.mp hz
  cases w with
  | str t =>
    have e : (s == t) = true := e
    exact ⟨t, rfl, by rw [← eq_of_beq e]; exact hs⟩
  | _ => cases e
def lessR (rs : List Row) (s : Str) : List Row := rs.filter fun r => !decide (r.1 = s)
def sp_cwo (K : PySem.W.Frag) (C CU : Addr) (Cs : Nat → Addr) (P : Addr) : Sp := fun vs H Q E => ∃ (x : Addr) (w : V) (rs : List Row) (rt : Option Str), vs = [.ref x, w] ∧ flatV w = true ∧ CatAt K C H x rs rt ∧ (rs.map (·.1)).Nodup ∧ rs.length ≤ 50 ∧ (∀ s, rt = some s → nameS s = true) ∧ LamX.TabS H P lamQ ∧
  (inV w ((nmsC rs rt).map V.str) = false → RzX [] H E CU "name" w) ∧ ∀ s, w = .str s → inV w ((nmsC rs rt).map V.str) = true → (rt = some s → MkP K C Cs P H Q E (sortR rs) none) ∧ (rt ≠ some s → MkP K C Cs P H Q E (lessR (sortR rs) s) rt)
theorem lessR_step {L : List Row} {s : Str} {i : Nat} {r : Row} (h : L[i]? = some r) : lessR (L.take (i + 1)) s = lessR (L.take i) s ++ if decide (r.1 = s) = true then [] else [r] := by
  unfold lessR
  rw [List.take_add_one, h, List.filter_append]
  congr 1
  by_cases e : r.1 = s
  · simp [e]
  · simp [e]
theorem lessR_sub {L : List Row} {s : Str} : (lessR L s).Sublist L := List.filter_sublist
theorem nodup_sub {L M : List Row} (h : L.Sublist M) (n : (M.map (·.1)).Nodup) : (L.map (·.1)).Nodup := n.sublist (h.map _)
theorem nd_at {L : List Row} {i : Nat} {r : Row} (n : (L.map (·.1)).Nodup) (h : L[i]? = some r) : r.1 ∉ (L.take i).map (·.1) := fun hm => by
  obtain ⟨q, hq, e⟩ := List.mem_map.mp hm
  obtain ⟨j, hj, rfl⟩ := List.mem_iff_getElem.mp hq
  rw [List.length_take] at hj
  rw [List.getElem_take] at e
  have hi : i < L.length := (List.getElem?_eq_some_iff.mp h).1
  have e2 : L[i] = r := (List.getElem?_eq_some_iff.mp h).2
  rw [← e2] at e
  unfold List.Nodup at n
  rw [List.pairwise_map, List.pairwise_iff_getElem] at n
  exact n j i (by omega) hi (by omega) e
/-! models of two items: the rows, the rest -/
structure M8 (H : Hp) (q : Addr) (rr : List MRow) (rt : Option Str) : Prop where
  at_ : ∃ lr, H q = some (.lst [.ref lr, rvO rt]) ∧ H lr = some (.lst (rr.map fun r => V.ref r.1))
  rows : ∀ r ∈ rr, rowAt H r
theorem M8.nd {H H' : Hp} {q : Addr} {rr : List MRow} {rt : Option Str} (s : ND H H') (h : M8 H q rr rt) : M8 H' q rr rt := by
  obtain ⟨⟨lr, h1, h2⟩, h3⟩ := h
  exact ⟨⟨lr, s _ _ h1 rfl, s _ _ h2 rfl⟩, fun r hr => ⟨s _ _ (h3 r hr).1 rfl, s _ _ (h3 r hr).2 rfl⟩⟩
theorem M8.mono {H H' : Hp} {q : Addr} {rr : List MRow} {rt : Option Str} (s : Same H H') (h : M8 H q rr rt) : M8 H' q rr rt := h.nd (.of s)
def namesM (rr : List MRow) (rt : Option Str) : List Str := rr.map (·.2.1) ++ rt.toList
structure G8 (rr : List MRow) (rt : Option Str) : Prop where
  ok : ∀ r ∈ rr, okS r.2.2.2 = true
  apart : rr.Pairwise fun a b => meetL a.2.2.2 b.2.2.2 = false
  nms : ∀ s ∈ namesM rr rt, nameS s = true
  nd : (namesM rr rt).Nodup
  len : (namesM rr rt).length ≤ 8
theorem M8.dp {K : PySem.W.Frag} {H : Hp} {q : Addr} {rr : List MRow} {rt : Option Str} (h : M8 H q rr rt) : True := trivial
def sp_lall : Sp := fun vs H Q _ => ∃ (q : Addr) (rr : List MRow) (rt : Option Str), vs = [.ref q] ∧ M8 H q rr rt ∧ rr.length ≤ 50 ∧ ∀ H' p, Same H H' → H p = none → H' p = some (.lst ((srtS (namesM rr rt)).map V.str)) → Q (.ref p) H'
/-! what is due: (1 a name, 2 a span, 3 an overlap, 4 taken, 5 too many, 6 no part) and the value -/
def wc8 : Nat → Str
  | 6 => "part"
  | n => wC n
def oddW : List V := [.str "table", .str "", .int 5, .str "A"]
def badW (w : V) : Bool := inV w oddW
def W8 (w : V) : Prop := (∃ s, w = .str s ∧ nameS s = true) ∨ w = .non ∨ w ∈ oddW
def oddP : List PyData := [.none, .int 5, .tuple [.int 5, .int 5], .list [.int 1, .int 2]]
def P8 (K : PySem.W.Frag) (H : Hp) (pv : V) (pd : PyData) : Prop := (∃ a sp, pv = .ref a ∧ H a = some (.tup (spV sp)) ∧ okS sp = true ∧ pd = spD sp) ∨ (VD K H pv (some pd) ∧ pd ∈ oddP)
theorem P8.nd {K : PySem.W.Frag} {H H' : Hp} {pv : V} {pd : PyData} (s : ND H H') (h : P8 K H pv pd) : P8 K H' pv pd := by
  rcases h with ⟨a, sp, h1, h2, h3⟩ | ⟨h1, h2⟩
  · exact .inl ⟨a, sp, h1, s _ _ h2 rfl, h3⟩
  · exact .inr ⟨h1.nd s, h2⟩
theorem P8.mono {K : PySem.W.Frag} {H H' : Hp} {pv : V} {pd : PyData} (s : Same H H') (h : P8 K H pv pd) : P8 K H' pv pd := h.nd (.of s)
theorem P8.vd {K : PySem.W.Frag} {H : Hp} {pv : V} {pd : PyData} (h : P8 K H pv pd) : VD K H pv (some pd) := by
  rcases h with ⟨a, sp, rfl, h2, h3, rfl⟩ | ⟨h1, h2⟩
  · exact vd_sp (SqT.of h2)
  · exact h1
def overM (rr : List MRow) (pd : PyData) : List Str := srtS ((rr.filter fun r => meetL r.2.2.2 (spOf pd)).map (·.2.1))
def dueR (way : Int) (rr : List MRow) (rt : Option Str) (w pv : V) (pd : PyData) : Option (Nat × V) :=
  if way = 0 then if badW w = true then some (1, w) else if spanO (some pd) = false then some (2, pv) else if inV w ((namesM rr rt).map V.str) = true then some (4, w) else match (overM rr pd).head? with
    | some y => some (3, .str y)
    | none => if (namesM rr rt).length = 8 then some (5, .int 8) else none
  else if way = 1 then if inV w ((namesM rr rt).map V.str) = false then some (6, w) else none
  else if badW w = true then some (1, w) else if inV w ((rr.map (·.2.1)).map V.str) = true then some (4, w) else if w ≠ .non ∧ rr.length = 8 then some (5, .int 8) else none
def strW : V → Str
  | .str s => s
  | _ => Str.empty
def nxR (way : Int) (rows : List Row) (w pv : V) (pd : PyData) : List Row := if way = 0 then rows ++ [(strW w, refA pv, spOf pd)] else if way = 1 then lessR rows (strW w) else rows
def nxT (way : Int) (rt : Option Str) (w : V) : Option Str := if way = 0 then rt else if way = 1 then (if w = rvO rt then none else rt) else match w with
  | .str s => some s
  | _ => none
/-- what is due stands at p -/
def D8 (H : Hp) (b : Addr) (r : Option (Nat × V)) (p : Addr) (rows : List Row) (rt : Option Str) : Prop := match r with
  | some (n, v) => H p = some (.lst [.str (wc8 n), v])
  | none => ∃ q rr, H p = some (.lst [.str "made", .ref q]) ∧ M8 (but H b) q rr rt ∧ rowsM rr = rows
def sp_ldue8 (K : PySem.W.Frag) : Sp := fun vs H Q _ => ∃ (way : Int) (b q : Addr) (w pv : V) (pd : PyData) (rr : List MRow) (rt : Option Str), vs = [.int way, .ref q, w, pv] ∧ (way = 0 ∨ way = 1 ∨ way = 2) ∧ (∃ o, H b = some o) ∧ M8 (but H b) q rr rt ∧ G8 rr rt ∧ W8 w ∧ (way < 2 → w ≠ .non) ∧ P8 K (but H b) pv pd ∧
  ∀ H' p, Same H H' → H p = none → D8 H' b (dueR way rr rt w pv pd) p (nxR way (rowsM rr) w pv pd) (nxT way rt w) → Q (.ref p) H'
theorem odd_in {K : PySem.W.Frag} {H : Hp} {pv : V} {pd : PyData} (h : P8 K H pv pd) : (oddP.any fun z => PyData.eqv z pd) = !spanO (some pd) := by
  rcases h with ⟨a, sp, h1, h2, h3, rfl⟩ | ⟨h1, h2⟩
  · have e : spanO (some (spD sp)) = true := (spanO_ok _).trans h3
    rw [e]
    obtain ⟨x, y⟩ := sp
    cases x <;> cases y <;> simp [oddP, spD, limD, PyData.eqv, PyData.eqvAll] at h3 ⊢
    intro e1 e2
    have := of_decide_eq_true h3
    omega
  · simp only [oddP, List.mem_cons, List.not_mem_nil, or_false] at h2
    rcases h2 with rfl | rfl | rfl | rfl <;> decide +kernel
theorem W8.flat {w : V} (h : W8 w) : flatV w = true := by
  rcases h with ⟨s, rfl, _⟩ | rfl | h
  · rfl
  · rfl
  · simp only [oddW, List.mem_cons, List.not_mem_nil, or_false] at h
    rcases h with rfl | rfl | rfl | rfl <;> rfl
theorem oddP_sh : SeqAt.shaped (.list oddP) = true := by decide +kernel
theorem badW_of {w : V} (h : w ∈ oddW) : badW w = true := by
  simp only [oddW, List.mem_cons, List.not_mem_nil, or_false] at h
  rcases h with rfl | rfl | rfl | rfl <;> decide +kernel
theorem flat_oddW : oddW.all flatV = true := by decide +kernel
theorem rr_len {rr : List MRow} {rt : Option Str} (h : (namesM rr rt).length ≤ 8) : rr.length ≤ 8 := by
  unfold namesM at h
  rw [List.length_append, List.length_map] at h
  omega
theorem rowsM_filter (rr : List MRow) (s : Str) : rowsM (rr.filter fun r => !decide (r.2.1 = s)) = lessR (rowsM rr) s := by
  unfold rowsM lessR
  rw [List.filter_map]
  rfl
theorem in_rows {s : Str} {ns : List Str} : inV (.str s) (ns.map V.str) = decide (s ∈ ns) := in_strs s ns
theorem inV_srt (w : V) (ns : List Str) : inV w ((srtS ns).map V.str) = inV w (ns.map V.str) := by
  unfold inV
  rw [Bool.eq_iff_iff, List.any_eq_true, List.any_eq_true]
  constructor
  · rintro ⟨z, hz, e⟩
    obtain ⟨t, ht, rfl⟩ := List.mem_map.mp hz
    exact ⟨_, List.mem_map.mpr ⟨t, srt_mem.mp ht, rfl⟩, e⟩
  · rintro ⟨z, hz, e⟩
    obtain ⟨t, ht, rfl⟩ := List.mem_map.mp hz
    exact ⟨_, List.mem_map.mpr ⟨t, srt_mem.mpr ht, rfl⟩, e⟩
theorem dueR0 (rr : List MRow) (rt : Option Str) (w pv : V) (pd : PyData) : dueR 0 rr rt w pv pd = if badW w = true then some (1, w) else if spanO (some pd) = false then some (2, pv) else if inV w ((namesM rr rt).map V.str) = true then some (4, w) else match (overM rr pd).head? with
    | some y => some (3, .str y)
    | none => if (namesM rr rt).length = 8 then some (5, .int 8) else none := by
  unfold dueR
  rw [if_pos rfl]
theorem dueR1 (rr : List MRow) (rt : Option Str) (w pv : V) (pd : PyData) : dueR 1 rr rt w pv pd = if inV w ((namesM rr rt).map V.str) = false then some (6, w) else none := by
  unfold dueR
  rw [if_neg (by decide), if_pos rfl]
theorem dueR2 (rr : List MRow) (rt : Option Str) (w pv : V) (pd : PyData) : dueR 2 rr rt w pv pd = if badW w = true then some (1, w) else if inV w ((rr.map (·.2.1)).map V.str) = true then some (4, w) else if w ≠ .non ∧ rr.length = 8 then some (5, .int 8) else none := by
  unfold dueR
  rw [if_neg (by decide), if_neg (by decide)]
theorem W8.str {w : V} (h : W8 w) (h1 : ¬ badW w = true) (h2 : w ≠ .non) : ∃ s, w = .str s ∧ nameS s = true := by
  rcases h with h | h | h
  · exact h
  · exact absurd h h2
  · exact absurd (badW_of h) h1
theorem P8.sp {K : PySem.W.Frag} {H : Hp} {pv : V} {pd : PyData} (h : P8 K H pv pd) (e : spanO (some pd) = true) : ∃ a sp, pv = .ref a ∧ H a = some (.tup (spV sp)) ∧ okS sp = true ∧ pd = spD sp := by
  rcases h with h | ⟨_, h⟩
  · exact h
  · simp only [oddP, List.mem_cons, List.not_mem_nil, or_false] at h
    rcases h with rfl | rfl | rfl | rfl <;> exact absurd e (by decide +kernel)
theorem rowsM_snoc (rr : List MRow) (r : MRow) : rowsM (rr ++ [r]) = rowsM rr ++ [(r.2.1, r.2.2.1, r.2.2.2)] := by
  unfold rowsM
  rw [List.map_append]
  rfl
theorem rowAt.but {H : Hp} {b : Addr} {r : MRow} (h1 : r.1 ≠ b) (h2 : r.2.2.1 ≠ b) (h : rowAt H r) : rowAt (but H b) r := ⟨by rw [but_ne h1]; exact h.1, by rw [but_ne h2]; exact h.2⟩
/-- what is told stands at p -/
def T8 (K : PySem.W.Frag) (C : Addr) (H0 H : Hp) (r : Option (Nat × V)) (p : Addr) (rows : List Row) (rt : Option Str) : Prop := match r with
  | some (n, v) => H p = some (.lst [.str (wc8 n), v])
  | none => ∃ x rs, H p = some (.lst [.str "made", .ref x]) ∧ CatNew K C H0 H x rs rt ∧ rs.Perm rows
def sp_ltold8 (K : PySem.W.Frag) (C P : Addr) : Sp := fun vs H Q _ => ∃ (way : Int) (x : Addr) (w pv : V) (pd : PyData) (rr : List MRow) (rt : Option Str) (rs : List Row), vs = [.int way, .ref x, w, pv] ∧ (way = 0 ∨ way = 1 ∨ way = 2) ∧ CatAt K C H x rs rt ∧ rs.Perm (rowsM rr) ∧ G8 rr rt ∧ W8 w ∧ (way < 2 → w ≠ .non) ∧ P8 K H pv pd ∧ LamX.TabS H P lamQ ∧
  ∀ H' p, EX [] H H' → LamX.TabS H' P lamQ → T8 K C H H' (dueR way rr rt w pv pd) p (nxR way (rowsM rr) w pv pd) (nxT way rt w) → Q (.ref p) H'
theorem lkWP (d : Addr) (rv : V) (l p : Addr) : (fsC d rv l p).lookup ("with_part" : Str) = none := by simp [fsC, List.lookup, sb "with_part" "_spans", sb "with_part" "_rest", sb "with_part" "_names", sb "with_part" "_stretches"]
theorem lkWO (d : Addr) (rv : V) (l p : Addr) : (fsC d rv l p).lookup ("without_part" : Str) = none := by simp [fsC, List.lookup, sb "without_part" "_spans", sb "without_part" "_rest", sb "without_part" "_names", sb "without_part" "_stretches"]
theorem lkWR (d : Addr) (rv : V) (l p : Addr) : (fsC d rv l p).lookup ("with_rest" : Str) = none := by simp [fsC, List.lookup, sb "with_rest" "_spans", sb "with_rest" "_rest", sb "with_rest" "_names", sb "with_rest" "_stretches"]
theorem meetL_comm (s t : Span) : meetL s t = meetL t s := Bool.and_comm _ _
def wdD : V → PyData
  | .str s => .str s
  | .int i => .int i
  | _ => .none
theorem W8.vd {K : PySem.W.Frag} {H : Hp} {w : V} (h : W8 w) : VD K H w (some (wdD w)) := by
  rcases h with ⟨s, rfl, hs⟩ | rfl | h
  · exact vd_key (k := .inr s) ⟨by have := nameC_len hs; omega, nameC_ok hs⟩
  · exact .dat .non (by decide) fun s e => by cases e
  · simp only [oddW, List.mem_cons, List.not_mem_nil, or_false] at h
    rcases h with rfl | rfl | rfl | rfl
    · exact vd_key (k := .inr "table") ⟨by decide +kernel, by decide +kernel⟩
    · exact vd_key (k := .inr "") ⟨by decide +kernel, by decide +kernel⟩
    · exact vd_key (k := .inl 5) trivial
    · exact vd_key (k := .inr "A") ⟨by decide +kernel, by decide +kernel⟩
theorem nameO_badW {w : V} (h : W8 w) (hn : w ≠ .non) : nameO (some (wdD w)) = !badW w := by
  rcases h with ⟨s, rfl, hs⟩ | rfl | h
  · have e : nameO (some (wdD (.str s))) = true := hs
    rw [e]
    cases eb : badW (.str s) with
    | false => rfl
    | true =>
      obtain ⟨z, hz, e2⟩ := List.any_eq_true.mp eb
      simp only [oddW, List.mem_cons, List.not_mem_nil, or_false] at hz
      rcases hz with rfl | rfl | rfl | rfl
      · have e2 : (("table" : Str) == s) = true := e2
        rw [← eq_of_beq e2] at hs
        exact absurd hs (by decide +kernel)
      · have e2 : (("" : Str) == s) = true := e2
        rw [← eq_of_beq e2] at hs
        exact absurd hs (by decide +kernel)
      · cases e2
      · have e2 : (("A" : Str) == s) = true := e2
        rw [← eq_of_beq e2] at hs
        exact absurd hs (by decide +kernel)
  · exact absurd rfl hn
  · rw [badW_of h]
    simp only [oddW, List.mem_cons, List.not_mem_nil, or_false] at h
    rcases h with rfl | rfl | rfl | rfl <;> decide +kernel
theorem ovl_apart {rs : List Row} (hnd : (rs.map (·.1)).Nodup) (hok : ∀ r ∈ rs, okS r.2.2 = true) (ha : rs.Pairwise fun a b => meetL a.2.2 b.2.2 = false) : ovl rs = none := by
  have hp := sortR_perm hnd
  refine ovlR_none _ _ (fun a ha => (List.not_mem_nil ha).elim) ?_
  have h2 : (sortR rs).Pairwise fun a b => meetL a.2.2 b.2.2 = false := (hp.pairwise_iff fun {x y} h => by rw [meetL_comm]; exact h).mpr ha
  exact h2.imp_of_mem fun {a b} ha hb h => by rw [← meetL_eq (hok a (hp.mem_iff.mp ha)) (hok b (hp.mem_iff.mp hb))]; exact h
theorem apart_perm {rs rows : List Row} (hp : rs.Perm rows) (h : rows.Pairwise fun a b => meetL a.2.2 b.2.2 = false) : rs.Pairwise fun a b => meetL a.2.2 b.2.2 = false :=
  (hp.pairwise_iff fun {x y} h => by rw [meetL_comm]; exact h).mpr h
theorem G8.apartM {rr : List MRow} {rt : Option Str} (G : G8 rr rt) : (rowsM rr).Pairwise fun a b => meetL a.2.2 b.2.2 = false := by
  unfold rowsM
  rw [List.pairwise_map]
  exact G.apart
theorem G8.okM {rr : List MRow} {rt : Option Str} (G : G8 rr rt) : ∀ r ∈ rowsM rr, okS r.2.2 = true := rowsM_ok G.ok
theorem G8.ndM {rr : List MRow} {rt : Option Str} (G : G8 rr rt) : ((rowsM rr).map (·.1)).Nodup := by
  rw [rowsM_names]
  exact (List.nodup_append.mp G.nd).1
theorem in_perm {w : V} {ns ms : List Str} (h : ns.Perm ms) : inV w (ns.map V.str) = inV w (ms.map V.str) := by
  unfold inV
  rw [Bool.eq_iff_iff, List.any_eq_true, List.any_eq_true]
  constructor
  · rintro ⟨z, hz, e⟩
    exact ⟨z, (h.map _).mem_iff.mp hz, e⟩
  · rintro ⟨z, hz, e⟩
    exact ⟨z, (h.map _).mem_iff.mpr hz, e⟩
theorem nms_perm {rs : List Row} {rr : List MRow} {rt : Option Str} (hp : rs.Perm (rowsM rr)) : (rs.map (·.1) ++ rt.toList).Perm (namesM rr rt) := by
  unfold namesM
  rw [← rowsM_names]
  exact (hp.map _).append_right _
theorem nmsC_M {rs : List Row} {rr : List MRow} {rt : Option Str} (hp : rs.Perm (rowsM rr)) : nmsC rs rt = srtS (namesM rr rt) := srt_perm (nms_perm hp)
theorem over_find {rs : List Row} {rr : List MRow} {sp : Span} (hp : rs.Perm (rowsM rr)) (hnd : (rs.map (·.1)).Nodup) (hok : ∀ r ∈ rs, okS r.2.2 = true) (hs : okS sp = true) : ((sortR rs).find? fun r => meetB r.2.2 sp).map (·.1) = (overM rr (spD sp)).head? := by
  have h1 : ((sortR rs).find? fun r => meetB r.2.2 sp) = (sortR rs).find? fun r => meetL r.2.2 sp := by
    have : ∀ {l : List Row}, (∀ r ∈ l, okS r.2.2 = true) → (l.find? fun r => meetB r.2.2 sp) = l.find? fun r => meetL r.2.2 sp := by
      intro l
      induction l with
      | nil => intro _; rfl
      | cons a t ih =>
        intro h
        rw [List.find?_cons, List.find?_cons, meetL_eq (h a List.mem_cons_self) hs, ih fun r hr => h r (List.mem_cons_of_mem _ hr)]
    exact this fun r hr => hok r (sortR_mem hr)
  have h2 : ((sortR rs).filter fun r => meetL r.2.2 sp).map (·.1) = overM rr (spD sp) := by
    unfold overM
    rw [spOf_spD]
    refine List.Perm.eq_of_pairwise (fun a b _ _ => leS_anti) ?_ (srt_pw _) (List.Perm.trans ?_ (List.mergeSort_perm _ leS).symm)
    · have : (((sortR rs).filter fun r => meetL r.2.2 sp).map (·.1)).Sublist ((sortR rs).map (·.1)) := List.filter_sublist.map _
      rw [sortR_names] at this
      exact (srt_pw _).sublist this
    · have e : (rr.filter fun r => meetL r.2.2.2 sp).map (·.2.1) = ((rowsM rr).filter fun r => meetL r.2.2 sp).map (·.1) := by
        unfold rowsM
        rw [List.filter_map, List.map_map]
        rfl
      rw [e]
      exact (((sortR_perm hnd).trans hp).filter _).map _
  rw [h1, ← h2, List.head?_map, List.head?_filter]
theorem G8.rest {rr : List MRow} {rt : Option Str} (G : G8 rr rt) : ∀ s, rt = some s → nameS s = true ∧ s ∉ rr.map (·.2.1) := fun s e => by
  subst e
  refine ⟨G.nms s (List.mem_append_right _ List.mem_cons_self), fun h => ?_⟩
  exact (List.nodup_append.mp G.nd).2.2 s h s List.mem_cons_self rfl
theorem restR_rt {ns : List Str} {rt : Option Str} (h : ∀ s, rt = some s → nameS s = true ∧ s ∉ ns) : restR ns (rvO rt) (some (rtD rt)) = if 8 < ns.length + rt.toList.length then some (5, .int 8) else none := by
  unfold restR
  cases rt with
  | none => rfl
  | some s =>
    obtain ⟨h1, h2⟩ := h s rfl
    have e1 : nonO (some (rtD (some s))) = false := rfl
    have e2 : nameO (some (rtD (some s))) = true := h1
    have e3 : inNames ns (some (rtD (some s))) = false := decide_eq_false h2
    rw [e1, if_neg Bool.false_ne_true, e2, if_neg (by decide), e3, if_neg Bool.false_ne_true]
    rfl
theorem due0 {rs : List Row} {rr : List MRow} {rt : Option Str} {w pv : V} {pd : PyData} {K : PySem.W.Frag} {H : Hp} (hp : rs.Perm (rowsM rr)) (G : G8 rr rt) (hw : W8 w) (hn : w ≠ .non) (hv : P8 K H pv pd) :
    dueR 0 rr rt w pv pd = match wpR rs rt w pv (wdD w) pd with
      | some q => some q
      | none => if (namesM rr rt).length = 8 then some (5, .int 8) else none := by
  have hnd : (rs.map (·.1)).Nodup := (hp.map _).nodup_iff.mpr G.ndM
  have hok : ∀ r ∈ rs, okS r.2.2 = true := fun r hr => G.okM r (hp.mem_iff.mp hr)
  rw [dueR0]
  unfold wpR
  have hb := nameO_badW hw hn
  cases e1 : badW w with
  | true =>
    have hb : nameO (some (wdD w)) = false := by rw [hb, e1]; rfl
    rw [if_pos rfl, if_pos hb]
  | false =>
    have n1 : ¬ nameO (some (wdD w)) = false := by rw [hb, e1]; decide
    rw [if_neg Bool.false_ne_true, if_neg n1]
    cases e2 : spanO (some pd) with
    | false => rw [if_pos rfl, if_pos rfl]
    | true =>
      have tf : ¬ true = false := by decide
      rw [if_neg tf, if_neg tf]
      have e3 : inV w ((nmsC rs rt).map V.str) = inV w ((namesM rr rt).map V.str) := by
        rw [nmsC_M hp, inV_srt]
      rw [e3]
      cases e4 : inV w ((namesM rr rt).map V.str) with
      | true => rw [if_pos rfl, if_pos rfl]
      | false =>
        rw [if_neg Bool.false_ne_true, if_neg Bool.false_ne_true]
        obtain ⟨a, sp, rfl, _, hs, rfl⟩ := hv.sp e2
        rw [← over_find hp hnd hok hs, spOf_spD]
        cases (sortR rs).find? fun r => meetB r.2.2 sp <;> rfl
theorem wpR_none {rs : List Row} {rt : Option Str} {w pv : V} {nd pd : PyData} (h : wpR rs rt w pv nd pd = none) : spanO (some pd) = true ∧ inV w ((nmsC rs rt).map V.str) = false ∧ (sortR rs).find? (fun r => meetB r.2.2 (spOf pd)) = none := by
  unfold wpR at h
  split at h
  · cases h
  · split at h
    · cases h
    · rename_i e2
      split at h
      · cases h
      · rename_i e3
        split at h
        · cases h
        · rename_i e4
          exact ⟨by simpa using e2, by simpa using e3, e4⟩
theorem cat0 {rs : List Row} {rr : List MRow} {rt : Option Str} {s : Str} {a : Addr} {sp : Span} {nd : PyData} (hp : rs.Perm (rowsM rr)) (G : G8 rr rt) (h : wpR rs rt (.str s) (.ref a) nd (spD sp) = none) :
    catR (sortR rs ++ [(s, a, sp)]) (rvO rt) (some (rtD rt)) = if (namesM rr rt).length = 8 then some (5, .int 8) else none := by
  obtain ⟨h1, h2, h3⟩ := wpR_none h
  have hs : okS sp = true := (spanO_ok _).symm.trans h1
  rw [spOf_spD] at h3
  have hnd : (rs.map (·.1)).Nodup := (hp.map _).nodup_iff.mpr G.ndM
  have hok : ∀ r ∈ rs, okS r.2.2 = true := fun r hr => G.okM r (hp.mem_iff.mp hr)
  have hsn : s ∉ namesM rr rt := fun z => by
    rw [nmsC_M hp, inV_srt, in_rows, decide_eq_true z] at h2
    cases h2
  have hsr : s ∉ (sortR rs).map (·.1) := fun z => hsn (List.mem_append_left _ (by
    rw [sortR_names] at z
    rw [← rowsM_names]
    exact (hp.map _).mem_iff.mp (srt_mem.mp z)))
  have hnd2 : ((sortR rs ++ [(s, a, sp)]).map (·.1)).Nodup := by
    rw [List.map_append]
    refine List.nodup_append.mpr ⟨by rw [sortR_names]; exact srt_nodup hnd, List.nodup_cons.mpr ⟨List.not_mem_nil, List.nodup_nil⟩, fun u hu w hw z => hsr ?_⟩
    have hw : w = s := List.mem_singleton.mp hw
    rw [← hw, ← z]
    exact hu
  have hap : (sortR rs ++ [(s, a, sp)]).Pairwise fun a b => meetL a.2.2 b.2.2 = false := by
    refine List.pairwise_append.mpr ⟨apart_perm ((sortR_perm hnd).trans hp) G.apartM, List.pairwise_singleton _ _, fun u hu w hw => ?_⟩
    rw [List.mem_singleton.mp hw]
    have := List.find?_eq_none.mp h3 u hu
    rw [meetL_eq (hok u (sortR_mem hu)) hs]
    simpa using this
  rw [catR_go (ovl_apart hnd2 (fun r hr => by
    rcases List.mem_append.mp hr with hr | hr
    · exact hok r (sortR_mem hr)
    · rw [List.mem_singleton.mp hr]; exact hs) hap), restR_rt fun z e => ?_]
  · have e1 : ((sortR rs ++ [(s, a, sp)]).map (·.1)).length + rt.toList.length = (namesM rr rt).length + 1 := by
      unfold namesM
      rw [List.length_map, List.length_append, sortR_len, hp.length_eq, List.length_append, List.length_map, List.length_singleton]
      unfold rowsM
      rw [List.length_map]
      omega
    rw [e1]
    have := G.len
    by_cases e2 : (namesM rr rt).length = 8
    · rw [if_pos e2, if_pos (by omega)]
    · rw [if_neg e2, if_neg (by omega)]
  · obtain ⟨z1, z2⟩ := G.rest z e
    refine ⟨z1, fun m => ?_⟩
    rw [List.map_append] at m
    rcases List.mem_append.mp m with m | m
    · rw [sortR_names] at m
      have := (hp.map _).mem_iff.mp (srt_mem.mp m)
      rw [rowsM_names] at this
      exact z2 this
    · have m : z = s := List.mem_singleton.mp m
      exact hsn (List.mem_append_right _ (by rw [e, ← m]; exact List.mem_cons_self))
/-- rows of a model, some dropped, make a catalog -/
theorem cat1 {L : List Row} {rs : List Row} {rr : List MRow} {rt rt' : Option Str} (hp : rs.Perm (rowsM rr)) (G : G8 rr rt) (hL : L.Sublist (sortR rs)) (hr : rt' = none ∨ rt' = rt) : catR L (rvO rt') (some (rtD rt')) = none := by
  have hnd : (rs.map (·.1)).Nodup := (hp.map _).nodup_iff.mpr G.ndM
  have hok : ∀ r ∈ rs, okS r.2.2 = true := fun r hr => G.okM r (hp.mem_iff.mp hr)
  have hsn : ((sortR rs).map (·.1)).Nodup := by
    rw [sortR_names]
    exact srt_nodup hnd
  have hl := hL.length_le
  have hl8 := G.len
  have hll : rs.length = rr.length := by
    rw [hp.length_eq]
    unfold rowsM
    rw [List.length_map]
  rw [catR_go (ovl_apart (nodup_sub hL hsn) (fun r hr => hok r (sortR_mem (hL.subset hr))) ((apart_perm ((sortR_perm hnd).trans hp) G.apartM).sublist hL)), restR_rt fun z e => ?_]
  · refine if_neg ?_
    rw [List.length_map]
    rw [sortR_len] at hl
    unfold namesM at hl8
    rw [List.length_append, List.length_map] at hl8
    rcases hr with rfl | rfl
    · show ¬ 8 < L.length + 0
      omega
    · omega
  · rcases hr with rfl | rfl
    · cases e
    · obtain ⟨z1, z2⟩ := G.rest z e
      refine ⟨z1, fun m => z2 ?_⟩
      have : z ∈ (sortR rs).map (·.1) := (hL.map _).subset m
      rw [sortR_names] at this
      rw [← rowsM_names]
      exact (hp.map _).mem_iff.mp (srt_mem.mp this)
theorem cat2 {rs : List Row} {rr : List MRow} {rt : Option Str} {w pv : V} {pd : PyData} (hp : rs.Perm (rowsM rr)) (G : G8 rr rt) (hw : W8 w) : catR (sortR rs) w (some (wdD w)) = dueR 2 rr rt w pv pd := by
  have hnd : (rs.map (·.1)).Nodup := (hp.map _).nodup_iff.mpr G.ndM
  have hok : ∀ r ∈ rs, okS r.2.2 = true := fun r hr => G.okM r (hp.mem_iff.mp hr)
  have hsn : ((sortR rs).map (·.1)).Nodup := by
    rw [sortR_names]
    exact srt_nodup hnd
  have hl8 := rr_len G.len
  have hll : ((sortR rs).map (·.1)).length = rr.length := by
    rw [List.length_map, sortR_len, hp.length_eq]
    unfold rowsM
    rw [List.length_map]
  have hmem : ∀ s, s ∈ (sortR rs).map (·.1) ↔ s ∈ rr.map (·.2.1) := fun s => by
    rw [sortR_names, ← rowsM_names]
    exact srt_mem.trans (hp.map _).mem_iff
  rw [catR_go (ovl_apart hsn (fun r hr => hok r (sortR_mem hr)) (apart_perm ((sortR_perm hnd).trans hp) G.apartM)), dueR2]
  unfold restR
  by_cases hn : w = .non
  · subst hn
    have e1 : nonO (some (wdD .non)) = true := rfl
    have e2 : ¬ badW .non = true := by decide +kernel
    have e3 : ¬ inV .non ((rr.map (·.2.1)).map V.str) = true := fun z => by
      obtain ⟨s, e, _⟩ := in_flatS z
      cases e
    rw [e1, if_pos rfl, if_neg (by omega), if_neg e2, if_neg e3, if_neg fun z => z.1 rfl]
  · have hb := nameO_badW hw hn
    have e1 : nonO (some (wdD w)) = false := by
      rcases hw with ⟨s, rfl, _⟩ | rfl | h
      · rfl
      · exact absurd rfl hn
      · simp only [oddW, List.mem_cons, List.not_mem_nil, or_false] at h
        rcases h with rfl | rfl | rfl | rfl <;> rfl
    rw [e1, if_neg Bool.false_ne_true]
    cases e2 : badW w with
    | true =>
      have hb : nameO (some (wdD w)) = false := by rw [hb, e2]; rfl
      rw [hb, if_pos rfl, if_pos rfl]
    | false =>
      have hb : nameO (some (wdD w)) = true := by rw [hb, e2]; rfl
      have n2 : ¬ badW w = true := by rw [e2]; exact Bool.false_ne_true
      have tf : ¬ true = false := by decide
      rw [hb, if_neg tf, if_neg Bool.false_ne_true]
      obtain ⟨s, rfl, hs⟩ := hw.str n2 hn
      have e3 : inNames ((sortR rs).map (·.1)) (some (wdD (.str s))) = inV (.str s) ((rr.map (·.2.1)).map V.str) := by
        rw [in_rows]
        exact decide_eq_decide.mpr (hmem s)
      rw [e3]
      cases e4 : inV (.str s) ((rr.map (·.2.1)).map V.str) with
      | true => rw [if_pos rfl, if_pos rfl]
      | false =>
        rw [if_neg Bool.false_ne_true, if_neg Bool.false_ne_true, hll]
        by_cases e5 : rr.length = 8
        · rw [if_pos (by omega), if_pos ⟨hn, e5⟩]
        · rw [if_neg (by omega), if_neg fun z => e5 z.2]
theorem dueR_le0 {rr : List MRow} {rt : Option Str} {w pv : V} {pd : PyData} {way : Int} {n : Nat} {v : V} (h : dueR way rr rt w pv pd = some (n, v)) : n = 1 ∨ n = 2 ∨ n = 3 ∨ n = 4 ∨ n = 5 ∨ n = 6 := by
  unfold dueR at h
  repeat' split at h
  all_goals
    first
      | (cases h; done)
      | (have e := congrArg (fun o => o.map Prod.fst) h
         simp at e
         omega)
def toldHs {K : PySem.W.Frag} {mg : Str → Option Value} {base : Heap} (T : Txt K mg base) : List (Value × (Addr → Value → Option Addr → TS)) :=
  [(Value.ref T.C_InvalidName, fun a cls d => tRet (tLst (tCons (tC (V.str "name")) (tCons (tXf a cls d T.C_InvalidName "value" (tVar 4)) tNil)))), (Value.ref T.C_InvalidSpan, fun a cls d => tRet (tLst (tCons (tC (V.str "span")) (tCons (tXf a cls d T.C_InvalidSpan "value" (tVar 4)) tNil)))), (Value.ref T.C_NameTaken, fun a cls d => tRet (tLst (tCons (tC (V.str "taken")) (tCons (tXf a cls d T.C_NameTaken "name" (tVar 4)) tNil)))),
  (Value.ref T.C_Overlap, fun a cls d => tRet (tLst (tCons (tC (V.str "overlap")) (tCons (tXf a cls d T.C_Overlap "name" (tVar 4)) tNil)))), (Value.ref T.C_UnknownPart, fun a cls d => tRet (tLst (tCons (tC (V.str "part")) (tCons (tXf a cls d T.C_UnknownPart "name" (tVar 4)) tNil)))), (Value.ref T.C_TooMany, fun a cls d => tRet (tLst (tCons (tC (V.str "many")) (tCons (tXf a cls d T.C_TooMany "bound" (tVar 4)) tNil))))]
theorem dueR_n6 {rr : List MRow} {rt : Option Str} {w pv : V} {pd : PyData} {way : Int} {q : Nat × V} (hw : way ≠ 1) (h : dueR way rr rt w pv pd = some q) : q.1 ≠ 6 := by
  unfold dueR at h
  rw [if_neg hw] at h
  repeat' split at h
  all_goals
    first
      | (cases h; done)
      | (cases h; simp)
theorem nxT2 (rt : Option Str) (w : V) : rtO (some (wdD w)) = nxT 2 rt w := by
  unfold nxT
  rw [if_neg (by decide), if_neg (by decide)]
  cases w <;> rfl
def sp_lspan8 (K : PySem.W.Frag) : Sp := fun vs H Q _ => ∃ (H0 : Hp) (p : Addr) (n : Nat) (q : Addr) (rr : List MRow) (rt : Option Str), vs = [.ref p, .ref q] ∧ BoxIn H0 H p n ∧ M8 H0 q rr rt ∧ rr.length ≤ 8 ∧ n + 4 < 1000000 ∧
  ∀ (H1 H' : Hp) (v : V) (pd : PyData), Same H0 H1 → BoxIn H1 H' p (n + 2) → P8 K H1 v pd → Q v H'
def limsS (s : Span) : List Int := [s.1, s.2].filterMap id
theorem limsS_V (s : Span) : ((spV s).filter fun v => !decide (v = V.non)) = (limsS s).map V.int := by
  obtain ⟨a, b⟩ := s
  cases a <;> cases b <;> rfl
theorem limsS_len (s : Span) : (limsS s).length ≤ 2 := List.length_filterMap_le _ _
/-! the state behind a turn -/
theorem G8.of {rr : List MRow} {rt : Option Str} (h1 : ∀ r ∈ rowsM rr, okS r.2.2 = true) (h2 : (rowsM rr).Pairwise fun a b => meetL a.2.2 b.2.2 = false) (h3 : ∀ s ∈ (rowsM rr).map (·.1) ++ rt.toList, nameS s = true) (h4 : ((rowsM rr).map (·.1) ++ rt.toList).Nodup) (h5 : ((rowsM rr).map (·.1) ++ rt.toList).length ≤ 8) : G8 rr rt := by
  rw [rowsM_names] at h3 h4 h5
  refine ⟨fun r hr => h1 _ (List.mem_map.mpr ⟨r, hr, rfl⟩), ?_, h3, h4, h5⟩
  unfold rowsM at h2
  rw [List.pairwise_map] at h2
  exact h2
theorem G8.next {K : PySem.W.Frag} {H : Hp} {way : Int} {rr rr' : List MRow} {rt : Option Str} {w pv : V} {pd : PyData} (G : G8 rr rt) (hway : way = 0 ∨ way = 1 ∨ way = 2) (hw : W8 w) (hn : way < 2 → w ≠ .non) (hp : P8 K H pv pd) (hd : dueR way rr rt w pv pd = none) (e : rowsM rr' = nxR way (rowsM rr) w pv pd) : G8 rr' (nxT way rt w) := by
  have gnm := G.nms
  have gnd := G.nd
  have gln := G.len
  have enm : (rowsM rr).map (·.1) ++ rt.toList = namesM rr rt := by
    rw [rowsM_names]
    rfl
  rcases hway with rfl | rfl | rfl
  · rw [dueR0] at hd
    split at hd
    · cases hd
    · rename_i n1
      split at hd
      · cases hd
      · rename_i n2
        split at hd
        · cases hd
        · rename_i n3
          split at hd
          · cases hd
          · rename_i e4
            split at hd
            · cases hd
            · rename_i n5
              obtain ⟨s, rfl, hs⟩ := hw.str n1 (hn (by decide))
              obtain ⟨a, sp, rfl, _, ok, rfl⟩ := hp.sp (by simpa using n2)
              have e : rowsM rr' = rowsM rr ++ [(s, a, sp)] := by
                rw [e]
                show rowsM rr ++ [(s, a, spOf (spD sp))] = _
                rw [spOf_spD]
              have hsn : s ∉ namesM rr rt := fun z => n3 (by rw [in_rows]; exact decide_eq_true z)
              have perm : ((rowsM rr').map (·.1) ++ rt.toList).Perm (s :: namesM rr rt) := by
                rw [e, List.map_append, List.append_assoc, ← enm]
                exact List.perm_middle
              show G8 rr' rt
              refine G8.of (fun r hr => ?_) ?_ (fun z hz => ?_) ?_ ?_
              · rw [e] at hr
                rcases List.mem_append.mp hr with hr | hr
                · exact G.okM r hr
                · rw [List.mem_singleton.mp hr]; exact ok
              · rw [e]
                refine List.pairwise_append.mpr ⟨G.apartM, List.pairwise_singleton _ _, fun u hu w hw => ?_⟩
                rw [List.mem_singleton.mp hw]
                obtain ⟨m, hm, rfl⟩ := List.mem_map.mp hu
                cases q : meetL m.2.2.2 sp with
                | false => rfl
                | true =>
                  have : m.2.1 ∈ overM rr (spD sp) := by
                    unfold overM
                    rw [spOf_spD]
                    exact srt_mem.mpr (List.mem_map.mpr ⟨m, List.mem_filter.mpr ⟨hm, q⟩, rfl⟩)
                  rw [List.head?_eq_none_iff.mp e4] at this
                  cases this
              · rcases List.mem_cons.mp (perm.mem_iff.mp hz) with rfl | hz
                · exact hs
                · exact gnm z hz
              · exact perm.nodup_iff.mpr (List.nodup_cons.mpr ⟨hsn, gnd⟩)
              · rw [perm.length_eq, List.length_cons]
                omega
  · have e : rowsM rr' = lessR (rowsM rr) (strW w) := e
    have sub : (rowsM rr').Sublist (rowsM rr) := by rw [e]; exact lessR_sub
    have sub2 : ((rowsM rr').map (·.1) ++ (nxT 1 rt w).toList).Sublist (namesM rr rt) := by
      rw [← enm]
      refine (sub.map _).append ?_
      unfold nxT
      rw [if_neg (by decide), if_pos rfl]
      split
      · exact List.nil_sublist _
      · exact List.Sublist.refl _
    exact G8.of (fun r hr => G.okM r (sub.subset hr)) (G.apartM.sublist sub) (fun z hz => gnm z (sub2.subset hz)) (gnd.sublist sub2) (Nat.le_trans sub2.length_le gln)
  · have e : rowsM rr' = rowsM rr := e
    rw [dueR2] at hd
    split at hd
    · cases hd
    · rename_i n1
      split at hd
      · cases hd
      · rename_i n2
        split at hd
        · cases hd
        · rename_i n3
          have hl : (rowsM rr).length = rr.length := by unfold rowsM; rw [List.length_map]
          have hl8 := rr_len gln
          refine G8.of (by rw [e]; exact G.okM) (by rw [e]; exact G.apartM) ?_ ?_ ?_
          all_goals rw [e]
          · intro z hz
            rcases List.mem_append.mp hz with hz | hz
            · exact gnm z (by rw [← enm]; exact List.mem_append_left _ hz)
            · rcases hw with ⟨s, rfl, hs⟩ | rfl | h
              · have : z = s := List.mem_singleton.mp hz
                rw [this]; exact hs
              · cases hz
              · exact absurd (badW_of h) n1
          · have nd1 := G.ndM
            rcases hw with ⟨s, rfl, hs⟩ | rfl | h
            · refine List.nodup_append.mpr ⟨nd1, List.nodup_cons.mpr ⟨List.not_mem_nil, List.nodup_nil⟩, fun u hu w hw z => n2 ?_⟩
              have : w = s := List.mem_singleton.mp hw
              rw [in_rows, ← this, ← z]
              rw [rowsM_names] at hu
              exact decide_eq_true hu
            · show ((rowsM rr).map (fun r : Row => r.1) ++ []).Nodup
              rw [List.append_nil]
              exact nd1
            · exact absurd (badW_of h) n1
          · rw [List.length_append, List.length_map, hl]
            rcases hw with ⟨s, rfl, hs⟩ | rfl | h
            · have : rr.length ≠ 8 := fun z => n3 ⟨(by intro z; cases z), z⟩
              show rr.length + 1 ≤ 8
              omega
            · show rr.length + 0 ≤ 8
              omega
            · exact absurd (badW_of h) n1
theorem rowOf_perm {rs rs' : List Row} (hp : rs.Perm rs') (hnd : (rs'.map (·.1)).Nodup) {y : Str} (hy : y ∈ rs'.map (·.1)) : rowOf rs y = rowOf rs' y := by
  have hnd2 : (rs.map (·.1)).Nodup := (hp.map _).nodup_iff.mpr hnd
  obtain ⟨r, hr, rfl⟩ := List.mem_map.mp hy
  rw [rowOf_self hnd r hr, rowOf_self hnd2 r (hp.mem_iff.mpr hr)]
theorem sortR_eq {rs rs' : List Row} (hp : rs.Perm rs') (hnd : (rs'.map (·.1)).Nodup) : sortR rs = sortR rs' := by
  unfold sortR
  have e : srtS (rs.map (·.1)) = srtS (rs'.map (·.1)) := srt_perm (hp.map _)
  rw [e]
  exact List.map_congr_left fun y hy => rowOf_perm hp hnd (srt_mem.mp hy)
theorem findD_of : ∀ {l : List (Key × PyData)}, (l.map (·.1)).Nodup → ∀ p ∈ l, findD l p.1 = some p.2
  | x :: r, nd, p, hp => by
    have nd' := List.nodup_cons.mp (show (x.1 :: r.map (·.1)).Nodup from nd)
    rcases List.mem_cons.mp hp with rfl | hp
    · exact if_pos rfl
    · have ne : ¬ x.1 = p.1 := fun z => nd'.1 (by rw [z]; exact List.mem_map.mpr ⟨p, hp, rfl⟩)
      exact (if_neg ne).trans (findD_of nd'.2 p hp)
theorem ceq_true {rs rs' : List Row} {rt : Option Str} (hp : rs.Perm rs') (hnd : (rs'.map (·.1)).Nodup) : ceqB rs rs' rt rt = true := by
  unfold ceqB
  have e1 : sortD rs = sortD rs' := by
    unfold sortD
    rw [sortR_eq hp hnd]
  have e2 : entsEq (sortD rs') (sortD rs') = true := by
    unfold entsEq
    refine List.all_eq_true.mpr fun p hpm => ?_
    have nd : ((sortD rs').map (·.1)).Nodup := by
      unfold sortD
      rw [List.map_map]
      have h1 : ((sortR rs').map (·.1)).Nodup := by
        rw [sortR_names]
        exact srt_nodup hnd
      unfold List.Nodup at h1 ⊢
      rw [List.pairwise_map] at h1 ⊢
      exact h1.imp fun h e => h (Sum.inr.inj e)
    rw [findD_of nd p hpm]
    obtain ⟨r, hr, rfl⟩ := List.mem_map.mp hpm
    exact SeqAt.eqv_refl _ (shaped_iff.mp (shaped_sp _)).1
  rw [e1, e2, hp.length_eq]
  simp
def WhAt (H : Hp) (q : Addr) (left : List Str) : Prop := ∃ x y ll, H q = some (.lst [x, y, .ref ll]) ∧ H ll = some (.lst (left.map V.str))
theorem WhAt.mono {H H' : Hp} {q : Addr} {left : List Str} (s : Same H H') (h : WhAt H q left) : WhAt H' q left := by
  obtain ⟨x, y, ll, h1, h2⟩ := h
  exact ⟨x, y, ll, s _ _ h1, s _ _ h2⟩
/-- the state of a turn: what stands beside the box -/
structure St8 (K : PySem.W.Frag) (C P : Addr) (H : Hp) (p : Addr) (n : Nat) (a : Addr) (ns : List Int) (q : Addr) (left : List Str) (m : Addr) (rr : List MRow) (rt : Option Str) (x : Addr) (rs : List Row) : Prop where
  S : LS H p n P
  A : SqL K (nb H p) a (ns.map V.int)
  W : WhAt (nb H p) q left
  M : M8 (nb H p) m rr rt
  C : CatAt K C (nb H p) x rs rt
theorem St8.ex {K : PySem.W.Frag} {C P : Addr} {H H' : Hp} {p : Addr} {n n' : Nat} {a : Addr} {ns : List Int} {q : Addr} {left : List Str} {m : Addr} {rr : List MRow} {rt : Option Str} {x : Addr} {rs : List Row} (h : St8 K C P H p n a ns q left m rr rt x rs) (e : EX [p] H H') (S : LS H' p n' P) : St8 K C P H' p n' a ns q left m rr rt x rs :=
  have s := nb_ex e
  ⟨S, s.seq h.A, h.W.mono s, h.M.mono s, h.C.mono s⟩
theorem St8.keep {K : PySem.W.Frag} {C P : Addr} {H H' : Hp} {p : Addr} {n : Nat} {a : Addr} {ns : List Int} {q : Addr} {left : List Str} {m : Addr} {rr : List MRow} {rt : Option Str} {x : Addr} {rs : List Row} (h : St8 K C P H p n a ns q left m rr rt x rs) (s : Same H H') : St8 K C P H' p n a ns q left m rr rt x rs := h.ex (.same s) (h.S.keep s)
theorem St8.draw {K : PySem.W.Frag} {C P : Addr} {H H' : Hp} {p : Addr} {n n' : Nat} {a : Addr} {ns : List Int} {q : Addr} {left : List Str} {m : Addr} {rr : List MRow} {rt : Option Str} {x : Addr} {rs : List Row} (h : St8 K C P H p n a ns q left m rr rt x rs) (B : BoxIn (but H p) H' p n') : St8 K C P H' p n' a ns q left m rr rt x rs := h.ex (ex_of B) (h.S.after B)
theorem St8.mono {K : PySem.W.Frag} {C P : Addr} {H : Hp} {p : Addr} {n n' : Nat} {a : Addr} {ns : List Int} {q : Addr} {left : List Str} {m : Addr} {rr : List MRow} {rt : Option Str} {x : Addr} {rs : List Row} (h : St8 K C P H p n a ns q left m rr rt x rs) (e : n ≤ n') : St8 K C P H p n' a ns q left m rr rt x rs := ⟨h.S.mono e, h.A, h.W, h.M, h.C⟩
theorem nb_but (H : Hp) (p : Addr) : Same (nb H p) (but H p) := fun b o e => by
  obtain ⟨h1, h2, _⟩ := nb_some e
  rw [but_ne h1]
  exact h2
theorem nd_nbb (H : Hp) (p : Addr) : ND (but H p) (nb H p) := fun b o e z => by
  by_cases h : b = p
  · rw [h, but_same] at e
    cases e
  · rw [but_ne h] at e
    exact nb_of h e fun ps w => by
      rw [w] at z
      cases z
theorem but_in {H1 H' : Hp} {p : Addr} (s : Same H1 H') (h : H1 p = none) : Same H1 (but H' p) := fun b o e => by
  have : b ≠ p := fun z => by
    rw [z, h] at e
    cases e
  rw [but_ne this]
  exact s _ _ e
theorem wc8_made {way : Int} {rr : List MRow} {rt : Option Str} {w pv : V} {pd : PyData} {n : Nat} {v : V} (h : dueR way rr rt w pv pd = some (n, v)) : decide (V.str (wc8 n) = V.str "made") = false := by
  rcases dueR_le0 h with e | e | e | e | e | e <;> subst e <;> decide +kernel
theorem dueR_sure {K : PySem.W.Frag} {H : Hp} {way : Int} {rr : List MRow} {rt : Option Str} {w pv : V} {pd : PyData} {n : Nat} {v : V} (hw : W8 w) (hp : P8 K H pv pd) (h : dueR way rr rt w pv pd = some (n, v)) : sureV v = true := by
  have h1 : sureV w = true := (hw.vd (K := K) (H := H)).sure
  have h2 := hp.vd.sure
  unfold dueR at h
  repeat' split at h
  all_goals
    first
      | (cases h; done)
      | (cases h; first | exact h1 | exact h2 | rfl)
theorem D8.nd {H H' : Hp} {b : Addr} {r : Option (Nat × V)} {p : Addr} {rows : List Row} {rt : Option Str} (s : ND H H') (h : D8 H b r p rows rt) : D8 H' b r p rows rt := by
  unfold D8 at h ⊢
  split at h
  · exact s _ _ h rfl
  · obtain ⟨q, rr, h1, h2, h3⟩ := h
    exact ⟨q, rr, s _ _ h1 rfl, h2.nd (nd_but s), h3⟩
theorem catM {rr : List MRow} {rt : Option Str} (G : G8 rr rt) : catR (rowsM rr) (rvO rt) (some (rtD rt)) = none := by
  rw [catR_go (ovl_apart G.ndM G.okM G.apartM), restR_rt fun z e => by rw [rowsM_names]; exact G.rest z e]
  refine if_neg ?_
  have := G.len
  unfold namesM at this
  rw [List.length_append, List.length_map] at this
  unfold rowsM
  rw [List.length_map, List.length_map]
  omega
def odd5 : List V := [.non, .str "table", .str "", .int 5, .str "A"]
theorem odd5_cut {z : Int} (h0 : 0 ≤ z) (h5 : z < 5) : ∃ w, w ∈ odd5 ∧ cutV (cutV odd5 (some z) none) none (some 1) = [w] := by
  obtain ⟨k, rfl⟩ := Int.eq_ofNat_of_zero_le h0
  have hk : k < 5 := by omega
  rw [cut_dropV odd5 (i := k) (by show k ≤ 5; omega)]
  have h1 : (odd5.drop k).length = 5 - k := by rw [List.length_drop]; rfl
  rw [show (some (1 : Int)) = some ((1 : Nat) : Int) from rfl, cut_takeV _ (i := 1) (by omega)]
  have e : (odd5.drop k) = odd5[k]'(by show k < 5; omega) :: odd5.drop (k + 1) := List.drop_eq_getElem_cons (by show k < 5; omega)
  rw [e]
  exact ⟨_, List.getElem_mem _, rfl⟩
theorem W8.of5 {w : V} (h : w ∈ odd5) : W8 w := by
  simp only [odd5, List.mem_cons, List.not_mem_nil, or_false] at h
  rcases h with rfl | rfl | rfl | rfl | rfl
  · exact .inr (.inl rfl)
  · exact .inr (.inr (by simp [oddW]))
  · exact .inr (.inr (by simp [oddW]))
  · exact .inr (.inr (by simp [oddW]))
  · exact .inr (.inr (by simp [oddW]))
theorem zzz_ok : nameS "zzz" = true := by decide +kernel
/-- both tell the same -/
theorem told_due {K : PySem.W.Frag} {C : Addr} {H0 H : Hp} {b : Addr} {r : Option (Nat × V)} {t d : Addr} {rows : List Row} {rt : Option Str} (h1 : D8 H b r d rows rt) (h2 : T8 K C H0 H r t rows rt) :
    (∃ n v, r = some (n, v) ∧ H d = some (.lst [.str (wc8 n), v]) ∧ H t = some (.lst [.str (wc8 n), v])) ∨
    (r = none ∧ ∃ q rr x rs, H d = some (.lst [.str "made", .ref q]) ∧ H t = some (.lst [.str "made", .ref x]) ∧ M8 (but H b) q rr rt ∧ rowsM rr = rows ∧ CatNew K C H0 H x rs rt ∧ rs.Perm rows) := by
  cases r with
  | some q => exact .inl ⟨q.1, q.2, rfl, h1, h2⟩
  | none =>
    obtain ⟨q, rr, a1, a2, a3⟩ := h1
    obtain ⟨x, rs, b1, b2, b3⟩ := h2
    exact .inr ⟨rfl, q, rr, x, rs, a1, b1, a2, a3, b2, b3⟩
/-! ### keys given to parts: promises -/
def sp_crest (K : PySem.W.Frag) (C : Addr) : Sp := fun vs H Q _ => ∃ (x : Addr) (rs : List Row) (rt : Option Str), vs = [.ref x] ∧ CatAt K C H x rs rt ∧ Q (rvO rt) H
def sp_clen (K : PySem.W.Frag) (C : Addr) : Sp := fun vs H Q _ => ∃ (x : Addr) (rs : List Row) (rt : Option Str), vs = [.ref x] ∧ CatAt K C H x rs rt ∧ Q (.int (nmsC rs rt).length) H
def sp_chas6 (K : PySem.W.Frag) (C : Addr) : Sp := fun vs H Q _ => ∃ (x : Addr) (w : V) (o : Option PyData) (rs : List Row) (rt : Option Str), vs = [.ref x, w] ∧ VD K H w o ∧ CatAt K C H x rs rt ∧ (∀ s ∈ nmsC rs rt, nameS s = true) ∧ Q (.bl (inO (nmsC rs rt) o)) H
/-- what a name has -/
def getR (rs : List Row) (s : Str) : V := match rs.find? fun r => decide (r.1 = s) with
  | some r => .ref r.2.1
  | none => .non
theorem getR_val (rs : List Row) (s : Str) : (valV (rs.map rKV) (.inr s)).getD .non = getR rs s := by
  unfold getR
  induction rs with
  | nil => rfl
  | cons r t ih =>
    rw [List.map_cons, List.find?_cons]
    by_cases e : r.1 = s
    · rw [valV_pos (p := rKV r) (by rw [← e]; rfl), decide_eq_true e]
      rfl
    · rw [valV_neg (p := rKV r) (fun z => e (Sum.inr.inj z)), decide_eq_false e]
      exact ih
def sp_cspan (K : PySem.W.Frag) (C CU : Addr) : Sp := fun vs H Q E => ∃ (x : Addr) (w : V) (o : Option PyData) (rs : List Row) (rt : Option Str), vs = [.ref x, w] ∧ VD K H w o ∧ CatAt K C H x rs rt ∧ (∀ s ∈ nmsC rs rt, nameS s = true) ∧
  (inO (nmsC rs rt) o = false → Rz H E CU "name" w) ∧ ∀ s, o = some (.str s) → inO (nmsC rs rt) o = true → ∀ H', Same H H' → Q (getR (sortR rs) s) H'
def sp_cpart6 (K : PySem.W.Frag) (C CK : Addr) : Sp := fun vs H Q E => ∃ (x : Addr) (v : V) (o : Option PyData) (rs : List Row) (rt : Option Str), vs = [.ref x, v] ∧ VD K H v o ∧ CatAt K C H x rs rt ∧ (intO o = false → Rz H E CK "value" v) ∧
  (intO o = true → ∃ k st, v = .int k ∧ (strT (rvO rt) (ordR (sortR rs))).find? (fun st => hiB st.2.1 k) = some st ∧ ∀ H', Same H H' → Q st.2.2 H')
def sp_limit_text : Sp := fun vs H Q _ => ∃ o : Option Int, vs = [limV o] ∧ smO o ∧ Q (.str (limS o)) H
def sp_span_text (K : PySem.W.Frag) (CS : Addr) : Sp := fun vs H Q E => ∃ (v : V) (o : Option PyData), vs = [v] ∧ VD K H v o ∧ (spanO o = false → Rz H E CS "value" v) ∧ ∀ s : Span, o = some (spD s) → okS s = true → smO s.1 ∧ smO s.2 ∧ ∀ H', Same H H' → Q (.str (spS s)) H'
def rowT (r : Row) : Str := ((Str.empty ++ r.1) ++ (" " : Str)) ++ spS r.2.2
def restT (s : Str) : Str := (Str.empty ++ ("rest " : Str)) ++ s
/-- the text of a catalog -/
def catS (rs : List Row) (rt : Option Str) : Str := if (nmsC rs rt).isEmpty = true then "empty" else Txt.join "; " ((sortR rs).map rowT ++ rt.toList.map restT)
def sp_cstr6 (K : PySem.W.Frag) (C : Addr) : Sp := fun vs H Q _ => ∃ (x : Addr) (rs : List Row) (rt : Option Str), vs = [.ref x] ∧ CatAt K C H x rs rt ∧ (rs.map (·.1)).Nodup ∧ rs.length ≤ 8 ∧ (∀ r ∈ rs, smO r.2.2.1 ∧ smO r.2.2.2) ∧ (∀ s, rt = some s → nameS s = true) ∧ ∀ H' t, t = catS rs rt → Same H H' → Q (.str t) H'
theorem rowT_len {r : Row} (h1 : nameS r.1 = true) (h2 : smO r.2.2.1) (h3 : smO r.2.2.2) : (rowT r).length ≤ 80 := by
  have a1 := nameC_len h1
  have a2 := (limS_ok h2).1
  have a3 := (limS_ok h3).1
  have z : (" " : Str).length = 1 := by decide +kernel
  have z2 : (".." : Str).length = 2 := by decide +kernel
  unfold rowT spS
  rw [emp_app, Str.length_append, Str.length_append, Str.length_append, Str.length_append]
  omega
theorem sum_le6 {m : Nat} : ∀ {ys : List Str}, (∀ y ∈ ys, y.length ≤ m) → (ys.map (·.length)).sum ≤ ys.length * m
  | [], _ => by simp
  | y :: r, h => by
    have h1 := h y List.mem_cons_self
    have h2 := sum_le6 (ys := r) fun z hz => h z (List.mem_cons_of_mem _ hz)
    rw [List.map_cons, List.sum_cons, List.length_cons, Nat.add_mul]
    omega
/-! models: rows, rest, whatever else -/
structure MG (H : Hp) (q : Addr) (rr : List MRow) (rt : Option Str) : Prop where
  at_ : ∃ lr ys, H q = some (.lst (.ref lr :: rvO rt :: ys)) ∧ H lr = some (.lst (rr.map fun r => V.ref r.1))
  rows : ∀ r ∈ rr, rowAt H r
theorem MG.nd {H H' : Hp} {q : Addr} {rr : List MRow} {rt : Option Str} (s : ND H H') (h : MG H q rr rt) : MG H' q rr rt := by
  obtain ⟨⟨lr, ys, h1, h2⟩, h3⟩ := h
  exact ⟨⟨lr, ys, s _ _ h1 rfl, s _ _ h2 rfl⟩, fun r hr => ⟨s _ _ (h3 r hr).1 rfl, s _ _ (h3 r hr).2 rfl⟩⟩
theorem MG.mono {H H' : Hp} {q : Addr} {rr : List MRow} {rt : Option Str} (s : Same H H') (h : MG H q rr rt) : MG H' q rr rt := h.nd (.of s)
theorem MG.ofMd {H : Hp} {q : Addr} {rr : List MRow} {rt : Option Str} {left : List Str} (h : MdAt H q rr rt left) : MG H q rr rt := by
  obtain ⟨⟨lr, ll, h1, h2, h3⟩, h4, _⟩ := h
  exact ⟨⟨lr, [.ref ll], h1, h2⟩, h4⟩
theorem G8.ofMd {H : Hp} {q : Addr} {rr : List MRow} {rt : Option Str} {left : List Str} (h : MdAt H q rr rt left) (hl : rr.length ≤ 7) : G8 rr rt := by
  obtain ⟨_, _, hok, hch, hnm, hnd⟩ := h
  have sub : (namesM rr rt).Sublist (rr.map (·.2.1) ++ (rt.toList ++ left)) := by
    unfold namesM
    exact (List.Sublist.refl _).append (List.sublist_append_left _ _)
  refine ⟨hok, ?_, fun s hs => hnm s (sub.subset hs), hnd.sublist sub, ?_⟩
  · have hpw : rr.Pairwise fun a b => ∃ h l, a.2.2.2.2 = some h ∧ b.2.2.2.1 = some l ∧ h ≤ l := by
      have h : List.Pairwise _ (rr.map (·.2.2.2)) := hch
      rwa [List.pairwise_map] at h
    refine hpw.imp fun {u v} h => ?_
    obtain ⟨h, l, e1, e2, e3⟩ := h
    unfold meetL
    rw [e1, e2]
    show (ok2 u.2.2.2.1 v.2.2.2.2 && decide (l < h)) = false
    rw [decide_eq_false (by omega), Bool.and_false]
  · unfold namesM
    rw [List.length_append, List.length_map]
    have : rt.toList.length ≤ 1 := by cases rt <;> simp
    omega
theorem catP {rs : List Row} {rr : List MRow} {rt : Option Str} (hp : rs.Perm (rowsM rr)) (G : G8 rr rt) : catR rs (rvO rt) (some (rtD rt)) = none := by
  have hnd : (rs.map (·.1)).Nodup := (hp.map _).nodup_iff.mpr G.ndM
  rw [catR_go (ovl_apart hnd (fun r hr => G.okM r (hp.mem_iff.mp hr)) (apart_perm hp G.apartM)), restR_rt fun z e => ⟨(G.rest z e).1, fun m => (G.rest z e).2 (by rw [← rowsM_names]; exact (hp.map _).mem_iff.mp m)⟩]
  refine if_neg ?_
  have := G.len
  unfold namesM at this
  rw [List.length_append, List.length_map] at this
  have h2 := hp.length_eq
  unfold rowsM at h2
  rw [List.length_map] at h2
  rw [List.length_map]
  omega
def sp_lall6 : Sp := fun vs H Q _ => ∃ (q : Addr) (rr : List MRow) (rt : Option Str), vs = [.ref q] ∧ MG H q rr rt ∧ rr.length ≤ 50 ∧ ∀ H' p, Same H H' → H p = none → H' p = some (.lst ((srtS (namesM rr rt)).map V.str)) → Q (.ref p) H'
def sp_lcatG (K : PySem.W.Frag) (C P : Addr) : Sp := fun vs H Q _ => ∃ (p : Addr) (n : Nat) (q : Addr) (rr : List MRow) (rt : Option Str), vs = [.ref p, .ref q] ∧ LS H p n P ∧ MG (nb H p) q rr rt ∧ G8 rr rt ∧ n + 20 < 1000000 ∧
  ∀ (H' : Hp) (x : Addr) (rs : List Row), EX [p] H H' → LS H' p (n + 20) P → CatAt K C (nb H' p) x rs rt → rs.Perm (rowsM rr) → Q (.ref x) H'
def sp_lkeys : Sp := fun vs H Q _ => ∃ (q : Addr) (rr : List MRow) (rt : Option Str), vs = [.ref q] ∧ MG H q rr rt ∧ rr.length ≤ 7 ∧ ∀ H' p ns, Same H H' → H p = none → H' p = some (.lst (ns.map V.int)) → List.length ns ≤ 60 → Q (.ref p) H'
theorem lkSp (d : Addr) (rv : V) (l p : Addr) : (fsC d rv l p).lookup ("span" : Str) = none := by simp [fsC, List.lookup, sb "span" "_spans", sb "span" "_rest", sb "span" "_names", sb "span" "_stretches"]
/-- what is told of a name -/
def toldL (rs : List Row) (ns : List Str) (v : V) (o : Option PyData) : List V := if inO ns o = true then [.str "told", getR (sortR rs) (match o with
  | some (.str s) => s
  | _ => Str.empty)] else [.str "part", v]
def sp_ltold6 (K : PySem.W.Frag) (C : Addr) : Sp := fun vs H Q _ => ∃ (n : Int) (x : Addr) (v : V) (o : Option PyData) (rs : List Row) (rt : Option Str), vs = [.int n, .ref x, v] ∧ CatAt K C H x rs rt ∧ VD K H v o ∧ (∀ s ∈ nmsC rs rt, nameS s = true) ∧
  ((n = 0 ∧ intO o = false ∧ ∀ H' p, Same H H' → H p = none → H' p = some (.lst [.str "key", v]) → Q (.ref p) H') ∨ (n = 1 ∧ ∀ H' p, Same H H' → H p = none → H' p = some (.lst (toldL rs (nmsC rs rt) v o)) → Q (.ref p) H'))
def sp_lasked (K : PySem.W.Frag) (C P : Addr) : Sp := fun vs H Q _ => ∃ (p : Addr) (n : Nat) (x q : Addr) (rs : List Row) (rr : List MRow) (rt : Option Str) (left : List Str), vs = [.ref p, .ref x, .ref q] ∧ LS H p n P ∧ CatAt K C (nb H p) x rs rt ∧ MdAt (nb H p) q rr rt left ∧ rs.Perm (rowsM rr) ∧ rr.length ≤ 7 ∧ 2 ≤ left.length ∧ n + 100 < 1000000 ∧
  ∀ H', EX [p] H H' → LS H' p (n + 80) P → Q (.bl true) H'
theorem cutV_mem {xs : List V} {lo hi : Option Int} {v : V} (h : v ∈ cutV xs lo hi) : v ∈ xs := by
  unfold cutV at h
  exact List.mem_of_mem_drop (List.mem_of_mem_take h)
theorem getR_perm {rs rs' : List Row} (hp : rs.Perm rs') (hnd : (rs'.map (·.1)).Nodup) (s : Str) : getR rs s = getR rs' s := by
  have hnd2 : (rs.map (·.1)).Nodup := (hp.map _).nodup_iff.mpr hnd
  have key : ∀ {l : List Row}, (l.map (·.1)).Nodup → getR l s = if s ∈ l.map (·.1) then .ref (rowOf l s).2.1 else .non := fun {l} h => by
    unfold getR rowOf
    cases q : l.find? fun r => decide (r.1 = s) with
    | none =>
      rw [if_neg fun z => ?_]
      obtain ⟨r, hr, e⟩ := List.mem_map.mp z
      have := List.find?_eq_none.mp q r hr
      simp [e] at this
    | some r =>
      have h1 := List.mem_of_find?_eq_some q
      have h2 := List.find?_some q
      have h2 : r.1 = s := of_decide_eq_true h2
      rw [if_pos (List.mem_map.mpr ⟨r, h1, h2⟩)]
      rfl
  rw [key hnd, key hnd2]
  by_cases h : s ∈ rs'.map (·.1)
  · rw [if_pos h, if_pos ((hp.map _).mem_iff.mpr h), rowOf_perm hp hnd h]
  · rw [if_neg h, if_neg fun z => h ((hp.map _).mem_iff.mp z)]
structure St6 (K : PySem.W.Frag) (C P : Addr) (H : Hp) (p : Addr) (n : Nat) (x : Addr) (rs : List Row) (q : Addr) (rr : List MRow) (rt : Option Str) (left : List Str) : Prop where
  S : LS H p n P
  C : CatAt K C (nb H p) x rs rt
  M : MdAt (nb H p) q rr rt left
section
variable {K : PySem.W.Frag} {C P : Addr} {H H' : Hp} {p : Addr} {n n' : Nat} {x : Addr} {rs : List Row} {q : Addr} {rr : List MRow} {rt : Option Str} {left : List Str}
theorem St6.ex (h : St6 K C P H p n x rs q rr rt left) (e : EX [p] H H') (S : LS H' p n' P) : St6 K C P H' p n' x rs q rr rt left :=
  have s := nb_ex e
  ⟨S, h.C.mono s, h.M.mono s⟩
theorem St6.keep (h : St6 K C P H p n x rs q rr rt left) (s : Same H H') : St6 K C P H' p n x rs q rr rt left := h.ex (.same s) (h.S.keep s)
theorem St6.draw (h : St6 K C P H p n x rs q rr rt left) (B : BoxIn (but H p) H' p n') : St6 K C P H' p n' x rs q rr rt left := h.ex (ex_of B) (h.S.after B)
end
theorem getR_sure (rs : List Row) (s : Str) : sureV (getR rs s) = true := by
  unfold getR
  split <;> rfl
def nsp (r : MRow) : Str × Span := (r.2.1, r.2.2.2)
def Near (rr rr' : List MRow) : Prop := rr.map nsp = rr'.map nsp ∨ ∃ r ∈ rr, ∀ r' ∈ rr', nsp r' ≠ nsp r
def sp_lnear (P : Addr) : Sp := fun vs H Q _ => ∃ (p : Addr) (n : Nat) (q : Addr) (rr : List MRow) (rt : Option Str) (left : List Str), vs = [.ref p, .ref q] ∧ LS H p n P ∧ MdAt (nb H p) q rr rt left ∧ rr.length ≤ 6 ∧ 2 ≤ left.length ∧ n + 20 < 1000000 ∧
  ∀ (H' : Hp) (t q1 q2 : Addr) (rr1 rr2 : List MRow) (rt1 rt2 : Option Str), EX [p] H H' → LS H' p (n + 10) P → nb H' p t = some (.tup [.ref q1, .ref q2]) → MG (nb H' p) q1 rr1 rt1 → G8 rr1 rt1 → MG (nb H' p) q2 rr2 rt2 → G8 rr2 rt2 → Near rr1 rr2 → Q (.ref t) H'
theorem LS.mut {H : Hp} {p a P : Addr} {n : Nat} {l : List V} {o : HO} (S : LS H p n P) (ha : H a = some (.lst l)) (np : a ≠ p) : LS (upd H a o) p n P :=
  ⟨by
    obtain ⟨d, s, c, h1, h⟩ := S.box
    exact ⟨d, s, c, by rw [upd_ne np.symm]; exact h1, h⟩, tabS_sx (xs := [a]) S.tab (fun b u nb e => by rw [upd_ne (by simpa using nb)]; exact e) fun z hz u hu => by
    rw [List.mem_singleton.mp hz, ha] at hu
    cases hu
    exact ⟨_, rfl⟩⟩
/-- rows copied -/
structure Cp (H0 H : Hp) (D : Addr) (cr : List MRow) : Prop where
  Dn : H0 D = none
  lst : H D = some (.lst (cr.map fun r => V.ref r.1))
  rows : ∀ r ∈ cr, rowAt H r ∧ H0 r.1 = none ∧ r.1 ≠ D
  nd : (cr.map (·.1)).Nodup
theorem Cp.ex {H0 H H' : Hp} {p D : Addr} {n : Nat} {cr : List MRow} (c : Cp H0 H D cr) (bx : BoxAt H p n) (hp : ∃ o, H0 p = some o) (e : EX [p] H H') : Cp H0 H' D cr := by
  obtain ⟨o, ho⟩ := hp
  obtain ⟨_, _, _, hb, _⟩ := bx
  have ne : ∀ {a : Addr}, H0 a = none → a ≠ p := fun e z => by
    rw [z, ho] at e
    cases e
  exact ⟨c.Dn, e _ _ (by simpa using ne c.Dn) c.lst fun ps z => (by cases z), fun r hr => by
    obtain ⟨⟨a1, a2⟩, a3, a4⟩ := c.rows r hr
    exact ⟨⟨e _ _ (by simpa using ne a3) a1 fun ps z => (by cases z), e _ _ (by simpa using ne_of a2 hb (by intro z; cases z)) a2 fun ps z => (by cases z)⟩, a3, a4⟩, c.nd⟩
theorem Cp.keep {H0 H H' : Hp} {D : Addr} {cr : List MRow} (c : Cp H0 H D cr) (s : Same H H') : Cp H0 H' D cr := ⟨c.Dn, s _ _ c.lst, fun r hr => by
  obtain ⟨⟨a1, a2⟩, a3, a4⟩ := c.rows r hr
  exact ⟨⟨s _ _ a1, s _ _ a2⟩, a3, a4⟩, c.nd⟩
theorem G8.congr {rr rr' : List MRow} {rt : Option Str} (G : G8 rr rt) (e : rr'.map nsp = rr.map nsp) : G8 rr' rt := by
  have e1 : rr'.map (·.2.1) = rr.map (·.2.1) := by
    have := congrArg (List.map Prod.fst) e
    rw [List.map_map, List.map_map] at this
    exact this
  have e2 : rr'.map (·.2.2.2) = rr.map (·.2.2.2) := by
    have := congrArg (List.map Prod.snd) e
    rw [List.map_map, List.map_map] at this
    exact this
  have en : namesM rr' rt = namesM rr rt := by
    unfold namesM
    rw [e1]
  refine ⟨fun r hr => ?_, ?_, by rw [en]; exact G.nms, by rw [en]; exact G.nd, by rw [en]; exact G.len⟩
  · have : r.2.2.2 ∈ rr.map (·.2.2.2) := by
      rw [← e2]
      exact List.mem_map.mpr ⟨r, hr, rfl⟩
    obtain ⟨r', hr', e3⟩ := List.mem_map.mp this
    rw [← e3]
    exact G.ok r' hr'
  · have h1 : (rr.map (·.2.2.2)).Pairwise fun a b => meetL a b = false := by
      rw [List.pairwise_map]
      exact G.apart
    rw [← e2, List.pairwise_map] at h1
    exact h1
/-- the same rows, another rest or another name of one of them -/
theorem G8.other {rr rr' : List MRow} {rt rt' : Option Str} (G : G8 rr rt) (e : rr'.map (·.2.2.2) = rr.map (·.2.2.2)) (nms : ∀ s ∈ namesM rr' rt', nameS s = true) (nd : (namesM rr' rt').Nodup) (hl : rr.length ≤ 7) : G8 rr' rt' := by
  refine ⟨fun r hr => ?_, ?_, nms, nd, ?_⟩
  · have : r.2.2.2 ∈ rr.map (·.2.2.2) := by
      rw [← e]
      exact List.mem_map.mpr ⟨r, hr, rfl⟩
    obtain ⟨r', hr', e3⟩ := List.mem_map.mp this
    rw [← e3]
    exact G.ok r' hr'
  · have h1 : (rr.map (·.2.2.2)).Pairwise fun a b => meetL a b = false := by
      rw [List.pairwise_map]
      exact G.apart
    rw [← e, List.pairwise_map] at h1
    exact h1
  · have h2 := congrArg List.length e
    rw [List.length_map, List.length_map] at h2
    have : rt'.toList.length ≤ 1 := by cases rt' <;> simp
    unfold namesM
    rw [List.length_append, List.length_map]
    omega
theorem G8.single {a b : Addr} {s : Str} {sp : Span} (h1 : nameS s = true) (h2 : okS sp = true) : G8 [(a, s, b, sp)] none :=
  ⟨fun r hr => by rw [List.mem_singleton.mp hr]; exact h2, List.pairwise_singleton _ _, fun z hz => by
    have : z = s := by simpa [namesM] using hz
    rw [this]; exact h1, by simp [namesM], by simp [namesM]⟩
/-- a copied row gets another name -/
theorem Cp.rep {H0 H : Hp} {D : Addr} {pre post : List MRow} {r : MRow} {s : Str} (c : Cp H0 H D (pre ++ r :: post)) : Cp H0 (upd H r.1 (.lst [.str s, .ref r.2.2.1])) D (pre ++ (r.1, s, r.2.2) :: post) := by
  obtain ⟨⟨a1, a2⟩, a3, a4⟩ := c.rows r (List.mem_append_right _ List.mem_cons_self)
  have nd := c.nd
  rw [List.map_append, List.map_cons] at nd
  have e1 : (pre ++ (r.1, s, r.2.2) :: post).map (fun x => V.ref x.1) = (pre ++ r :: post).map fun x => V.ref x.1 := by
    rw [List.map_append, List.map_append, List.map_cons, List.map_cons]
  have e2 : (pre ++ (r.1, s, r.2.2) :: post).map (·.1) = (pre ++ r :: post).map (·.1) := by
    rw [List.map_append, List.map_append, List.map_cons, List.map_cons]
  have oth : ∀ x, x ∈ pre ++ post → x.1 ≠ r.1 ∧ x ∈ pre ++ r :: post := fun x hx => by
    obtain ⟨n1, n2, n3⟩ := List.nodup_append.mp nd
    rcases List.mem_append.mp hx with hx | hx
    · exact ⟨n3 _ (List.mem_map.mpr ⟨x, hx, rfl⟩) _ List.mem_cons_self, List.mem_append_left _ hx⟩
    · exact ⟨fun z => (List.nodup_cons.mp n2).1 (by rw [← z]; exact List.mem_map.mpr ⟨x, hx, rfl⟩), List.mem_append_right _ (List.mem_cons_of_mem _ hx)⟩
  refine ⟨c.Dn, by rw [e1, upd_ne a4.symm]; exact c.lst, fun x hx => ?_, by rw [e2]; exact c.nd⟩
  by_cases h : x = (r.1, s, r.2.2)
  · rw [h]
    exact ⟨⟨upd_same, by rw [upd_ne (ne_of a2 a1 (by intro z; cases z))]; exact a2⟩, a3, a4⟩
  · have hx : x ∈ pre ++ post := by
      rcases List.mem_append.mp hx with hx | hx
      · exact List.mem_append_left _ hx
      · rcases List.mem_cons.mp hx with hx | hx
        · exact absurd hx h
        · exact List.mem_append_right _ hx
    obtain ⟨n1, n2⟩ := oth x hx
    obtain ⟨⟨b1, b2⟩, b3, b4⟩ := c.rows x n2
    exact ⟨⟨by rw [upd_ne n1]; exact b1, by rw [upd_ne (ne_of b2 a1 (by intro z; cases z))]; exact b2⟩, b3, b4⟩
theorem split_at {α : Type} {l : List α} {k : Nat} {x : α} (h : l[k]? = some x) : l = l.take k ++ x :: l.drop (k + 1) := by
  have hk := (List.getElem?_eq_some_iff.mp h).1
  conv => lhs; rw [← List.take_append_drop k l, List.drop_eq_getElem_cons hk]
  rw [(List.getElem?_eq_some_iff.mp h).2]
def sp_lunlike (P : Addr) : Sp := fun vs H Q _ => vs = [] ∧ LamX.TabS H P lamQ ∧ ∀ H', EX [] H H' → LamX.TabS H' P lamQ → Q (.bl true) H'
/-! ### catalogs made of dicts written out -/
def trOf (e : Str × Span) : TE × TE := (tC (.str e.1), tTup (tCons (tC (limV e.2.1)) (tCons (tC (limV e.2.2)) tNil)))
def nsr (r : Row) : Str × Span := (r.1, r.2.2)
def goodL (L : List (Str × Span)) (rt : Option Str) : Bool := L.all (fun e => nameS e.1 && okS e.2) && (decide (L.map (·.1)).Nodup && (decide (L.Pairwise fun a b => meetL a.2 b.2 = false) && (decide (L.length + rt.toList.length ≤ 8) && (match rt with
  | none => true
  | some s => nameS s && !decide (s ∈ L.map (·.1))))))
theorem pairs_ok {σ : L2.St} {d : Addr} : ∀ (L : List (Str × Span)) (H : Hp) (k : List (V × V) → Hp → Prop), (∀ (rs : List Row) (H' : Hp), Same H H' → rs.map nsr = L → (∀ r ∈ rs, H' r.2.1 = some (.tup (spV r.2.2))) → k (rs.map fun r => (V.str r.1, V.ref r.2.1)) H') → tPairs (L.map trOf) σ H k
  | [], H, k, h => h [] H (Same.refl H) rfl fun r hr => by cases hr
  | e :: L, H, k, h => by
    refine ⟨(by show 2 ≤ sizeLine; decide), fun a ha => ?_⟩
    have s1 := same_new (o := .tup [limV e.2.1, limV e.2.2]) ha
    refine pairs_ok (d := d) L _ _ fun rs H' s2 e2 hr => ?_
    refine h ((e.1, a, e.2) :: rs) H' (s1.trans s2) (by rw [List.map_cons, e2]; rfl) fun r hr' => ?_
    rcases List.mem_cons.mp hr' with rfl | hr'
    · exact s2 _ _ upd_same
    · exact hr r hr'
theorem disp_ok {σ : L2.St} {H : Hp} {Q : VK} {L : List (Str × Span)} (hl : L.length ≤ 15) (hnd : (L.map (·.1)).Nodup) (k : ∀ (d : Addr) (rs : List Row) (H' : Hp), Same H H' → H d = none → rs.map nsr = L → H' d = some (.dK (rs.map rKV)) → (∀ r ∈ rs, H' r.2.1 = some (.tup (spV r.2.2))) → Q (.ref d) H') : tDisp (L.map trOf) σ H Q := by
  intro p hp
  have s0 := same_new (o := .dK []) hp
  refine pairs_ok (d := p) L _ _ fun rs H' s e hr => ⟨s _ _ upd_same, rs.map rKV, by rw [List.map_map]; rfl, ?_, ?_⟩
  · have := congrArg List.length e
    rw [List.length_map] at this
    rw [List.length_map]
    omega
  · have hn : (rs.map (·.1)).Nodup := by
      have e2 : rs.map (·.1) = L.map (·.1) := by
        rw [← e, List.map_map]
        rfl
      rw [e2]
      exact hnd
    have hmk : mergeK [] (rs.map rKV) = rs.map rKV := by
      refine mergeK_nod _ [] ?_
      rw [List.nil_append, List.map_map]
      unfold List.Nodup at hn ⊢
      rw [List.pairwise_map] at hn ⊢
      exact hn.imp fun h e => h (Sum.inr.inj e)
    rw [hmk]
    refine k p rs _ (fun b o eb => ?_) hp e upd_same fun r hr' => ?_
    · rw [upd_ne (ne_of_none eb hp)]
      exact s _ _ (s0 _ _ eb)
    · have := hr r hr'
      rw [upd_ne (ne_of this (s _ _ upd_same) (by intro z; cases z))]
      exact this
theorem catL {L : List (Str × Span)} {rt : Option Str} {rs : List Row} (g : goodL L rt = true) (e : rs.map nsr = L) : (rs.map (·.1)).Nodup ∧ (∀ r ∈ rs, nameS r.1 = true ∧ okS r.2.2 = true) ∧ rs.length ≤ 8 ∧ (∀ s, rt = some s → nameS s = true) ∧ catR rs (rvO rt) (some (rtD rt)) = none := by
  unfold goodL at g
  simp only [Bool.and_eq_true, decide_eq_true_iff] at g
  obtain ⟨g1, g2, g3, g4, g5⟩ := g
  have e2 : rs.map (·.1) = L.map (·.1) := by
    rw [← e, List.map_map]
    rfl
  have hn : (rs.map (·.1)).Nodup := by
    rw [e2]
    exact g2
  have hg : ∀ r ∈ rs, nameS r.1 = true ∧ okS r.2.2 = true := fun r hr => by
    have := List.all_eq_true.mp g1 (nsr r) (by rw [← e]; exact List.mem_map.mpr ⟨r, hr, rfl⟩)
    rw [Bool.and_eq_true] at this
    exact this
  have hp : rs.Pairwise fun a b => meetL a.2.2 b.2.2 = false := by
    rw [← e, List.pairwise_map] at g3
    exact g3
  have hlen : rs.length = L.length := by rw [← e, List.length_map]
  have hr : ∀ s, rt = some s → nameS s = true ∧ s ∉ rs.map (·.1) := fun s es => by
    subst es
    have g5 : (nameS s && !decide (s ∈ L.map (·.1))) = true := g5
    rw [Bool.and_eq_true] at g5
    rw [e2]
    exact ⟨g5.1, by simpa using g5.2⟩
  refine ⟨hn, hg, by omega, fun s es => (hr s es).1, ?_⟩
  rw [catR_go (ovl_apart hn (fun r hr => (hg r hr).2) hp), restR_rt hr]
  refine if_neg ?_
  rw [List.length_map]
  omega
theorem make_core {K : PySem.W.Frag} {C P : Addr} {Cs : Nat → Addr} {H : Hp} {Q : VK} {E : XK} {L : List (Str × Span)} {rt : Option Str} {σ : L2.St} (g : goodL L rt = true) (hT : LamX.TabS H P lamQ) (k : ∀ (x : Addr) (rs : List Row) (H' : Hp), EX [] H H' → LamX.TabS H' P lamQ → CatNew K C H H' x rs rt → rs.map nsr = L → Q (.ref x) H') {S : VK} (hS : ∀ v H1, (∀ x dx, H1 x = none → H1 dx = none → dx ≠ x → sp_cinit K C Cs P [.ref x, v, rvO rt] (upd (upd H1 dx (.own x)) x (.ins C dx [])) (fun z H3 => z = .non ∧ Q (.ref x) H3) E) → S v H1) :
    tDisp (L.map trOf) σ H S := by
  have g' := g
  unfold goodL at g'
  simp only [Bool.and_eq_true, decide_eq_true_iff] at g'
  obtain ⟨_, g2, _, g4, _⟩ := g'
  refine disp_ok (by omega) g2 fun d rs H1 s1 _ e hd hr => hS _ _ fun x dx hx hdx ne => ?_
  obtain ⟨h1, h2, h3, h4, h5⟩ := catL g e
  have sM : Same H1 (upd (upd H1 dx (.own x)) x (.ins C dx [])) := fun b u e => by
    rw [upd_ne (ne_of_none e hx), upd_ne (ne_of_none e hdx)]
    exact e
  refine cinit_rowsR sM hx upd_same (sM _ _ hd) (fun r hr' => ⟨SqT.of (sM _ _ (hr r hr')), (h2 r hr').2, (h2 r hr').1⟩) h1 (by omega) h4 (hT.ext (s1.trans sM)) (fun q eq => ?_) fun _ H' ex hT' hc => ?_
  · rw [h5] at eq
    cases eq
  · exact k x rs H' ((EX.same s1).trans ex) hT' (hc.back s1) e
theorem tMake_disp {K : PySem.W.Frag} {C P : Addr} {Cs : Nat → Addr} {H : Hp} {Q : VK} {E : XK} {σ : L2.St} (L : List (Str × Span)) (g : goodL L none = true) (hT : LamX.TabS H P lamQ) (k : ∀ (x : Addr) (rs : List Row) (H' : Hp), EX [] H H' → LamX.TabS H' P lamQ → CatNew K C H H' x rs none → rs.map nsr = L → Q (.ref x) H') :
    tMake C (sp_cinit K C Cs P) [V.non] E (tCons (tDisp (L.map trOf)) tNil) σ H Q := make_core (rt := none) g hT k fun _ _ h => h
theorem tMakeKS_disp {K : PySem.W.Frag} {C P : Addr} {Cs : Nat → Addr} {H : Hp} {Q : VK} {E : XK} {σ : L2.St} {gV : List V → List V → List V} (hg : ∀ a b c, gV [a, b] [c] = [a, b, c]) (L : List (Str × Span)) (s : Str) (g : goodL L (some s) = true) (hT : LamX.TabS H P lamQ) (k : ∀ (x : Addr) (rs : List Row) (H' : Hp), EX [] H H' → LamX.TabS H' P lamQ → CatNew K C H H' x rs (some s) → rs.map nsr = L → Q (.ref x) H') :
    tMakeKS C 1 1 (sp_cinit K C Cs P) gV (fun _ => E) (tCons (tDisp (L.map trOf)) tNil) (tCons (tC (.str s)) tNil) σ H Q := by
  show tDisp (L.map trOf) σ H (fun v H1 => [v].length = 1 ∧ [V.str s].length = 1 ∧ ∀ x dx, H1 x = none → H1 dx = none → dx ≠ x → sp_cinit K C Cs P (gV (.ref x :: [v]) [.str s]) (upd (upd H1 dx (.own x)) x (.ins C dx [])) (fun z H3 => z = .non ∧ Q (.ref x) H3) E)
  refine make_core (K := K) (C := C) (P := P) (Cs := Cs) (E := E) (Q := Q) (rt := some s) g hT k fun d H1 h => ⟨rfl, rfl, fun x dx a b c => ?_⟩
  rw [hg]
  exact h x dx a b c
theorem CatAt.ex0 {K : PySem.W.Frag} {C : Addr} {H H' : Hp} {x : Addr} {rs : List Row} {rt : Option Str} (s : EX [] H H') (h : CatAt K C H x rs rt) : CatAt K C H' x rs rt := by
  obtain ⟨dx, d, l, p, xs, h1, h2, h3, h4, h5⟩ := h
  have k : ∀ {b : Addr} {o : HO}, H b = some o → (∀ ps, o ≠ .tbl ps) → H' b = some o := fun e t => s _ _ List.not_mem_nil e t
  exact ⟨dx, d, l, p, xs, k h1 (fun ps z => by cases z), k h2 (fun ps z => by cases z), k h3 (fun ps z => by cases z), h4.nd (EX.nil0 s), h5.nd (EX.nil0 s)⟩
theorem spD_eqv (s t : Span) : PyData.eqv (spD s) (spD t) = decide (s = t) := by
  obtain ⟨a, b⟩ := s
  obtain ⟨c, d⟩ := t
  rw [Bool.eq_iff_iff, decide_eq_true_iff]
  cases a <;> cases b <;> cases c <;> cases d <;> simp [spD, limD, PyData.eqv, PyData.eqvAll]
theorem findD_none {k : Key} : ∀ {l : List (Key × PyData)}, k ∉ l.map (·.1) → findD l k = none
  | [], _ => rfl
  | x :: r, h => by
    rw [List.map_cons, List.mem_cons, not_or] at h
    exact (if_neg fun z => h.1 z.symm).trans (findD_none h.2)
theorem sortD_nd {rs : List Row} (hnd : (rs.map (·.1)).Nodup) : ((sortD rs).map (·.1)).Nodup := by
  unfold sortD
  rw [List.map_map]
  have h1 : ((sortR rs).map (·.1)).Nodup := by
    rw [sortR_names]
    exact srt_nodup hnd
  unfold List.Nodup at h1 ⊢
  rw [List.pairwise_map] at h1 ⊢
  exact h1.imp fun h e => h (Sum.inr.inj e)
/-- a row that stands on one side only -/
theorem ceq_row {rs rs' : List Row} {rt rt' : Option Str} (h1 : (rs.map (·.1)).Nodup) (h2 : (rs'.map (·.1)).Nodup) {r : Row} (hr : r ∈ rs) (hn : ∀ r' ∈ rs', nsr r' ≠ nsr r) : ceqB rs rs' rt rt' = false := by
  have he : entsEq (sortD rs) (sortD rs') = false := by
    rw [Bool.eq_false_iff]
    intro z
    unfold entsEq at z
    have hm : ((.inr r.1 : Key), spD r.2.2) ∈ sortD rs := List.mem_map.mpr ⟨r, (sortR_perm h1).mem_iff.mpr hr, rfl⟩
    have z := List.all_eq_true.mp z _ hm
    by_cases hk : (Sum.inr r.1 : Key) ∈ (sortD rs').map (·.1)
    · obtain ⟨p, hp, e⟩ := List.mem_map.mp hk
      obtain ⟨r', hr', rfl⟩ := List.mem_map.mp hp
      have e : r'.1 = r.1 := Sum.inr.inj e
      have hf := findD_of (sortD_nd h2) _ hp
      have hf : findD (sortD rs') (Sum.inr r.1) = some (spD r'.2.2) := by
        rw [← e]
        exact hf
      rw [hf] at z
      have z : PyData.eqv (spD r.2.2) (spD r'.2.2) = true := z
      rw [spD_eqv, decide_eq_true_iff] at z
      refine hn r' ((sortR_perm h2).mem_iff.mp hr') ?_
      show (r'.1, r'.2.2) = (r.1, r.2.2)
      rw [e, z]
    · rw [findD_none hk] at z
      cases z
  unfold ceqB
  rw [he, Bool.and_false, Bool.false_and]
def neL (L L' : List (Str × Span)) (rt rt' : Option Str) : Bool := !decide (L.length = L'.length) || (!decide (rt = rt') || L.any fun e => L'.all fun e' => !decide (e' = e))
theorem ceq_ne {rs rs' : List Row} {rt rt' : Option Str} {L L' : List (Str × Span)} (h1 : (rs.map (·.1)).Nodup) (h2 : (rs'.map (·.1)).Nodup) (e1 : rs.map nsr = L) (e2 : rs'.map nsr = L') (h : neL L L' rt rt' = true) : ceqB rs rs' rt rt' = false := by
  unfold neL at h
  rw [Bool.or_eq_true, Bool.or_eq_true] at h
  rcases h with h | h | h
  · have : rs.length ≠ rs'.length := fun z => by
      rw [← e1, ← e2, List.length_map, List.length_map, z] at h
      simp at h
    unfold ceqB
    rw [beq_eq_false_iff_ne.mpr this, Bool.false_and, Bool.false_and]
  · have : rt ≠ rt' := by simpa using h
    unfold ceqB
    rw [decide_eq_false this, Bool.and_false]
  · obtain ⟨e, he, ha⟩ := List.any_eq_true.mp h
    rw [← e1] at he
    obtain ⟨r, hr, rfl⟩ := List.mem_map.mp he
    refine ceq_row h1 h2 hr fun r' hr' z => ?_
    have := List.all_eq_true.mp ha (nsr r') (by rw [← e2]; exact List.mem_map.mpr ⟨r', hr', rfl⟩)
    simp [z] at this
theorem seq_asg {e : TE} {g : TG} {u : TS} {D : L2.Ends} {σ : L2.St} {H : Hp} (h : e σ H fun v H1 => g v σ H1 (u D)) : tSeq (tAsg e g) u D σ H := h
theorem lst_cons {ta : TE} {tr : TA} {σ : L2.St} {H : Hp} {Q : VK} (h : ta σ H fun x H1 => tr σ H1 fun xs H2 => (x :: xs).length ≤ sizeLine ∧ ∀ p, H2 p = none → Q (.ref p) (upd H2 p (.lst (x :: xs)))) : tLst (tCons ta tr) σ H Q := h
theorem cons_cons {ta : TE} {tr : TA} {σ : L2.St} {H : Hp} {Q : List V → Hp → Prop} (h : ta σ H fun x H1 => tr σ H1 fun xs H2 => Q (x :: xs) H2) : tCons ta tr σ H Q := h
/-- a list that was there before is changed -/
theorem CatNew.mutL {K : PySem.W.Frag} {C : Addr} {H0 H : Hp} {a x : Addr} {ys : List V} {o : HO} {rs : List Row} {rt : Option Str} (h0 : ∃ u, H0 a = some u) (ha : H a = some (.lst ys)) (h : CatNew K C H0 H x rs rt) : CatAt K C (upd H a o) x rs rt := by
  obtain ⟨dx, d, l, s, xs, h1, h2, h3, h4, h5, h6, h7, h8⟩ := h
  obtain ⟨u, hu⟩ := h0
  have ne : ∀ {b : Addr}, H0 b = none → b ≠ a := fun e z => by
    rw [z, hu] at e
    cases e
  have k : ∀ {b : Addr} {o1 : HO}, b ≠ a → H b = some o1 → upd H a o b = some o1 := fun n e => by rw [upd_ne n]; exact e
  obtain ⟨zs, e1, e2, e3⟩ := h4.2
  refine ⟨dx, d, l, s, xs, k (ne_of h1 ha (by intro z; cases z)) h1, k (ne h6) h2, k (ne h7) h3, ⟨k (ne h8) h4.1, zs, e1, e2, fun z hz => k (ne_of (e3 z hz) ha (by intro z; cases z)) (e3 z hz)⟩, fun r hr => ⟨?_, (h5 r hr).2⟩⟩
  rcases (h5 r hr).1 with (h | ⟨o, h⟩) | h
  · exact .inl (.inl (k (ne_of h ha (by intro z; cases z)) h))
  · exact .inl (.inr ⟨o, k (ne_of h ha (by intro z; cases z)) h⟩)
  · exact .inr h
theorem smI_O : ∀ {o : Option Int}, smI o → smO o
  | none, _ => trivial
  | some _, h => h
/-! ### models compared by == -/
def rowD (r : MRow) : PyData := .list [.str r.2.1, spD r.2.2.2]
theorem rowD_sh {r : MRow} (h : nameS r.2.1 = true) : (rowD r).canLay0 = true ∧ (rowD r).depth ≤ 2 := by
  unfold rowD
  have s2 := shaped_sp r.2.2.2
  obtain ⟨c1, c2⟩ := shaped_iff.mp s2
  constructor
  · simp only [PyData.canLay0]
    refine canAll_mem.mpr fun d hd => ?_
    simp only [List.mem_cons, List.not_mem_nil, or_false] at hd
    rcases hd with rfl | rfl
    · simp only [PyData.canLay0]
      exact nameC_ok h
    · exact c1
  · have h1 : (spD r.2.2.2).depth ≤ 1 := by
      unfold spD
      have : PyData.depthAll [limD r.2.2.2.1, limD r.2.2.2.2] ≤ 0 := depthAll_le fun d hd => by
        simp only [List.mem_cons, List.not_mem_nil, or_false] at hd
        rcases hd with rfl | rfl
        · cases r.2.2.2.1 <;> simp [limD, PyData.depth]
        · cases r.2.2.2.2 <;> simp [limD, PyData.depth]
      simp only [PyData.depth]
      omega
    have : PyData.depthAll [.str r.2.1, spD r.2.2.2] ≤ 1 := depthAll_le fun d hd => by
      simp only [List.mem_cons, List.not_mem_nil, or_false] at hd
      rcases hd with rfl | rfl
      · simp [PyData.depth]
      · exact h1
    simp only [PyData.depth]
    omega
def mdD (rr : List MRow) (rt : Option Str) : PyData := .list [.list (rr.map rowD), rtD rt]
theorem mdD_sh {rr : List MRow} {rt : Option Str} (h : ∀ r ∈ rr, nameS r.2.1 = true) (hr : ∀ s, rt = some s → nameS s = true) : SeqAt.shaped (mdD rr rt) = true := shaped_list (n := 3) (by decide) fun d hd => by
  simp only [List.mem_cons, List.not_mem_nil, or_false] at hd
  rcases hd with rfl | rfl
  · constructor
    · simp only [PyData.canLay0]
      refine canAll_mem.mpr fun d hd => ?_
      obtain ⟨r, hr', rfl⟩ := List.mem_map.mp hd
      exact (rowD_sh (h r hr')).1
    · have : PyData.depthAll (rr.map rowD) ≤ 2 := depthAll_le fun d hd => by
        obtain ⟨r, hr', rfl⟩ := List.mem_map.mp hd
        exact (rowD_sh (h r hr')).2
      simp only [PyData.depth]
      omega
  · cases rt with
    | none => exact ⟨rfl, by simp [rtD, PyData.depth]⟩
    | some s =>
      refine ⟨?_, by simp [rtD, PyData.depth]⟩
      simp only [rtD, PyData.canLay0]
      exact nameC_ok (hr s rfl)
theorem dp_rt {K : PySem.W.Frag} {H : Hp} (rt : Option Str) : Dp K H (rvO rt) (rtD rt) := by
  cases rt with
  | none => exact .non
  | some s => exact .str s
theorem eqv_rowD (a b : MRow) : PyData.eqv (rowD a) (rowD b) = decide (nsp a = nsp b) := by
  have h1 : PyData.eqv (rowD a) (rowD b) = (PyData.eqv (.str a.2.1) (.str b.2.1) && (PyData.eqv (spD a.2.2.2) (spD b.2.2.2) && true)) := by
    simp [rowD, PyData.eqv, PyData.eqvAll]
  rw [h1, spD_eqv, Bool.eq_iff_iff]
  simp [nsp, PyData.eqv]
theorem eqvAll_rowD : ∀ (a b : List MRow), PyData.eqvAll (a.map rowD) (b.map rowD) = decide (a.map nsp = b.map nsp)
  | [], [] => by simp [PyData.eqvAll]
  | [], _ :: _ => by simp [PyData.eqvAll]
  | _ :: _, [] => by simp [PyData.eqvAll]
  | x :: a, y :: b => by
    have ih := eqvAll_rowD a b
    simp only [List.map_cons, PyData.eqvAll, ih, eqv_rowD]
    rw [Bool.eq_iff_iff]
    simp
theorem eqv_rtD (a b : Option Str) : PyData.eqv (rtD a) (rtD b) = decide (a = b) := by
  rw [Bool.eq_iff_iff]
  cases a <;> cases b <;> simp [rtD, PyData.eqv]
theorem eqv_mdD (rr rr' : List MRow) (rt rt' : Option Str) : PyData.eqv (mdD rr rt) (mdD rr' rt') = (decide (rr.map nsp = rr'.map nsp) && decide (rt = rt')) := by
  have : PyData.eqv (mdD rr rt) (mdD rr' rt') = (PyData.eqv (.list (rr.map rowD)) (.list (rr'.map rowD)) && (PyData.eqv (rtD rt) (rtD rt') && true)) := by
    simp [mdD, PyData.eqv, PyData.eqvAll]
  have h2 : PyData.eqv (.list (rr.map rowD)) (.list (rr'.map rowD)) = PyData.eqvAll (rr.map rowD) (rr'.map rowD) := by
    simp [PyData.eqv]
  rw [this, h2, eqvAll_rowD, eqv_rtD, Bool.and_true]
/-- the same rows on both sides -/
theorem ceq_same {rs rs' : List Row} {rt rt' : Option Str} (h1 : (rs.map (·.1)).Nodup) (h2 : (rs'.map (·.1)).Nodup) (hl : rs.length = rs'.length) (h : ∀ r ∈ rs, ∃ r' ∈ rs', nsr r' = nsr r) : ceqB rs rs' rt rt' = decide (rt = rt') := by
  have he : entsEq (sortD rs) (sortD rs') = true := by
    unfold entsEq
    refine List.all_eq_true.mpr fun p hp => ?_
    obtain ⟨r, hr, rfl⟩ := List.mem_map.mp hp
    obtain ⟨r', hr', e⟩ := h r ((sortR_perm h1).mem_iff.mp hr)
    have e : ((r'.1, r'.2.2) : Str × Span) = (r.1, r.2.2) := e
    have en : r'.1 = r.1 := (Prod.mk.inj e).1
    have es : r'.2.2 = r.2.2 := (Prod.mk.inj e).2
    have hf := findD_of (sortD_nd h2) _ (List.mem_map.mpr ⟨r', (sortR_perm h2).mem_iff.mpr hr', rfl⟩)
    have hf : findD (sortD rs') (Sum.inr r.1) = some (spD r'.2.2) := by
      rw [← en]
      exact hf
    rw [hf]
    show PyData.eqv (spD r.2.2) (spD r'.2.2) = true
    rw [spD_eqv, es, decide_eq_true rfl]
  unfold ceqB
  rw [he, hl, beq_self_eq_true, Bool.and_true, Bool.true_and]
theorem ceq_near {rs rs' : List Row} {rr rr' : List MRow} {rt rt' : Option Str} (p1 : rs.Perm (rowsM rr)) (p2 : rs'.Perm (rowsM rr')) (n1 : ((rowsM rr).map (·.1)).Nodup) (n2 : ((rowsM rr').map (·.1)).Nodup) (hN : Near rr rr') : ceqB rs rs' rt rt' = PyData.eqv (mdD rr rt) (mdD rr' rt') := by
  have m1 : (rs.map (·.1)).Nodup := (p1.map _).nodup_iff.mpr n1
  have m2 : (rs'.map (·.1)).Nodup := (p2.map _).nodup_iff.mpr n2
  rw [eqv_mdD]
  rcases hN with e | ⟨r, hr, hn⟩
  · rw [decide_eq_true e, Bool.true_and]
    have hl := congrArg List.length e
    rw [List.length_map, List.length_map] at hl
    refine ceq_same m1 m2 (by rw [p1.length_eq, p2.length_eq]; unfold rowsM; rw [List.length_map, List.length_map]; exact hl) fun x hx => ?_
    obtain ⟨mr, hmr, rfl⟩ := List.mem_map.mp (p1.mem_iff.mp hx)
    have : nsp mr ∈ rr'.map nsp := by
      rw [← e]
      exact List.mem_map.mpr ⟨mr, hmr, rfl⟩
    obtain ⟨mr', hmr', e2⟩ := List.mem_map.mp this
    exact ⟨_, p2.mem_iff.mpr (List.mem_map.mpr ⟨mr', hmr', rfl⟩), e2⟩
  · have ne : rr.map nsp ≠ rr'.map nsp := fun e => by
      have : nsp r ∈ rr'.map nsp := by
        rw [← e]
        exact List.mem_map.mpr ⟨r, hr, rfl⟩
      obtain ⟨r', hr', e2⟩ := List.mem_map.mp this
      exact hn r' hr' e2
    rw [decide_eq_false ne, Bool.false_and]
    refine ceq_row m1 m2 (r := (r.2.1, r.2.2.1, r.2.2.2)) (p1.mem_iff.mpr (List.mem_map.mpr ⟨r, hr, rfl⟩)) fun x hx => ?_
    obtain ⟨mr, hmr, rfl⟩ := List.mem_map.mp (p2.mem_iff.mp hx)
    exact hn mr hmr
/-! ### changes of catalogs (k12, k13): the pure part -/
inductive Chg where
  | hang (n : Str) (a : Addr) (s : Span)
  | take (n : Str)
  | split (n : Str) (z : Int) (l r : Str)
  | join (l r n : Str)
def Chg.old : Chg → List Str
  | .hang _ _ _ => []
  | .take n => [n]
  | .split n _ _ _ => [n]
  | .join l r _ => [l, r]
def Chg.new : Chg → List Str
  | .hang n _ _ => [n]
  | .take _ => []
  | .split _ _ l r => [l, r]
  | .join _ _ n => [n]
def Chg.vals : Chg → List V
  | .hang n a _ => [.str "hang", .str n, .ref a]
  | .take n => [.str "take", .str n]
  | .split n z l r => [.str "split", .str n, .int z, .str l, .str r]
  | .join l r n => [.str "join", .str l, .str r, .str n]
def Chg.ds : Chg → List PyData
  | .hang n _ s => [.str "hang", .str n, spD s]
  | .take n => [.str "take", .str n]
  | .split n z l r => [.str "split", .str n, .int z, .str l, .str r]
  | .join l r n => [.str "join", .str l, .str r, .str n]
def Chg.ok : Chg → Prop
  | .hang n _ s => nameS n = true ∧ okS s = true
  | .take n => nameS n = true
  | .split n _ l r => nameS n = true ∧ nameS l = true ∧ nameS r = true ∧ n ≠ l ∧ n ≠ r ∧ l ≠ r
  | .join l r n => nameS l = true ∧ nameS r = true ∧ nameS n = true ∧ l ≠ r ∧ l ≠ n ∧ r ≠ n
/-- the change c stands at w -/
def ChgAt (K : PySem.W.Frag) (H : Hp) (w : V) (c : Chg) : Prop := ∃ wa, w = .ref wa ∧ SqT K H wa c.vals ∧ ∀ n a s, c = .hang n a s → SqT K H a (spV s)
theorem ChgAt.nd {K : PySem.W.Frag} {H H' : Hp} {w : V} {c : Chg} (s : ND H H') (h : ChgAt K H w c) : ChgAt K H' w c := by
  obtain ⟨wa, h1, h2, h3⟩ := h
  exact ⟨wa, h1, s.tup h2, fun n a sp e => s.tup (h3 n a sp e)⟩
theorem ChgAt.mono {K : PySem.W.Frag} {H H' : Hp} {w : V} {c : Chg} (s : Same H H') (h : ChgAt K H w c) : ChgAt K H' w c := h.nd (.of s)
theorem Chg.new_ok {c : Chg} (h : c.ok) : ∀ s ∈ c.new, nameS s = true := by
  cases c with
  | hang n a s => intro x hx; rw [List.mem_singleton.mp hx]; exact h.1
  | take n => intro x hx; cases hx
  | split n z l r =>
    intro x hx
    rcases List.mem_cons.mp hx with rfl | hx
    · exact h.2.1
    · rw [List.mem_singleton.mp hx]; exact h.2.2.1
  | join l r n => intro x hx; rw [List.mem_singleton.mp hx]; exact h.2.2.1
theorem Chg.new_nd {c : Chg} (h : c.ok) : c.new.Nodup := by
  cases c with
  | hang n a s => exact List.nodup_cons.mpr ⟨List.not_mem_nil, .nil⟩
  | take n => exact .nil
  | split n z l r => exact List.nodup_cons.mpr ⟨by rw [List.mem_singleton]; exact h.2.2.2.2.2, List.nodup_cons.mpr ⟨List.not_mem_nil, .nil⟩⟩
  | join l r n => exact List.nodup_cons.mpr ⟨List.not_mem_nil, .nil⟩
theorem diff3 {a b c : Str} (ha : nameS a = true) (hb : nameS b = true) (hc : nameS c = true) (h1 : a ≠ b) (h2 : a ≠ c) (h3 : b ≠ c) : diffN [.str a, .str b, .str c] = true := by
  have e1 : metN [a, b, c] 1 = 1 := by rw [metN_step]; simp [met, metN]
  have e2 : metN [a, b, c] 2 = 2 := by rw [metN_step, e1]; simp [met, h1]
  have e3 : metN [a, b, c] 3 = 3 := by rw [metN_step, e2]; simp [met, h2, h3]
  have n : ∀ {s : Str}, nameS s = true → nameO (some (.str s)) = true := fun h => h
  unfold diffN
  have e4 : ([PyData.str a, .str b, .str c].map strOf) = [a, b, c] := rfl
  rw [e4]
  simp only [List.all_cons, List.all_nil, n ha, n hb, n hc, Bool.true_and, Bool.and_true, List.length_cons, List.length_nil, Nat.zero_add, Nat.reduceAdd]
  exact decide_eq_true e3
theorem ne_isS {s t : Str} (h : decide (s = t) = false) : isS (.str s) t = false := by
  rw [isS_str, beq_eq_false_iff_ne]
  exact of_decide_eq_false h
theorem Chg.chD {c : Chg} (h : c.ok) : chD c.ds = true := by
  have n : ∀ {s : Str}, nameS s = true → nameO (some (.str s)) = true := fun h => h
  cases c with
  | hang m a s =>
    show My.chD (.str "hang" :: [.str m, spD s]) = true
    rw [chD_hang (by decide +kernel)]
    show (nameO (some (.str m)) && spanO (some (spD s))) = true
    rw [n h.1, spanO_ok, h.2]
    rfl
  | take m =>
    show My.chD (.str "take" :: [.str m]) = true
    rw [chD_take (by decide +kernel) (by decide +kernel)]
    exact n h
  | split m z l r =>
    obtain ⟨h1, h2, h3, h4, h5, h6⟩ := h
    show My.chD (.str "split" :: [.str m, .int z, .str l, .str r]) = true
    rw [chD_split (by decide +kernel) (by decide +kernel) (by decide +kernel)]
    show (intO (some (.int z)) && diffN [.str m, .str l, .str r]) = true
    rw [diff3 h1 h2 h3 h4 h5 h6]
    rfl
  | join l r m =>
    obtain ⟨h1, h2, h3, h4, h5, h6⟩ := h
    show My.chD (.str "join" :: [.str l, .str r, .str m]) = true
    rw [chD_join (by decide +kernel) (by decide +kernel) (by decide +kernel), Bool.and_eq_true]
    exact ⟨by decide +kernel, diff3 h1 h2 h3 h4 h5 h6⟩
theorem Chg.roleD (c : Chg) : roleD c.ds = (c.old, c.new) := by
  cases c with
  | hang m a s => exact roleD_hang (d := .str "hang") (e := [.str m, spD s]) (by decide +kernel)
  | take m => exact roleD_take (d := .str "take") (e := [.str m]) (by decide +kernel) (by decide +kernel)
  | split m z l r => exact roleD_split (d := .str "split") (e := [.str m, .int z, .str l, .str r]) (by decide +kernel) (by decide +kernel) (by decide +kernel)
  | join l r m => exact roleD_join (d := .str "join") (e := [.str l, .str r, .str m]) (by decide +kernel) (by decide +kernel) (by decide +kernel)
theorem Chg.sh {c : Chg} (h : c.ok) : SeqAt.shaped (.tuple c.ds) = true ∧ fewO (some (.tuple c.ds)) := by
  have st : ∀ {s : Str}, nameS s = true → (PyData.str s).canLay0 = true ∧ (PyData.str s).depth ≤ 2 := fun h => ⟨by simp only [PyData.canLay0]; exact nameC_ok h, by simp [PyData.depth]⟩
  have sp : ∀ s : Span, (spD s).canLay0 = true ∧ (spD s).depth ≤ 2 := fun s => by
    refine ⟨(shaped_iff.mp (shaped_sp s)).1, ?_⟩
    obtain ⟨a, b⟩ := s
    cases a <;> cases b <;> simp [spD, limD, PyData.depth, PyData.depthAll]
  have it : ∀ z : Int, (PyData.int z).canLay0 = true ∧ (PyData.int z).depth ≤ 2 := fun z => ⟨rfl, by simp [PyData.depth]⟩
  have w4 : ∀ {s : Str}, s ∈ (["hang", "take", "split", "join"] : List Str) → (PyData.str s).canLay0 = true ∧ (PyData.str s).depth ≤ 2 := fun hs => ⟨by
    simp only [PyData.canLay0]
    have all : ∀ s ∈ (["hang", "take", "split", "join"] : List Str), PyData.strOk s = true := by decide +kernel
    exact all _ hs, by simp [PyData.depth]⟩
  have l4 : ∀ {s : Str}, s ∈ (["hang", "take", "split", "join"] : List Str) → s.length ≤ 1000 := fun hs => by
    have all : ∀ s ∈ (["hang", "take", "split", "join"] : List Str), s.length ≤ 1000 := by decide +kernel
    exact all _ hs
  have ln : ∀ {s : Str}, nameS s = true → s.length ≤ 1000 := fun h => Nat.le_trans (by have := nameC_len h; omega : _ ≤ 8) (by decide)
  have key : ∀ ds : List PyData, ds.length ≤ 10 → (∀ d ∈ ds, d.canLay0 = true ∧ d.depth ≤ 2) → (∀ s, PyData.str s ∈ ds → s.length ≤ 1000) → SeqAt.shaped (.tuple ds) = true ∧ fewO (some (.tuple ds)) := fun ds h1 h2 h3 => by
    refine ⟨shaped_iff.mpr ⟨?_, ?_⟩, fun es e => ?_⟩
    · simp only [PyData.canLay0]
      exact canAll_mem.mpr fun d hd => (h2 d hd).1
    · have := depthAll_le fun d hd => (h2 d hd).2
      simp only [PyData.depth]
      omega
    · injection e with e
      injection e with e
      rw [← e]
      exact ⟨by omega, h3⟩
  have nsp : ∀ {t : Str} {s : Span}, PyData.str t = spD s → False := fun e => by unfold spD at e; cases e
  cases c with
  | hang m a s =>
    refine key _ (by show 3 ≤ 10; decide) (fun d hd => ?_) fun t ht => ?_
    · simp only [Chg.ds, List.mem_cons, List.not_mem_nil, or_false] at hd
      rcases hd with rfl | rfl | rfl
      · exact w4 (by simp)
      · exact st h.1
      · exact sp s
    · simp only [Chg.ds, List.mem_cons, List.not_mem_nil, or_false] at ht
      rcases ht with e | e | e
      · injection e with e; rw [e]; exact l4 (by simp)
      · injection e with e; rw [e]; exact ln h.1
      · exact (nsp e).elim
  | take m =>
    refine key _ (by show 2 ≤ 10; decide) (fun d hd => ?_) fun t ht => ?_
    · simp only [Chg.ds, List.mem_cons, List.not_mem_nil, or_false] at hd
      rcases hd with rfl | rfl
      · exact w4 (by simp)
      · exact st h
    · simp only [Chg.ds, List.mem_cons, List.not_mem_nil, or_false] at ht
      rcases ht with e | e
      · injection e with e; rw [e]; exact l4 (by simp)
      · injection e with e; rw [e]; exact ln h
  | split m z l r =>
    obtain ⟨h1, h2, h3, _⟩ := h
    refine key _ (by show 5 ≤ 10; decide) (fun d hd => ?_) fun t ht => ?_
    · simp only [Chg.ds, List.mem_cons, List.not_mem_nil, or_false] at hd
      rcases hd with rfl | rfl | rfl | rfl | rfl
      · exact w4 (by simp)
      · exact st h1
      · exact it z
      · exact st h2
      · exact st h3
    · simp only [Chg.ds, List.mem_cons, List.not_mem_nil, or_false] at ht
      rcases ht with e | e | e | e | e
      · injection e with e; rw [e]; exact l4 (by simp)
      · injection e with e; rw [e]; exact ln h1
      · cases e
      · injection e with e; rw [e]; exact ln h2
      · injection e with e; rw [e]; exact ln h3
  | join l r m =>
    obtain ⟨h1, h2, h3, _⟩ := h
    refine key _ (by show 4 ≤ 10; decide) (fun d hd => ?_) fun t ht => ?_
    · simp only [Chg.ds, List.mem_cons, List.not_mem_nil, or_false] at hd
      rcases hd with rfl | rfl | rfl | rfl
      · exact w4 (by simp)
      · exact st h1
      · exact st h2
      · exact st h3
    · simp only [Chg.ds, List.mem_cons, List.not_mem_nil, or_false] at ht
      rcases ht with e | e | e | e
      · injection e with e; rw [e]; exact l4 (by simp)
      · injection e with e; rw [e]; exact ln h1
      · injection e with e; rw [e]; exact ln h2
      · injection e with e; rw [e]; exact ln h3
theorem ChgAt.vd {K : PySem.W.Frag} {H : Hp} {w : V} {c : Chg} (h : ChgAt K H w c) (hc : c.ok) : VD K H w (some (.tuple c.ds)) := by
  obtain ⟨wa, rfl, h2, h3⟩ := h
  refine .dat (.tup h2 ?_) (c.sh hc).1 fun s e => by cases e
  cases c with
  | hang m a s => exact .cons (.str _) (.cons (.str _) (.cons (.tup (h3 m a s rfl) (dpAll_spV s)) .nil))
  | take m => exact .cons (.str _) (.cons (.str _) .nil)
  | split m z l r => exact .cons (.str _) (.cons (.str _) (.cons (.int _) (.cons (.str _) (.cons (.str _) .nil))))
  | join l r m => exact .cons (.str _) (.cons (.str _) (.cons (.str _) (.cons (.str _) .nil)))
/-- what is handed in as a change -/
inductive WIn (K : PySem.W.Frag) (H : Hp) : V → Option Chg → Prop
  | no {w : V} {o : Option PyData} : VD K H w o → fewO o → chO o = false → WIn K H w none
  | chg {w : V} {c : Chg} : ChgAt K H w c → c.ok → WIn K H w (some c)
theorem WIn.mono {K : PySem.W.Frag} {H H' : Hp} {w : V} {co : Option Chg} (s : Same H H') (h : WIn K H w co) : WIn K H' w co := by
  cases h with
  | no a b c => exact .no (a.mono s) b c
  | chg a b => exact .chg (a.mono s) b
theorem WIn.vd {K : PySem.W.Frag} {H : Hp} {w : V} {co : Option Chg} (h : WIn K H w co) : ∃ o, VD K H w o ∧ fewO o ∧ chO o = co.isSome ∧ ∀ c, co = some c → o = some (.tuple c.ds) := by
  cases h with
  | no a b c => exact ⟨_, a, b, c, fun c e => nomatch e⟩
  | chg a b => exact ⟨_, a.vd b, (Chg.sh b).2, Chg.chD b, fun c e => by cases e; rfl⟩
/-! rows as names with spans -/
abbrev NS := List (Str × Span)
def nmsL (L : NS) : List Str := L.map (·.1)
def spL (L : NS) (n : Str) : Span := ((L.find? fun e => decide (e.1 = n)).map (·.2)).getD (none, none)
def insB (s : Span) (z : Int) : Bool := okS (s.1, some z) && okS (some z, s.2)
def hungL (L : NS) : Chg → NS
  | .hang n _ s => [(n, s)]
  | .take _ => []
  | .split n z l r => [(l, ((spL L n).1, some z)), (r, (some z, (spL L n).2))]
  | .join l r n => [(n, ((spL L l).1, (spL L r).2))]
def keptL (L : NS) (c : Chg) : NS := L.filter fun e => !decide (e.1 ∈ c.old)
def nextL (L : NS) (c : Chg) : NS := keptL L c ++ hungL L c
def overL (L : NS) (s : Span) : List Str := srtS ((L.filter fun e => meetL e.2 s).map (·.1))
def touchB (s t : Span) : Bool := match s.2, t.1 with
  | some a, some b => decide (a = b)
  | _, _ => false
/-- what the new spans refuse -/
def shE (L : NS) : Chg → Option (Nat × V)
  | .hang _ _ s => (overL L s).head?.map fun y => (3, .str y)
  | .take _ => none
  | .split n z _ _ => if insB (spL L n) z = true then none else some (7, .int z)
  | .join l r _ => if touchB (spL L l) (spL L r) = true then none else some (8, .str r)
def oldE (L : NS) (c : Chg) : Option Str := c.old.find? fun n => !decide (n ∈ nmsL L)
def newE (L : NS) (rt : Option Str) (c : Chg) : Option Str := c.new.find? fun n => decide (n ∈ nmsL L ++ rt.toList)
def chE (L : NS) (rt : Option Str) (c : Chg) : Option (Nat × V) := match oldE L c with
  | some n => some (6, .str n)
  | none => match newE L rt c with
    | some n => some (4, .str n)
    | none => match shE L c with
      | some q => some q
      | none => if 8 < (nmsL (nextL L c) ++ rt.toList).length then some (5, .int 8) else none
/-- names and spans that make a catalog, but for their number -/
structure GL (L : NS) (rt : Option Str) : Prop where
  ok : ∀ e ∈ L, okS e.2 = true
  apart : L.Pairwise fun a b => meetL a.2 b.2 = false
  nms : ∀ s ∈ nmsL L ++ rt.toList, nameS s = true
  nd : (nmsL L ++ rt.toList).Nodup
theorem GL.nd1 {L : NS} {rt : Option Str} (G : GL L rt) : (nmsL L).Nodup := (List.nodup_append.mp G.nd).1
theorem GL.perm {L L' : NS} {rt : Option Str} (p : L.Perm L') (G : GL L rt) : GL L' rt :=
  ⟨fun e he => G.ok e (p.mem_iff.mpr he), (p.pairwise_iff fun {x y} h => by rw [meetL_comm]; exact h).mp G.apart, fun s hs => G.nms s (((p.map _).append_right _).mem_iff.mpr hs), ((p.map _).append_right _).nodup_iff.mp G.nd⟩
theorem pw_mem {α : Type} {R : α → α → Prop} (sy : ∀ a b, R a b → R b a) {l : List α} (h : l.Pairwise R) {a b : α} (ha : a ∈ l) (hb : b ∈ l) (ne : a ≠ b) : R a b := by
  obtain ⟨i, hi, rfl⟩ := List.mem_iff_getElem.mp ha
  obtain ⟨j, hj, rfl⟩ := List.mem_iff_getElem.mp hb
  rcases Nat.lt_trichotomy i j with z | rfl | z
  · exact List.pairwise_iff_getElem.mp h i j hi hj z
  · exact absurd rfl ne
  · exact sy _ _ (List.pairwise_iff_getElem.mp h j i hj hi z)
theorem GL.two {L : NS} {rt : Option Str} (G : GL L rt) {a b : Str × Span} (ha : a ∈ L) (hb : b ∈ L) (ne : a.1 ≠ b.1) : meetL a.2 b.2 = false :=
  pw_mem (R := fun a b : Str × Span => meetL a.2 b.2 = false) (fun a b h => by rw [meetL_comm]; exact h) G.apart ha hb fun e => ne (by rw [e])
theorem spL_of {L : NS} (nd : (nmsL L).Nodup) {n : Str} {s : Span} (h : (n, s) ∈ L) : spL L n = s := by
  induction L with
  | nil => cases h
  | cons e t ih =>
    have nd' := List.nodup_cons.mp (show (e.1 :: nmsL t).Nodup from nd)
    unfold spL
    rw [List.find?_cons]
    rcases List.mem_cons.mp h with rfl | h
    · rw [decide_eq_true rfl]
      rfl
    · have ne : ¬ e.1 = n := fun z => nd'.1 (by rw [z]; exact List.mem_map.mpr ⟨_, h, rfl⟩)
      rw [decide_eq_false ne]
      exact ih nd'.2 h
theorem spL_mem {L : NS} {n : Str} (h : n ∈ nmsL L) : (n, spL L n) ∈ L := by
  unfold spL
  cases q : L.find? fun e => decide (e.1 = n) with
  | some e =>
    have h1 := List.mem_of_find?_eq_some q
    have h2 : e.1 = n := of_decide_eq_true (List.find?_some (p := fun e : Str × Span => decide (e.1 = n)) q)
    subst h2
    exact h1
  | none =>
    obtain ⟨e, he, e2⟩ := List.mem_map.mp h
    have := List.find?_eq_none.mp q e he
    simp [e2] at this
theorem spL_none {L : NS} {n : Str} (h : n ∉ nmsL L) : spL L n = (none, none) := by
  unfold spL
  cases q : L.find? fun e => decide (e.1 = n) with
  | some e =>
    have h1 := List.mem_of_find?_eq_some q
    have h2 : e.1 = n := of_decide_eq_true (List.find?_some (p := fun e : Str × Span => decide (e.1 = n)) q)
    exact absurd (List.mem_map.mpr ⟨e, h1, h2⟩) h
  | none => rfl
theorem spL_perm {L L' : NS} (p : L.Perm L') (nd : (nmsL L).Nodup) (n : Str) : spL L n = spL L' n := by
  by_cases h : n ∈ nmsL L
  · have h1 := spL_mem h
    exact (spL_of ((p.map _).nodup_iff.mp nd) (p.mem_iff.mp h1)).symm
  · rw [spL_none h, spL_none fun z => h ((p.map _).mem_iff.mpr z)]
theorem hungL_perm {L L' : NS} (p : L.Perm L') (nd : (nmsL L).Nodup) (c : Chg) : hungL L c = hungL L' c := by
  cases c with
  | hang n a s => rfl
  | take n => rfl
  | split n z l r =>
    show [(l, ((spL L n).1, some z)), (r, (some z, (spL L n).2))] = [(l, ((spL L' n).1, some z)), (r, (some z, (spL L' n).2))]
    rw [spL_perm p nd]
  | join l r n =>
    show [(n, ((spL L l).1, (spL L r).2))] = [(n, ((spL L' l).1, (spL L' r).2))]
    rw [spL_perm p nd l, spL_perm p nd r]
theorem nextL_perm {L L' : NS} (p : L.Perm L') (nd : (nmsL L).Nodup) (c : Chg) : (nextL L c).Perm (nextL L' c) := by
  unfold nextL
  rw [hungL_perm p nd]
  exact (p.filter _).append_right _
theorem find_congr {α : Type} {p q : α → Bool} (h : ∀ x, p x = q x) (l : List α) : l.find? p = l.find? q := by
  have : p = q := funext h
  rw [this]
theorem chE_perm {L L' : NS} (p : L.Perm L') (nd : (nmsL L).Nodup) (rt : Option Str) (c : Chg) : chE L rt c = chE L' rt c := by
  have e1 : oldE L c = oldE L' c := find_congr (fun x => by rw [show decide (x ∈ nmsL L) = decide (x ∈ nmsL L') from decide_eq_decide.mpr (p.map _).mem_iff]) _
  have e2 : newE L rt c = newE L' rt c := find_congr (fun x => decide_eq_decide.mpr ((p.map _).append_right _).mem_iff) _
  have e3 : shE L c = shE L' c := by
    cases c with
    | hang n a s =>
      have : overL L s = overL L' s := srt_perm ((p.filter _).map _)
      show (overL L s).head?.map _ = (overL L' s).head?.map _
      rw [this]
    | take n => rfl
    | split n z l r =>
      show (if insB (spL L n) z = true then none else some (7, V.int z)) = if insB (spL L' n) z = true then none else some (7, V.int z)
      rw [spL_perm p nd]
    | join l r n =>
      show (if touchB (spL L l) (spL L r) = true then none else some (8, V.str r)) = if touchB (spL L' l) (spL L' r) = true then none else some (8, V.str r)
      rw [spL_perm p nd l, spL_perm p nd r]
  unfold chE
  have e4 : (nmsL (nextL L c) ++ rt.toList).length = (nmsL (nextL L' c) ++ rt.toList).length := (((nextL_perm p nd c).map _).append_right _).length_eq
  rw [e1, e2, e3, e4]
theorem ok2_f {a b : Option Int} (h : ok2 a b = false) : ∃ x y, a = some x ∧ b = some y ∧ y ≤ x := by
  cases a <;> cases b <;> simp [ok2] at h
  exact ⟨_, _, rfl, rfl, h⟩
theorem ok2_of {x y : Int} (h : y ≤ x) : ok2 (some x) (some y) = false := by
  show decide (x < y) = false
  exact decide_eq_false (by omega)
theorem okS_lt {a b : Int} (h : okS (some a, some b) = true) : a < b := of_decide_eq_true h
theorem meetL_or {s t : Span} : meetL s t = false ↔ ok2 s.1 t.2 = false ∨ ok2 t.1 s.2 = false := by
  unfold meetL
  rw [Bool.and_eq_false_iff]
/-- the pieces of a span stay apart from what the span is apart from -/
theorem piece_l {s t : Span} {z : Int} (h : meetL s t = false) (i : insB s z = true) : meetL (s.1, some z) t = false := by
  unfold insB at i
  rw [Bool.and_eq_true] at i
  rcases meetL_or.mp h with e | e
  · exact meetL_or.mpr (.inl e)
  · obtain ⟨x, y, e1, e2, e3⟩ := ok2_f e
    have := i.2
    rw [e2] at this
    have := okS_lt this
    refine meetL_or.mpr (.inr ?_)
    rw [e1]
    exact ok2_of (by omega)
theorem piece_r {s t : Span} {z : Int} (h : meetL s t = false) (i : insB s z = true) : meetL (some z, s.2) t = false := by
  unfold insB at i
  rw [Bool.and_eq_true] at i
  rcases meetL_or.mp h with e | e
  · obtain ⟨x, y, e1, e2, e3⟩ := ok2_f e
    have := i.1
    rw [e1] at this
    have := okS_lt this
    refine meetL_or.mpr (.inl ?_)
    rw [e2]
    exact ok2_of (by omega)
  · exact meetL_or.mpr (.inr e)
theorem piece_lr {s : Span} {z : Int} : meetL (s.1, some z) (some z, s.2) = false := meetL_or.mpr (.inr (ok2_of (Int.le_refl z)))
theorem touch_eq {s t : Span} (h : touchB s t = true) : ∃ m, s.2 = some m ∧ t.1 = some m := by
  unfold touchB at h
  split at h
  · rename_i a b e1 e2
    exact ⟨a, e1, by rw [e2, of_decide_eq_true h]⟩
  · cases h
theorem joined_ok {s t : Span} (hs : okS s = true) (ht : okS t = true) (h : touchB s t = true) : okS (s.1, t.2) = true := by
  obtain ⟨a, b⟩ := s
  obtain ⟨c, d⟩ := t
  obtain ⟨m, e1, e2⟩ := touch_eq h
  cases e1
  cases e2
  cases a with
  | none => rfl
  | some a =>
    cases d with
    | none => rfl
    | some d =>
      have := okS_lt hs
      have := okS_lt ht
      exact decide_eq_true (by omega)
theorem joined_apart {s t u : Span} (hu : okS u = true) (h : touchB s t = true) (h1 : meetL s u = false) (h2 : meetL t u = false) : meetL (s.1, t.2) u = false := by
  obtain ⟨m, e1, e2⟩ := touch_eq h
  rcases meetL_or.mp h1 with e | e
  · exact meetL_or.mpr (.inl e)
  · rcases meetL_or.mp h2 with f | f
    · obtain ⟨x, y, a1, a2, a3⟩ := ok2_f e
      obtain ⟨x', y', b1, b2, b3⟩ := ok2_f f
      rw [e1] at a2
      rw [e2] at b1
      cases a2
      cases b1
      obtain ⟨u1, u2⟩ := u
      cases a1
      cases b2
      have := okS_lt hu
      omega
    · exact meetL_or.mpr (.inr f)
theorem oldE_none {L : NS} {c : Chg} (h : oldE L c = none) : ∀ n ∈ c.old, n ∈ nmsL L := fun n hn => by
  have := List.find?_eq_none.mp h n hn
  simpa using this
theorem newE_none {L : NS} {rt : Option Str} {c : Chg} (h : newE L rt c = none) : ∀ n ∈ c.new, n ∉ nmsL L ++ rt.toList := fun n hn => by
  have := List.find?_eq_none.mp h n hn
  simpa using this
theorem hung_names (L : NS) (c : Chg) : nmsL (hungL L c) = c.new := by
  cases c <;> rfl
theorem keptL_sub (L : NS) (c : Chg) : (keptL L c).Sublist L := List.filter_sublist
theorem keptL_mem {L : NS} {c : Chg} {e : Str × Span} (h : e ∈ keptL L c) : e ∈ L ∧ e.1 ∉ c.old := by
  obtain ⟨h1, h2⟩ := List.mem_filter.mp h
  exact ⟨h1, by simpa using h2⟩
theorem nextL_names (L : NS) (c : Chg) : nmsL (nextL L c) = nmsL (keptL L c) ++ c.new := by
  rw [← hung_names L c]
  exact List.map_append
/-- behind a change that is not refused -/
theorem GL.next {L : NS} {rt : Option Str} {c : Chg} (G : GL L rt) (hc : c.ok) (h1 : oldE L c = none) (h2 : newE L rt c = none) (h3 : shE L c = none) : GL (nextL L c) rt := by
  have ho := oldE_none h1
  have hn := newE_none h2
  have km : ∀ e ∈ keptL L c, okS e.2 = true := fun e he => G.ok e (keptL_mem he).1
  have kp := G.apart.sublist (keptL_sub L c)
  have hu : ∀ e ∈ hungL L c, okS e.2 = true ∧ ∀ k ∈ keptL L c, meetL k.2 e.2 = false := by
    cases c with
    | hang n a s =>
      intro e he
      have he : e = (n, s) := List.mem_singleton.mp he
      subst he
      refine ⟨hc.2, fun k hk => ?_⟩
      have hz : overL L s = [] := by
        have h3 : (overL L s).head?.map (fun y => ((3, V.str y) : Nat × V)) = none := h3
        cases q : overL L s with
        | nil => rfl
        | cons y t => rw [q] at h3; cases h3
      cases q : meetL k.2 s with
      | false => rfl
      | true =>
        have : k.1 ∈ overL L s := srt_mem.mpr (List.mem_map.mpr ⟨k, List.mem_filter.mpr ⟨(keptL_mem hk).1, q⟩, rfl⟩)
        rw [hz] at this
        cases this
    | take n => intro e he; cases he
    | split n z l r =>
      have hi : insB (spL L n) z = true := by
        have h3 : (if insB (spL L n) z = true then none else some ((7, V.int z) : Nat × V)) = none := h3
        split at h3
        · assumption
        · cases h3
      have hm := spL_mem (ho n List.mem_cons_self)
      have two : ∀ k ∈ keptL L (.split n z l r), meetL (spL L n) k.2 = false := fun k hk => by
        obtain ⟨k1, k2⟩ := keptL_mem hk
        exact G.two hm k1 fun e => k2 (by rw [← e]; exact List.mem_cons_self)
      have hi' := hi
      unfold insB at hi'
      rw [Bool.and_eq_true] at hi'
      intro e he
      rcases List.mem_cons.mp he with rfl | he
      · exact ⟨hi'.1, fun k hk => by rw [meetL_comm]; exact piece_l (two k hk) hi⟩
      · have he : e = (r, (some z, (spL L n).2)) := List.mem_singleton.mp he
        subst he
        exact ⟨hi'.2, fun k hk => by rw [meetL_comm]; exact piece_r (two k hk) hi⟩
    | join l r n =>
      have ht : touchB (spL L l) (spL L r) = true := by
        have h3 : (if touchB (spL L l) (spL L r) = true then none else some ((8, V.str r) : Nat × V)) = none := h3
        split at h3
        · assumption
        · cases h3
      have hl := spL_mem (ho l List.mem_cons_self)
      have hr := spL_mem (ho r (List.mem_cons_of_mem _ List.mem_cons_self))
      intro e he
      have he : e = (n, ((spL L l).1, (spL L r).2)) := List.mem_singleton.mp he
      subst he
      refine ⟨joined_ok (G.ok _ hl) (G.ok _ hr) ht, fun k hk => ?_⟩
      obtain ⟨k1, k2⟩ := keptL_mem hk
      rw [meetL_comm]
      exact joined_apart (G.ok _ k1) ht (G.two hl k1 fun e => k2 (by rw [← e]; exact List.mem_cons_self)) (G.two hr k1 fun e => k2 (by rw [← e]; exact List.mem_cons_of_mem _ List.mem_cons_self))
  have hp : (hungL L c).Pairwise fun a b => meetL a.2 b.2 = false := by
    cases c with
    | hang n a s => exact List.pairwise_singleton _ _
    | take n => exact .nil
    | split n z l r =>
      refine List.pairwise_cons.mpr ⟨fun e he => ?_, List.pairwise_singleton _ _⟩
      rw [List.mem_singleton.mp he]
      exact piece_lr
    | join l r n => exact List.pairwise_singleton _ _
  have sub : (nmsL (keptL L c)).Sublist (nmsL L) := (keptL_sub L c).map _
  have hnd := List.nodup_append.mp G.nd
  refine ⟨fun e he => ?_, List.pairwise_append.mpr ⟨kp, hp, fun a ha b hb => (hu b hb).2 a ha⟩, fun s hs => ?_, ?_⟩
  · rcases List.mem_append.mp he with he | he
    · exact km e he
    · exact (hu e he).1
  · rw [nextL_names] at hs
    rcases List.mem_append.mp hs with hs | hs
    · rcases List.mem_append.mp hs with hs | hs
      · exact G.nms s (List.mem_append_left _ (sub.subset hs))
      · exact Chg.new_ok hc s hs
    · exact G.nms s (List.mem_append_right _ hs)
  · rw [nextL_names]
    refine List.nodup_append.mpr ⟨List.nodup_append.mpr ⟨hnd.1.sublist sub, Chg.new_nd hc, fun a ha b hb e => hn b hb (List.mem_append_left _ (by rw [← e]; exact sub.subset ha))⟩, hnd.2.1, fun a ha b hb e => ?_⟩
    rcases List.mem_append.mp ha with ha | ha
    · exact hnd.2.2 a (sub.subset ha) b hb e
    · exact hn a ha (List.mem_append_right _ (by rw [e]; exact hb))
theorem chE_none {L : NS} {rt : Option Str} {c : Chg} (h : chE L rt c = none) : oldE L c = none ∧ newE L rt c = none ∧ shE L c = none ∧ (nmsL (nextL L c) ++ rt.toList).length ≤ 8 := by
  unfold chE at h
  cases e1 : oldE L c with
  | some n => rw [e1] at h; cases h
  | none =>
    rw [e1] at h
    cases e2 : newE L rt c with
    | some n => rw [e2] at h; cases h
    | none =>
      rw [e2] at h
      cases e3 : shE L c with
      | some q => rw [e3] at h; cases h
      | none =>
        rw [e3] at h
        dsimp only at h
        split at h
        · cases h
        · exact ⟨rfl, rfl, rfl, by omega⟩
/-- rows whose names and spans make a catalog -/
theorem GL.cat {rs : List Row} {rt : Option Str} (G : GL (rs.map nsr) rt) : catR rs (rvO rt) (some (rtD rt)) = if 8 < (nmsL (rs.map nsr) ++ rt.toList).length then some (5, .int 8) else none := by
  have en : nmsL (rs.map nsr) = rs.map (·.1) := by
    unfold nmsL
    rw [List.map_map]
    rfl
  have hap := G.apart
  rw [List.pairwise_map] at hap
  have hnd := G.nd
  rw [en] at hnd
  rw [catR_go (ovl_apart (List.nodup_append.mp hnd).1 (fun r hr => G.ok (nsr r) (List.mem_map.mpr ⟨r, hr, rfl⟩)) hap), restR_rt fun z e => ⟨G.nms z (List.mem_append_right _ (by rw [e]; exact List.mem_cons_self)), fun m => ?_⟩, en, List.length_append]
  exact (List.nodup_append.mp hnd).2.2 z m z (by rw [e]; exact List.mem_cons_self) rfl
/-! ### changes of catalogs: promises -/
def f12 : Nat → Str
  | 3 => "name"
  | 4 => "name"
  | 5 => "bound"
  | 6 => "name"
  | 7 => "at"
  | 8 => "name"
  | _ => "value"
section
variable {K : PySem.W.Frag} {mg : Str → Option Value} {base : Heap}
def C12 (T : Txt K mg base) : Nat → Addr
  | 3 => T.C_Overlap
  | 4 => T.C_NameTaken
  | 5 => T.C_TooMany
  | 6 => T.C_UnknownPart
  | 7 => T.C_NotInside
  | 8 => T.C_NotNeighbours
  | 9 => T.C_InvalidCatalog
  | _ => T.C_InvalidChange
theorem kitC (T : Txt K mg base) (o : Option PyData) : PySem.W.kitOne K (.type (tyO o)) (.ref T.C_Catalog) = some false := by
  have h := tyO_mem o
  generalize tyO o = nm at h ⊢
  rcases h with rfl | rfl | rfl | rfl | rfl | rfl | rfl
  all_goals first | exact T.io_Catalog_NoneType | exact T.io_Catalog_bool | exact T.io_Catalog_int | exact T.io_Catalog_str | exact T.io_Catalog_list | exact T.io_Catalog_tuple | exact T.io_Catalog_dict
end
def Ex12 (H : Hp) (E : XK) (Cs : Nat → Addr) (q : Nat × V) : Prop := Rz H E (Cs q.1) (f12 q.1) q.2
theorem Ex12.back {H H1 : Hp} {E : XK} {Cs : Nat → Addr} {q : Nat × V} (s : Same H H1) (h : Ex12 H E Cs q) : Ex12 H1 E Cs q := Rz.back s h
theorem Rz.x {H : Hp} {E : XK} {C : Addr} {f : Str} {v : V} (h : Rz H E C f v) : RzX [] H E C f v := fun d H' n x s => h d H' n x fun b o e => s b o List.not_mem_nil e
/-- what is handed in as a catalog -/
inductive CIn (K : PySem.W.Frag) (C : Addr) (H : Hp) : V → Option (List Row × Option Str) → Prop
  | no {v : V} {o : Option PyData} : VD K H v o → CIn K C H v none
  | cat {x : Addr} {rs : List Row} {rt : Option Str} : CatAt K C H x rs rt → GL (rs.map nsr) rt → (nmsL (rs.map nsr) ++ rt.toList).length ≤ 8 → CIn K C H (.ref x) (some (rs, rt))
theorem CIn.mono {K : PySem.W.Frag} {C : Addr} {H H' : Hp} {v : V} {cv : Option (List Row × Option Str)} (s : Same H H') (h : CIn K C H v cv) : CIn K C H' v cv := by
  cases h with
  | no a => exact .no (a.mono s)
  | cat a b c => exact .cat (a.mono s) b c
def erC (v w : V) : Option (List Row × Option Str) → Option Chg → Option (Nat × V)
  | none, _ => some (9, v)
  | some _, none => some (10, w)
  | some (rs, rt), some c => chE (rs.map nsr) rt c
theorem nmsL_rows (rs : List Row) : nmsL (rs.map nsr) = rs.map (·.1) := by
  unfold nmsL
  rw [List.map_map]
  rfl
theorem GL.nmsC {rs : List Row} {rt : Option Str} (G : GL (rs.map nsr) rt) : ∀ s ∈ My.nmsC rs rt, nameS s = true := fun s hs => G.nms s (by rw [nmsL_rows]; exact srt_mem.mp hs)
def sp_rcat (K : PySem.W.Frag) (C CI : Addr) : Sp := fun vs H Q E => ∃ (v : V) (cv : Option (List Row × Option Str)), vs = [v] ∧ CIn K C H v cv ∧ (cv.isSome = true → ∀ H', Same H H' → Q .non H') ∧ (cv = none → Rz H E CI "value" v)
def sp_rchg12 (K : PySem.W.Frag) (CI : Addr) : Sp := fun vs H Q E => ∃ (w : V) (co : Option Chg), vs = [w] ∧ WIn K H w co ∧ (co.isSome = true → ∀ H', Same H H' → Q .non H') ∧ (co = none → Rz H E CI "value" w)
def sp_spansof (K : PySem.W.Frag) (C : Addr) : Sp := fun vs H Q _ => ∃ (x : Addr) (rs : List Row) (rt : Option Str), vs = [.ref x] ∧ CatAt K C H x rs rt ∧ GL (rs.map nsr) rt ∧ (nmsL (rs.map nsr) ++ rt.toList).length ≤ 8 ∧ ∀ d H', Same H H' → H d = none → H' d = some (.dK ((sortR rs).map rKV)) → Q (.ref d) H'
def sp_split12 (K : PySem.W.Frag) (CN : Addr) : Sp := fun vs H Q E => ∃ (d : Addr) (rs : List Row) (n : Str) (z : Int) (l r : Str), vs = [.ref d, .str n, .int z, .str l, .str r] ∧ H d = some (.dK (rs.map rKV)) ∧ RowsOk K H rs ∧ (rs.map (·.1)).Nodup ∧ n ∈ rs.map (·.1) ∧ l ≠ r ∧
  (insB (spL (rs.map nsr) n) z = false → Rz H E CN "at" (.int z)) ∧ (insB (spL (rs.map nsr) n) z = true → ∀ d' a b H', Same H H' → H d' = none → H' d' = some (.dK [(.inr l, .ref a), (.inr r, .ref b)]) → H' a = some (.tup (spV ((spL (rs.map nsr) n).1, some z))) → H' b = some (.tup (spV (some z, (spL (rs.map nsr) n).2))) → Q (.ref d') H')
def sp_join12 (K : PySem.W.Frag) (CN : Addr) : Sp := fun vs H Q E => ∃ (d : Addr) (rs : List Row) (l r n : Str), vs = [.ref d, .str l, .str r, .str n] ∧ H d = some (.dK (rs.map rKV)) ∧ RowsOk K H rs ∧ (rs.map (·.1)).Nodup ∧ l ∈ rs.map (·.1) ∧ r ∈ rs.map (·.1) ∧
  (touchB (spL (rs.map nsr) l) (spL (rs.map nsr) r) = false → Rz H E CN "name" (.str r)) ∧ (touchB (spL (rs.map nsr) l) (spL (rs.map nsr) r) = true → ∀ d' a H', Same H H' → H d' = none → H' d' = some (.dK [(.inr n, .ref a)]) → H' a = some (.tup (spV ((spL (rs.map nsr) l).1, (spL (rs.map nsr) r).2))) → Q (.ref d') H')
def sp_nsp (K : PySem.W.Frag) (Cs : Nat → Addr) : Sp := fun vs H Q E => ∃ (d : Addr) (w : V) (rs : List Row) (c : Chg), vs = [.ref d, w] ∧ H d = some (.dK (rs.map rKV)) ∧ RowsOk K H rs ∧ (rs.map (·.1)).Nodup ∧ (rs.map (·.1)).Pairwise (fun a b => leS a b = true) ∧ ChgAt K H w c ∧ c.ok ∧ (∀ n ∈ c.old, n ∈ rs.map (·.1)) ∧
  (∀ q, shE (rs.map nsr) c = some q → Ex12 H E Cs q) ∧ (shE (rs.map nsr) c = none → ∀ d' hs H', Same H H' → H d' = none → H' d' = some (.dK (hs.map rKV)) → RowsOk K H' hs → hs.map nsr = hungL (rs.map nsr) c → Q (.ref d') H')
/-- what is wished of a changed catalog -/
def Made (K : PySem.W.Frag) (C P : Addr) (H : Hp) (Q : VK) (rs : List Row) (rt : Option Str) (c : Chg) : Prop := ∀ x' rs' H', EX [] H H' → LamX.TabS H' P lamQ → CatNew K C H H' x' rs' rt → (rs'.map nsr).Perm (nextL (rs.map nsr) c) → Q (.ref x') H'
def sp_changed (K : PySem.W.Frag) (C : Addr) (Cs : Nat → Addr) (P : Addr) : Sp := fun vs H Q E => ∃ (v w : V) (cv : Option (List Row × Option Str)) (co : Option Chg), vs = [v, w] ∧ CIn K C H v cv ∧ WIn K H w co ∧ LamX.TabS H P lamQ ∧
  (∀ q, erC v w cv co = some q → Ex12 H E Cs q) ∧ ∀ rs rt c, cv = some (rs, rt) → co = some c → chE (rs.map nsr) rt c = none → Made K C P H Q rs rt c
def sp_fits (K : PySem.W.Frag) (C : Addr) (Cs : Nat → Addr) (P : Addr) : Sp := fun vs H Q E => ∃ (v w : V) (cv : Option (List Row × Option Str)) (co : Option Chg), vs = [v, w] ∧ CIn K C H v cv ∧ WIn K H w co ∧ LamX.TabS H P lamQ ∧
  (cv = none ∨ co = none → ∀ q, erC v w cv co = some q → Ex12 H E Cs q) ∧ ∀ rs rt c, cv = some (rs, rt) → co = some c → ∀ H', EX [] H H' → LamX.TabS H' P lamQ → Q (.bl (chE (rs.map nsr) rt c).isNone) H'
/-- reverse, of what can't be made -/
def sp_rev12 (K : PySem.W.Frag) (C : Addr) (Cs : Nat → Addr) (P : Addr) : Sp := fun vs H Q E => ∃ (v w : V) (cv : Option (List Row × Option Str)) (co : Option Chg) (q : Nat × V), vs = [v, w] ∧ CIn K C H v cv ∧ WIn K H w co ∧ LamX.TabS H P lamQ ∧ erC v w cv co = some q ∧ Ex12 H E Cs q
theorem spL_row {rs : List Row} {n : Str} (nd : (rs.map (·.1)).Nodup) (h : n ∈ rs.map (·.1)) : spL (rs.map nsr) n = (rowOf rs n).2.2 := by
  obtain ⟨h1, h2⟩ := rowOf_mem h
  refine spL_of (by rw [nmsL_rows]; exact nd) (List.mem_map.mpr ⟨rowOf rs n, h1, ?_⟩)
  show ((rowOf rs n).1, (rowOf rs n).2.2) = _
  rw [h2]
/-- the rows of some names, those that have one -/
def withR (rs : List Row) (ns : List Str) : List Row := (ns.filter fun s => decide (s ∈ rs.map (·.1))).map (rowOf rs)
theorem withR_step {rs : List Row} {ns : List Str} {i : Nat} {s : Str} (h : ns[i]? = some s) : withR rs (ns.take (i + 1)) = withR rs (ns.take i) ++ if decide (s ∈ rs.map (·.1)) = true then [rowOf rs s] else [] := by
  unfold withR
  rw [List.take_add_one, h, List.filter_append, List.map_append]
  congr 1
  cases e : decide (s ∈ rs.map (·.1)) <;> simp [e]
theorem withR_names (rs : List Row) (ns : List Str) : (withR rs ns).map (·.1) = ns.filter fun s => decide (s ∈ rs.map (·.1)) := by
  unfold withR
  rw [List.map_map]
  refine (List.map_congr_left fun s hs => ?_).trans (List.map_id _)
  exact (rowOf_mem (of_decide_eq_true (List.mem_filter.mp hs).2)).2
theorem withR_all {rs : List Row} {rt : Option Str} (nd : (rs.map (·.1) ++ rt.toList).Nodup) : withR rs (nmsC rs rt) = sortR rs := by
  have e : ((nmsC rs rt).filter fun s => decide (s ∈ rs.map (·.1))) = srtS (rs.map (·.1)) := by
    refine List.Perm.eq_of_pairwise (fun a b _ _ => leS_anti) ((srt_pw _).sublist List.filter_sublist) (srt_pw _) ?_
    refine List.Perm.trans ((List.mergeSort_perm _ leS).filter _) (List.Perm.trans ?_ (List.mergeSort_perm _ leS).symm)
    rw [List.filter_append]
    have e1 : ((rs.map (·.1)).filter fun s => decide (s ∈ rs.map (·.1))) = rs.map (·.1) := List.filter_eq_self.mpr fun s hs => decide_eq_true hs
    have e2 : (rt.toList.filter fun s => decide (s ∈ rs.map (·.1))) = [] := List.filter_eq_nil_iff.mpr fun s hs z => (List.nodup_append.mp nd).2.2 s (of_decide_eq_true z) s hs rfl
    rw [e1, e2, List.append_nil]
  unfold withR
  rw [e]
  rfl
theorem getR_row {rs : List Row} {s : Str} (h : s ∈ rs.map (·.1)) : getR rs s = .ref (rowOf rs s).2.1 := by
  rw [← getR_val, valR h]
  rfl
theorem rowOf_sort {rs : List Row} (nd : (rs.map (·.1)).Nodup) {s : Str} (h : s ∈ rs.map (·.1)) : rowOf (sortR rs) s = rowOf rs s := rowOf_perm (sortR_perm nd) nd h
theorem find_meet {s : Span} (hs : okS s = true) : ∀ {l : List Row}, (∀ r ∈ l, okS r.2.2 = true) → (l.find? fun r => meetB r.2.2 s) = l.find? fun r => meetL r.2.2 s
  | [], _ => rfl
  | a :: t, h => by
    rw [List.find?_cons, List.find?_cons, meetL_eq (h a List.mem_cons_self) hs, find_meet hs fun r hr => h r (List.mem_cons_of_mem _ hr)]
theorem over12 {rs : List Row} {s : Span} (hpw : (rs.map (·.1)).Pairwise fun a b => leS a b = true) (hok : ∀ r ∈ rs, okS r.2.2 = true) (hs : okS s = true) : (rs.find? fun r => meetB r.2.2 s).map (·.1) = (overL (rs.map nsr) s).head? := by
  have h2 : (rs.filter fun r => meetL r.2.2 s).map (·.1) = overL (rs.map nsr) s := by
    unfold overL
    refine List.Perm.eq_of_pairwise (fun a b _ _ => leS_anti) ?_ (srt_pw _) (List.Perm.trans ?_ (List.mergeSort_perm _ leS).symm)
    · have : ((rs.filter fun r => meetL r.2.2 s).map (·.1)).Sublist (rs.map (·.1)) := List.filter_sublist.map _
      exact hpw.sublist this
    · rw [List.filter_map, List.map_map]
      exact List.Perm.refl _
  rw [find_meet hs hok, ← h2, List.head?_map, List.head?_filter]
theorem sortR_nsr {rs : List Row} (nd : (rs.map (·.1)).Nodup) : (rs.map nsr).Perm ((sortR rs).map nsr) := ((sortR_perm nd).map nsr).symm
def keptR (rs : List Row) (c : Chg) : List Row := rs.filter fun r => !decide (r.1 ∈ c.old)
theorem keptR_nsr (rs : List Row) (c : Chg) : (keptR rs c).map nsr = keptL (rs.map nsr) c := by
  unfold keptR keptL
  rw [List.filter_map]
  rfl
theorem keptR_sub (rs : List Row) (c : Chg) : (keptR rs c).Sublist rs := List.filter_sublist
theorem keptR_step {rs : List Row} {c : Chg} {i : Nat} {r : Row} (h : rs[i]? = some r) : keptR (rs.take (i + 1)) c = keptR (rs.take i) c ++ if decide (r.1 ∈ c.old) = true then [] else [r] := by
  unfold keptR
  rw [List.take_add_one, h, List.filter_append]
  congr 1
  cases e : decide (r.1 ∈ c.old) <;> simp [e]
theorem old_flat (c : Chg) : (c.old.map V.str).all flatV = true := flat_strs _
theorem find_first {p : Str → Bool} {l : List Str} {i : Nat} {x : Str} (h : l[i]? = some x) (hp : p x = true) (hn : ∀ j, j < i → ∀ y, l[j]? = some y → p y = false) : l.find? p = some x := find_at h hp hn
theorem chE_old {L : NS} {rt : Option Str} {c : Chg} {n : Str} (h : oldE L c = some n) : chE L rt c = some (6, .str n) := by
  unfold chE
  rw [h]
theorem chE_new {L : NS} {rt : Option Str} {c : Chg} {n : Str} (h0 : oldE L c = none) (h : newE L rt c = some n) : chE L rt c = some (4, .str n) := by
  unfold chE
  rw [h0]
  dsimp only
  rw [h]
theorem chE_sh {L : NS} {rt : Option Str} {c : Chg} {q : Nat × V} (h0 : oldE L c = none) (h1 : newE L rt c = none) (h : shE L c = some q) : chE L rt c = some q := by
  unfold chE
  rw [h0]
  dsimp only
  rw [h1]
  dsimp only
  rw [h]
theorem chE_many {L : NS} {rt : Option Str} {c : Chg} (h0 : oldE L c = none) (h1 : newE L rt c = none) (h : shE L c = none) : chE L rt c = if 8 < (nmsL (nextL L c) ++ rt.toList).length then some (5, .int 8) else none := by
  unfold chE
  rw [h0]
  dsimp only
  rw [h1]
  dsimp only
  rw [h]
theorem new_len (c : Chg) : c.new.length ≤ 2 := by cases c <;> simp [Chg.new]
theorem old_len (c : Chg) : c.old.length ≤ 2 := by cases c <;> simp [Chg.old]
theorem chE_le {L : NS} {rt : Option Str} {c : Chg} {n : Nat} {v : V} (h : chE L rt c = some (n, v)) : n = 3 ∨ n = 4 ∨ n = 5 ∨ n = 6 ∨ n = 7 ∨ n = 8 := by
  unfold chE at h
  split at h
  · cases h; simp
  · split at h
    · cases h; simp
    · split at h
      · rename_i q e
        cases h
        cases c with
        | hang m a s =>
          have e : (overL L s).head?.map (fun y => ((3, V.str y) : Nat × V)) = some (n, v) := e
          cases q : (overL L s).head? with
          | none => rw [q] at e; cases e
          | some y => rw [q] at e; cases e; simp
        | take m => cases e
        | split m z l r =>
          have e : (if insB (spL L m) z = true then none else some ((7, V.int z) : Nat × V)) = some (n, v) := e
          split at e
          · cases e
          · cases e; simp
        | join l r m =>
          have e : (if touchB (spL L l) (spL L r) = true then none else some ((8, V.str r) : Nat × V)) = some (n, v) := e
          split at e
          · cases e
          · cases e; simp
      · split at h
        · cases h; simp
        · cases h
section
variable {K : PySem.W.Frag} {mg : Str → Option Value} {base : Heap}
theorem exP (T : Txt K mg base) {n : Nat} (h : n = 3 ∨ n = 4 ∨ n = 5 ∨ n = 6 ∨ n = 7 ∨ n = 8) : PySem.W.exmOne K (.ref (C12 T n)) (.ref T.C_PartsError) = some true := by
  rcases h with rfl | rfl | rfl | rfl | rfl | rfl
  · exact T.e_Overlap_PartsError
  · exact T.e_NameTaken_PartsError
  · exact T.e_TooMany_PartsError
  · exact T.e_UnknownPart_PartsError
  · exact T.e_NotInside_PartsError
  · exact T.e_NotNeighbours_PartsError
end
/-! ### changes of catalogs: the law's side -/
def w12 : Nat → Str
  | 3 => "overlap"
  | 4 => "taken"
  | 5 => "many"
  | 6 => "part"
  | 7 => "inside"
  | 8 => "neighbours"
  | 9 => "catalog"
  | _ => "change"
/-- a model of three items -/
structure MT (H : Hp) (q : Addr) (rr : List MRow) (rt : Option Str) : Prop where
  at_ : ∃ lr z, H q = some (.lst [.ref lr, rvO rt, z]) ∧ H lr = some (.lst (rr.map fun r => V.ref r.1))
  rows : ∀ r ∈ rr, rowAt H r
theorem MT.nd {H H' : Hp} {q : Addr} {rr : List MRow} {rt : Option Str} (s : ND H H') (h : MT H q rr rt) : MT H' q rr rt := by
  obtain ⟨⟨lr, z, h1, h2⟩, h3⟩ := h
  exact ⟨⟨lr, z, s _ _ h1 rfl, s _ _ h2 rfl⟩, fun r hr => ⟨s _ _ (h3 r hr).1 rfl, s _ _ (h3 r hr).2 rfl⟩⟩
theorem MT.mono {H H' : Hp} {q : Addr} {rr : List MRow} {rt : Option Str} (s : Same H H') (h : MT H q rr rt) : MT H' q rr rt := h.nd (.of s)
theorem MT.mg {H : Hp} {q : Addr} {rr : List MRow} {rt : Option Str} (h : MT H q rr rt) : MG H q rr rt := by
  obtain ⟨⟨lr, z, h1, h2⟩, h3⟩ := h
  exact ⟨⟨lr, [z], h1, h2⟩, h3⟩
theorem MT.ofMd {H : Hp} {q : Addr} {rr : List MRow} {rt : Option Str} {left : List Str} (h : MdAt H q rr rt left) : MT H q rr rt := by
  obtain ⟨⟨lr, ll, h1, h2, h3⟩, h4, _⟩ := h
  exact ⟨⟨lr, .ref ll, h1, h2⟩, h4⟩
theorem box_not {H : Hp} {p a : Addr} {n : Nat} {o : HO} (b : BoxAt H p n) (h : H a = some o) (ne : ∀ i : Int, ∀ r, o ≠ .lst (.int i :: r)) : a ≠ p := fun e => by
  obtain ⟨d, s, c, hp, _⟩ := b
  rw [e, hp] at h
  injection h with h
  exact ne d _ h.symm
theorem MT.nbx {H : Hp} {q : Addr} {rr : List MRow} {rt : Option Str} {p : Addr} {n : Nat} (b : BoxAt H p n) (h : MT H q rr rt) : MT (nb H p) q rr rt := by
  obtain ⟨⟨lr, z, h1, h2⟩, h3⟩ := h
  have nt : ∀ {xs : List V} ps, HO.lst xs ≠ .tbl ps := fun ps e => by cases e
  have nu : ∀ {xs : List V} ps, HO.tup xs ≠ .tbl ps := fun ps e => by cases e
  refine ⟨⟨lr, z, nb_of (box_not b h1 fun i r e => by cases e) h1 nt, nb_of (box_not b h2 fun i r e => ?_) h2 nt⟩, fun r hr => ⟨nb_of (box_not b (h3 r hr).1 fun i t e => by cases e) (h3 r hr).1 nt, nb_of (box_not b (h3 r hr).2 fun i t e => by cases e) (h3 r hr).2 nu⟩⟩
  cases rr with
  | nil => cases e
  | cons x t => cases e
theorem nmsL_rr (rr : List MRow) : nmsL (rr.map nsp) = rr.map (·.2.1) := by
  unfold nmsL
  rw [List.map_map]
  rfl
theorem GL.ofG8 {rr : List MRow} {rt : Option Str} (G : G8 rr rt) : GL (rr.map nsp) rt := by
  refine ⟨fun e he => ?_, ?_, fun s hs => G.nms s (by rw [nmsL_rr] at hs; exact hs), by rw [nmsL_rr]; exact G.nd⟩
  · obtain ⟨r, hr, rfl⟩ := List.mem_map.mp he
    exact G.ok r hr
  · rw [List.pairwise_map]
    exact G.apart
theorem G8.ofGL {rr : List MRow} {rt : Option Str} (G : GL (rr.map nsp) rt) (h : (nmsL (rr.map nsp) ++ rt.toList).length ≤ 8) : G8 rr rt := by
  refine ⟨fun r hr => G.ok (nsp r) (List.mem_map.mpr ⟨r, hr, rfl⟩), ?_, fun s hs => G.nms s (by rw [nmsL_rr]; exact hs), ?_, ?_⟩
  · have := G.apart
    rw [List.pairwise_map] at this
    exact this
  · have := G.nd
    rw [nmsL_rr] at this
    exact this
  · rw [nmsL_rr] at h
    exact h
def sp_lspanof : Sp := fun vs H Q _ => ∃ (q : Addr) (rr : List MRow) (rt : Option Str) (n : Str), vs = [.ref q, .str n] ∧ MG H q rr rt ∧ (rr.map (·.2.1)).Nodup ∧ n ∈ rr.map (·.2.1) ∧ rr.length ≤ 20 ∧ ∀ H' a, Same H H' → H' a = some (.tup (spV (spL (rr.map nsp) n))) → Q (.ref a) H'
def sp_llimits : Sp := fun vs H Q _ => ∃ (q : Addr) (rr : List MRow) (rt : Option Str), vs = [.ref q] ∧ MG H q rr rt ∧ rr.length ≤ 8 ∧ ∀ H' p ns, Same H H' → H p = none → H' p = some (.lst (ns.map V.int)) → 0 < List.length ns → List.length ns ≤ 30 → Q (.ref p) H'
def poolL : List Str := ["pqa", "pqb", "pqc", "pqd", "pqe", "pqf", "pqg", "pqh", "pqi", "pqj", "pqk", "pql"]
/-- two names that are no parts -/
def Spare (ns : List Str) (a b : Str) : Prop := a ≠ b ∧ nameS a = true ∧ nameS b = true ∧ a ∉ ns ∧ b ∉ ns ∧ (∀ z ∈ (["zz", "zzz", "zzzz"] : List Str), a ≠ z ∧ b ≠ z)
def sp_lspare : Sp := fun vs H Q _ => ∃ (H0 : Hp) (p q : Addr) (n : Nat) (rr : List MRow) (rt : Option Str), vs = [.ref p, .ref q] ∧ BoxIn H0 H p n ∧ MG H0 q rr rt ∧ G8 rr rt ∧ n + 20 < 1000000 ∧
  ∀ (H1 H' : Hp) (sl : Addr) (a b : Str), Same H0 H1 → BoxIn H1 H' p (n + 12) → H1 sl = some (.lst [.str a, .str b]) → Spare (namesM rr rt) a b → Q (.ref sl) H'
theorem poolL_ok : (∀ s ∈ poolL, nameS s = true ∧ ∀ z ∈ (["zz", "zzz", "zzzz"] : List Str), s ≠ z) ∧ poolL.Nodup := by
  constructor
  · decide +kernel
  · decide +kernel
theorem nodup_le {α : Type} [DecidableEq α] : ∀ {l m : List α}, l.Nodup → (∀ x ∈ l, x ∈ m) → l.length ≤ m.length
  | [], _, _, _ => Nat.zero_le _
  | a :: t, m, nd, h => by
    have ha := h a List.mem_cons_self
    obtain ⟨n1, n2⟩ := List.nodup_cons.mp nd
    have := nodup_le (l := t) (m := m.erase a) n2 fun x hx => (List.mem_erase_of_ne fun e => n1 (by rw [← e]; exact hx)).mpr (h x (List.mem_cons_of_mem _ hx))
    rw [List.length_erase_of_mem ha] at this
    have hp := List.length_pos_of_mem ha
    rw [List.length_cons]
    omega
theorem filt_two {α : Type} (p : α → Bool) : ∀ l : List α, (l.filter p).length + (l.filter fun x => !p x).length = l.length
  | [] => rfl
  | a :: t => by
    have := filt_two p t
    rw [List.filter_cons, List.filter_cons, List.length_cons]
    cases p a <;> simp <;> omega
theorem pool_left {ns : List Str} (h : ns.length ≤ 8) : 4 ≤ (poolL.filter fun s => !decide (s ∈ ns)).length := by
  have h1 : (poolL.filter fun s => decide (s ∈ ns)).length ≤ ns.length := nodup_le (poolL_ok.2.sublist List.filter_sublist) fun x hx => of_decide_eq_true (List.mem_filter.mp hx).2
  have h2 : (poolL.filter fun s => decide (s ∈ ns)).length + (poolL.filter fun s => !decide (s ∈ ns)).length = poolL.length := filt_two _ _
  have h3 : poolL.length = 12 := rfl
  omega
/-- what is due stands at p -/
def DA (H : Hp) (p : Addr) (rr : List MRow) (rt : Option Str) (c : Chg) : Prop := match chE (rr.map nsp) rt c with
  | some (n, v) => H p = some (.lst [.str (w12 n), v])
  | none => ∃ q rr', H p = some (.lst [.str "made", .ref q]) ∧ MT H q rr' rt ∧ rr'.map nsp = nextL (rr.map nsp) c
def sp_lafter (K : PySem.W.Frag) : Sp := fun vs H Q _ => ∃ (q : Addr) (w : V) (rr : List MRow) (rt : Option Str) (c : Chg), vs = [.ref q, w] ∧ MT H q rr rt ∧ G8 rr rt ∧ ChgAt K H w c ∧ (∀ n a s, c = .hang n a s → H a = some (.tup (spV s))) ∧ c.ok ∧ ∀ H' p, Same H H' → H p = none → DA H' p rr rt c → Q (.ref p) H'
def Chg.kind : Chg → Str
  | .hang _ _ _ => "hang"
  | .take _ => "take"
  | .split _ _ _ _ => "split"
  | .join _ _ _ => "join"
/-- t makes a new list xs, wherever G holds -/
def NewL (G : Hp → Prop) (t : TE) (σ : L2.St) (xs : List V) : Prop := ∀ (H : Hp) (Q : VK), G H → (∀ l H', Same H H' → H l = none → H' l = some (.lst xs) → Q (.ref l) H') → t σ H Q
theorem newL_nil {G : Hp → Prop} {σ : L2.St} : NewL G (tLst tNil) σ [] := fun H Q _ k => ⟨Nat.zero_le _, fun l hl => k l _ (same_new hl) hl upd_same⟩
theorem newL_ix {K : PySem.W.Frag} {σ : L2.St} {wa : Addr} {xs : List V} {i : Int} {v : V} (hσ : σ[1]? = some (some (.ref wa))) (h : atI xs i = some v) : NewL (fun H => SqT K H wa xs) (tLst (tCons (tOp (rIxT K) (tVar 1) (tC (.int i))) tNil)) σ [v] := fun H Q g k =>
  ⟨_, hσ, wa, xs, i, v, rfl, rfl, g, h, (by show 1 ≤ sizeLine; decide), fun l hl => k l _ (same_new hl) hl upd_same⟩
theorem newL_last {K : PySem.W.Frag} {σ : L2.St} {wa : Addr} {xs : List V} {v : V} (hσ : σ[1]? = some (some (.ref wa))) (h : atI xs (-1) = some v) : NewL (fun H => SqT K H wa xs) (tLst (tCons (tOp (rIxT K) (tVar 1) (tUn (rU fun i => V.int (-i)) (tC (.int 1)))) tNil)) σ [v] := fun H Q g k =>
  ⟨_, hσ, 1, rfl, wa, xs, -1, v, rfl, rfl, g, h, (by show 1 ≤ sizeLine; decide), fun l hl => k l _ (same_new hl) hl upd_same⟩
theorem newL_sl {K : PySem.W.Frag} {σ : L2.St} {wa : Addr} {xs : List V} {i j : Nat} (hσ : σ[1]? = some (some (.ref wa))) (h : 0 < i) (hl : 0 < xs.length) : NewL (fun H => SqT K H wa xs) (tCB (fun xs H Q => ∃ p ys, xs = [V.ref p] ∧ (SqL K H p ys ∨ SqT K H p ys) ∧ ∀ l, H l = none → Q (V.ref l) (upd H l (.lst ys))) (tCons (tSl (rSlT K) (tVar 1) (tPart (tC (.int (i : Int)))) (tPart (tC (.int (j : Int))))) tNil)) σ (cutV xs (some (i : Int)) (some (j : Int))) := fun H Q g k => by
  refine ⟨_, hσ, (i : Int), rfl, (j : Int), rfl, wa, xs, rfl, g, fun e => ?_, fun t ht => ⟨t, _, rfl, .inr (SqT.of upd_same), fun l hl2 => ?_⟩⟩
  · have := e.1
    rw [HT.sIx_nat] at this
    omega
  · have s1 := same_new (o := .tup (cutV xs (some (i : Int)) (some (j : Int)))) ht
    exact k l _ (s1.trans (same_new hl2)) (s1.free hl2) upd_same
def chgK4 : List Str := ["hang", "take", "split", "join"]
abbrev kvs4 (l1 l2 l3 l4 : Addr) : List (Key × V) := [(.inr "hang", .ref l1), (.inr "take", .ref l2), (.inr "split", .ref l3), (.inr "join", .ref l4)]
def pick4 (k : Str) (x1 x2 x3 x4 : List V) : List V := if k = "hang" then x1 else if k = "take" then x2 else if k = "split" then x3 else x4
theorem disp4 {G : Hp → Prop} {σ : L2.St} {H : Hp} {Q : VK} {k : Str} {t1 t2 t3 t4 : TE} {x1 x2 x3 x4 : List V} (mono : ∀ H H', Same H H' → G H → G H') (hσ : σ[2]? = some (some (.str k))) (hk : k ∈ chgK4) (n1 : NewL G t1 σ x1) (n2 : NewL G t2 σ x2) (n3 : NewL G t3 σ x3) (n4 : NewL G t4 σ x4) (hG : G H)
    (kk : ∀ l H', Same H H' → H l = none → H' l = some (.lst (pick4 k x1 x2 x3 x4)) → Q (.ref l) H') : tDGet (tDisp [(tC (.str "hang"), t1), (tC (.str "take"), t2), (tC (.str "split"), t3), (tC (.str "join"), t4)]) (tVar 2) σ H Q := by
  intro p hp
  have s0 := same_new (o := .dK []) hp
  have hp0 : (upd H p (.dK [])) p = some (.dK []) := upd_same
  generalize upd H p (.dK []) = H0 at s0 hp0
  refine n1 H0 _ (mono _ _ s0 hG) fun l1 H1 u1 f1 e1 => ?_
  refine n2 H1 _ (mono _ _ (s0.trans u1) hG) fun l2 H2 u2 f2 e2 => ?_
  have v2 := s0.trans (u1.trans u2)
  refine n3 H2 _ (mono _ _ v2 hG) fun l3 H3 u3 f3 e3 => ?_
  refine n4 H3 _ (mono _ _ (v2.trans u3) hG) fun l4 H4 u4 f4 e4 => ?_
  have w0 := u1.trans (u2.trans (u3.trans u4))
  have hp4 := w0 _ _ hp0
  have g1 := (u2.trans (u3.trans u4)) _ _ e1
  have g2 := (u3.trans u4) _ _ e2
  have g3 := u4 _ _ e3
  refine ⟨hp4, kvs4 l1 l2 l3 l4, rfl, (by show 4 ≤ 15; decide), ?_⟩
  have hmk : mergeK [] (kvs4 l1 l2 l3 l4) = (kvs4 l1 l2 l3 l4) := by
    refine mergeK_nod _ [] ?_
    have nd : ([Sum.inr ("hang" : Str), Sum.inr "take", Sum.inr "split", Sum.inr "join"] : List Key).Nodup := by decide +kernel
    exact nd
  rw [hmk]
  have sA : Same H (upd H4 p (.dK (kvs4 l1 l2 l3 l4))) := fun b o e => by
    rw [upd_ne (ne_of_none e hp)]
    exact w0 _ _ (s0 _ _ e)
  have key : ∀ {l : Addr} {x : List V}, H4 l = some (.lst x) → (upd H4 p (.dK (kvs4 l1 l2 l3 l4))) l = some (.lst x) := fun e => by
    rw [upd_ne (ne_of e hp4 (by intro z; cases z))]
    exact e
  have h1 : H l1 = none := s0.free f1
  have h2 : H l2 = none := (s0.trans u1).free f2
  have h3 : H l3 = none := v2.free f3
  have h4 : H l4 = none := (v2.trans u3).free f4
  simp only [chgK4, List.mem_cons, List.not_mem_nil, or_false] at hk
  rcases hk with rfl | rfl | rfl | rfl
  · exact ⟨_, hσ, p, .ref l1, rfl, .inl ⟨_, .inr "hang", .of upd_same, rfl, rfl⟩, kk l1 _ sA h1 (key g1)⟩
  · exact ⟨_, hσ, p, .ref l2, rfl, .inl ⟨_, .inr "take", .of upd_same, rfl, by rw [valV_neg (fun e => absurd (Sum.inr.inj e) (by decide +kernel)), valV_pos rfl]⟩, kk l2 _ sA h2 (key g2)⟩
  · exact ⟨_, hσ, p, .ref l3, rfl, .inl ⟨_, .inr "split", .of upd_same, rfl, by rw [valV_neg (fun e => absurd (Sum.inr.inj e) (by decide +kernel)), valV_neg (fun e => absurd (Sum.inr.inj e) (by decide +kernel)), valV_pos rfl]⟩, kk l3 _ sA h3 (key g3)⟩
  · exact ⟨_, hσ, p, .ref l4, rfl, .inl ⟨_, .inr "join", .of upd_same, rfl, by rw [valV_neg (fun e => absurd (Sum.inr.inj e) (by decide +kernel)), valV_neg (fun e => absurd (Sum.inr.inj e) (by decide +kernel)), valV_neg (fun e => absurd (Sum.inr.inj e) (by decide +kernel)), valV_pos rfl]⟩, kk l4 _ sA h4 (key e4)⟩
theorem Chg.kind_in (c : Chg) : c.kind ∈ chgK4 := by cases c <;> simp [Chg.kind, chgK4]
theorem in_names_rt (n : Str) (ns : List Str) (rt : Option Str) : inV (.str n) (ns.map V.str ++ [rvO rt]) = decide (n ∈ ns ++ rt.toList) := by
  have h : inV (.str n) (ns.map V.str ++ [rvO rt]) = (inV (.str n) (ns.map V.str) || inV (.str n) [rvO rt]) := by
    unfold inV
    rw [List.any_append]
  rw [h, in_strs, Bool.eq_iff_iff, Bool.or_eq_true, decide_eq_true_iff, decide_eq_true_iff, List.mem_append]
  cases rt with
  | none =>
    have e : inV (.str n) [rvO none] = false := rfl
    rw [e]
    simp
  | some s =>
    have e : inV (.str n) [rvO (some s)] = decide (n ∈ [s]) := in_strs n [s]
    rw [e, decide_eq_true_iff]
    exact Iff.rfl
theorem flat_names_rt (ns : List Str) (rt : Option Str) : (ns.map V.str ++ [rvO rt]).all flatV = true := by
  rw [List.all_append, flat_strs]
  cases rt <;> rfl
def rowsK (rr : List MRow) (c : Chg) : List MRow := rr.filter fun r => !decide (r.2.1 ∈ c.old)
theorem rowsK_nsp (rr : List MRow) (c : Chg) : (rowsK rr c).map nsp = keptL (rr.map nsp) c := by
  unfold rowsK keptL
  rw [List.filter_map]
  rfl
theorem rowsK_sub (rr : List MRow) (c : Chg) : (rowsK rr c).Sublist rr := List.filter_sublist
theorem rowsK_step {rr : List MRow} {c : Chg} {i : Nat} {r : MRow} (h : rr[i]? = some r) : rowsK (rr.take (i + 1)) c = rowsK (rr.take i) c ++ if decide (r.2.1 ∈ c.old) = true then [] else [r] := by
  unfold rowsK
  rw [List.take_add_one, h, List.filter_append]
  congr 1
  cases e : decide (r.2.1 ∈ c.old) <;> simp [e]
def stg (i : Nat) : Chg → Bool
  | .hang _ _ _ => decide (1 ≤ i)
  | .take _ => false
  | .split _ _ _ _ => decide (2 ≤ i)
  | .join _ _ _ => decide (3 ≤ i)
/-- the rows that are left at a stage -/
def LeftP (i : Nat) (rr : List MRow) (c : Chg) (rr7 : List MRow) : Prop := if stg i c = true then shE (rr.map nsp) c = none ∧ rr7.map nsp = nextL (rr.map nsp) c else rr7 = rowsK rr c
theorem LeftP.zero (rr : List MRow) (c : Chg) : LeftP 0 rr c (rowsK rr c) := by
  unfold LeftP
  cases c <;> exact (if_neg (by simp [stg])).mpr rfl
theorem LeftP.up {i j : Nat} {rr rr7 : List MRow} {c : Chg} (e : stg j c = stg i c) (h : LeftP i rr c rr7) : LeftP j rr c rr7 := by
  unfold LeftP at h ⊢
  rw [e]
  exact h
def LeftAt (H3 H' : Hp) (i : Nat) (rr : List MRow) (c : Chg) (lf : Addr) (rr7 : List MRow) : Prop := Same H3 H' ∧ H' lf = some (.lst (rr7.map fun r => V.ref r.1)) ∧ (∀ r ∈ rr7, rowAt H' r) ∧ LeftP i rr c rr7
/-- low is not None and z <= low or high is not None and z >= high -/
theorem inside_test {K : PySem.W.Frag} {σ : L2.St} {H : Hp} {F : Bool → Hp → Prop} {lo hi : Option Int} {wa : Addr} {xs : List V} {z : Int} (h9 : σ[9]? = some (some (limV lo))) (h10 : σ[10]? = some (some (limV hi))) (h1 : σ[1]? = some (some (.ref wa))) (hT : SqT K H wa xs) (hz : atI xs 2 = some (.int z)) (k : F (!insB (lo, hi) z) H) :
    tOr (tAnd (tTest (tOp (fun x y H Q => y = V.non ∧ Q (V.bl !decide (x = V.non)) H) (tVar 9) (tC V.non))) (tTest (tOp (rI0 fun i j => V.bl (decide (i ≤ j))) (tOp (rIxT K) (tVar 1) (tC (V.int 2))) (tVar 9))))
      (tAnd (tTest (tOp (fun x y H Q => y = V.non ∧ Q (V.bl !decide (x = V.non)) H) (tVar 10) (tC V.non))) (tTest (tOp (rI0 fun i j => V.bl (decide (j ≤ i))) (tOp (rIxT K) (tVar 1) (tC (V.int 2))) (tVar 10)))) σ H F := by
  have ef : ∀ {l h : Option Int}, insB (l, h) z = (okS (l, some z) && okS (some z, h)) := rfl
  have hiP : ∀ b1, okS (lo, some z) = b1 → b1 = true → tAnd (tTest (tOp (fun x y H Q => y = V.non ∧ Q (V.bl !decide (x = V.non)) H) (tVar 10) (tC V.non))) (tTest (tOp (rI0 fun i j => V.bl (decide (j ≤ i))) (tOp (rIxT K) (tVar 1) (tC (V.int 2))) (tVar 10))) σ H F := fun b1 e1 e2 => by
    rw [ef, e1, e2, Bool.true_and] at k
    refine ⟨_, h10, rfl, _, rfl, ?_⟩
    cases hi with
    | none => exact iteF k
    | some h =>
      refine iteT ⟨_, h1, wa, _, 2, .int z, rfl, rfl, hT, hz, _, h10, _, _, rfl, rfl, _, rfl, ?_⟩
      have : (!okS (some z, some h)) = decide (h ≤ z) := by
        show (!decide (z < h)) = decide (h ≤ z)
        rw [Bool.eq_iff_iff]
        simp
      rw [this] at k
      exact k
  refine ⟨_, h9, rfl, _, rfl, ?_⟩
  cases lo with
  | none => exact iteF (iteF (hiP true rfl rfl))
  | some l =>
    refine iteT ⟨_, h1, wa, _, 2, .int z, rfl, rfl, hT, hz, _, h9, _, _, rfl, rfl, _, rfl, ?_⟩
    by_cases q : z ≤ l
    · refine iteTe (decide_eq_true q) ?_
      have e : okS (some l, some z) = false := decide_eq_false (by omega)
      rw [ef, e, Bool.false_and] at k
      exact k
    · exact iteFe (decide_eq_false q) (hiP true (decide_eq_true (by omega)) rfl)
/-- one's end is None, or other's begin is another -/
theorem touch_test {K : PySem.W.Frag} {σ : L2.St} {H : Hp} {F : Bool → Hp → Prop} {s t : Span} {a b : Addr} (h11 : σ[11]? = some (some (.ref a))) (h12 : σ[12]? = some (some (.ref b))) (ha : H a = some (.tup (spV s))) (hb : H b = some (.tup (spV t))) (k : F (!touchB s t) H) :
    tOr (tTest (tOp (fun x y H Q => y = V.non ∧ Q (V.bl (decide (x = V.non))) H) (tOp (rIxT K) (tVar 11) (tC (V.int 1))) (tC V.non))) (tTest (tOp rNe (tOp (rIxT K) (tVar 11) (tC (V.int 1))) (tOp (rIxT K) (tVar 12) (tC (V.int 0))))) σ H F := by
  obtain ⟨s1, s2⟩ := s
  obtain ⟨t1, t2⟩ := t
  refine ⟨_, h11, a, _, 1, limV s2, rfl, rfl, SqT.of ha, atI_nat (j := 1) rfl, rfl, _, rfl, ?_⟩
  cases s2 with
  | none => exact iteT k
  | some x =>
    refine iteF ⟨_, h11, a, _, 1, .int x, rfl, rfl, SqT.of ha, atI_nat (j := 1) rfl, _, h12, b, _, 0, limV t1, rfl, rfl, SqT.of hb, atI_nat (j := 0) rfl, by cases t1 <;> rfl, _, rfl, ?_⟩
    cases t1 with
    | none => exact k
    | some y =>
      have e : (!touchB (s1, some x) (some y, t2)) = !decide (V.int x = V.int y) := by
        show (!decide (x = y)) = !decide (V.int x = V.int y)
        rw [show decide (V.int x = V.int y) = decide (x = y) from decide_eq_decide.mpr ⟨fun z => by injection z, fun z => by rw [z]⟩]
      rw [e] at k
      exact k
def sp_ljoin (K : PySem.W.Frag) : Sp := fun vs H Q _ => ∃ (H0 : Hp) (p q : Addr) (n : Nat) (rr : List MRow) (rt : Option Str) (nm g : Str), vs = [.ref p, .ref q, .str nm, .str g] ∧ BoxIn H0 H p n ∧ MG H0 q rr rt ∧ G8 rr rt ∧ nameS nm = true ∧ nameS g = true ∧ nm ≠ g ∧ nm ≠ ("zzzz" : Str) ∧ g ≠ ("zzzz" : Str) ∧ n + 20 < 1000000 ∧
  ∀ (H1 H' : Hp) (w : V) (l r : Str), Same H0 H1 → BoxIn H1 H' p (n + 15) → ChgAt K H1 w (.join l r g) → (Chg.join l r g).ok → Q w H'
theorem rr_inj {rr : List MRow} (nd : (rr.map (·.2.1)).Nodup) {a b : MRow} (ha : a ∈ rr) (hb : b ∈ rr) (e : a.2.1 = b.2.1) : a = b := by
  by_cases ne : a = b
  · exact ne
  · unfold List.Nodup at nd
    rw [List.pairwise_map] at nd
    exact absurd e (pw_mem (R := fun a b : MRow => a.2.1 ≠ b.2.1) (fun a b h z => h z.symm) nd ha hb ne)
abbrev TRow := Addr × Str × Str
def TOk (H : Hp) (ns : List Str) (TL : List TRow) : Prop := ∀ t ∈ TL, H t.1 = some (.tup [.str t.2.1, .str t.2.2]) ∧ t.2.1 ∈ ns ∧ t.2.2 ∈ ns ∧ t.2.1 ≠ t.2.2
theorem TOk.mono {H H' : Hp} {ns : List Str} {TL : List TRow} (s : Same H H') (h : TOk H ns TL) : TOk H' ns TL := fun t ht => ⟨s _ _ (h t ht).1, (h t ht).2⟩
theorem TOk.sub {H : Hp} {ns : List Str} {TL TL' : List TRow} (h : TOk H ns TL) (s : ∀ t ∈ TL', t ∈ TL) : TOk H ns TL' := fun t ht => h t (s t ht)
theorem t_dp {K : PySem.W.Frag} {H : Hp} {ns : List Str} : ∀ {TL : List TRow}, TOk H ns TL → DpAll K H (TL.map fun t => V.ref t.1) (TL.map fun t => PyData.tuple [.str t.2.1, .str t.2.2])
  | [], _ => .nil
  | t :: r, h => .cons (.tup (SqT.of (h t List.mem_cons_self).1) (.cons (.str _) (.cons (.str _) .nil))) (t_dp fun x hx => h x (List.mem_cons_of_mem _ hx))
theorem t_sh {H : Hp} {ns : List Str} {TL : List TRow} (h : TOk H ns TL) (hn : ∀ s ∈ ns, nameS s = true) : SeqAt.shaped (.list (TL.map fun t => PyData.tuple [.str t.2.1, .str t.2.2])) = true := shaped_list (n := 1) (by decide) fun d hd => by
  obtain ⟨t, ht, rfl⟩ := List.mem_map.mp hd
  obtain ⟨_, h1, h2, _⟩ := h t ht
  constructor
  · simp only [PyData.canLay0]
    refine canAll_mem.mpr fun d hd => ?_
    simp only [List.mem_cons, List.not_mem_nil, or_false] at hd
    rcases hd with rfl | rfl
    · simp only [PyData.canLay0]
      exact nameC_ok (hn _ h1)
    · simp only [PyData.canLay0]
      exact nameC_ok (hn _ h2)
  · simp [PyData.depth, PyData.depthAll]
theorem limV_dec (a b : Option Int) : decide (limV a = limV b) = decide (a = b) := by
  rw [decide_eq_decide]
  constructor
  · intro h
    cases a <;> cases b <;> simp [limV] at h <;> simp [h]
  · intro h
    rw [h]
def sp_ldrawn (K : PySem.W.Frag) : Sp := fun vs H Q _ => ∃ (H0 : Hp) (p q sl : Addr) (n : Nat) (rr : List MRow) (rt : Option Str) (a b : Str), vs = [.ref p, .ref q, .ref sl] ∧ BoxIn H0 H p n ∧ MG H0 q rr rt ∧ H0 sl = some (.lst [.str a, .str b]) ∧ G8 rr rt ∧ (∀ s ∈ namesM rr rt, s ≠ ("zzzz" : Str)) ∧ Spare (namesM rr rt) a b ∧ n + 60 < 1000000 ∧
  ∀ (H1 H' : Hp) (w : V) (c : Chg), Same H0 H1 → BoxIn H1 H' p (n + 40) → ChgAt K H1 w c → (∀ m x s, c = .hang m x s → H1 x = some (.tup (spV s))) → c.ok → (∀ s ∈ c.new, s ≠ ("zzzz" : Str)) → Q w H'
theorem or_tail {K : PySem.W.Frag} {σ : L2.St} {H : Hp} {Q : VK} {rt : Option Str} (hn : ∀ s, rt = some s → nameS s = true) (k : Q (.str (rt.getD "zz")) H) : ∃ b, TruV K (rvO rt) H b ∧ if b = true then Q (rvO rt) H else tC (.str "zz") σ H Q := by
  cases rt with
  | none => exact ⟨false, rfl, iteF k⟩
  | some s =>
    have h := hn s rfl
    have h8 := nameC_len h
    unfold nameS at h
    rw [Bool.and_eq_true, Bool.and_eq_true, decide_eq_true_iff] at h
    refine ⟨true, ⟨Nat.le_trans h8 (by decide), ?_⟩, iteT k⟩
    have : (s.length : Int) ≠ 0 := by omega
    simpa using this
/-- what is known while a change is drawn -/
structure Dr (H0 H : Hp) (p : Addr) (n : Nat) (ll : Addr) (LL : List Int) (nl : Addr) (NN : List Str) : Prop where
  box : BoxIn H0 H p n
  lp : ll ≠ p
  l : H ll = some (.lst (LL.map V.int))
  np : nl ≠ p
  n : H nl = some (.lst (NN.map V.str))
theorem Dr.keep {H0 H H' : Hp} {p : Addr} {n : Nat} {ll : Addr} {LL : List Int} {nl : Addr} {NN : List Str} (d : Dr H0 H p n ll LL nl NN) (s : Same H H') : Dr H0 H' p n ll LL nl NN := ⟨d.box.keep s, d.lp, s _ _ d.l, d.np, s _ _ d.n⟩
theorem Dr.draw {H0 H H' : Hp} {p : Addr} {n m : Nat} {ll : Addr} {LL : List Int} {nl : Addr} {NN : List Str} (d : Dr H0 H p n ll LL nl NN) (b : BoxIn (but H p) H' p m) : Dr H0 H' p m ll LL nl NN :=
  ⟨b.low d.box.all.2, d.lp, b.same _ _ (by rw [but_ne d.lp]; exact d.l), d.np, b.same _ _ (by rw [but_ne d.np]; exact d.n)⟩
theorem box_keep {H H' : Hp} {p x : Addr} {m : Nat} {o : HO} (b : BoxIn (but H p) H' p m) (n : x ≠ p) (h : H x = some o) : H' x = some o := b.same _ _ (by rw [but_ne n]; exact h)
theorem add_v {H : Hp} {Q : VK} {i j k : Int} (e : k = i + j) (h : Q (.int k) H) : rI0 (fun i j => V.int (i + j)) (.int i) (.int j) H Q := ⟨i, j, rfl, rfl, by rw [e] at h; exact h⟩
section
variable {K : PySem.W.Frag} {mg : Str → Option Value} {base : Heap}
def toldHs12 (T : Txt K mg base) : List (Value × (Addr → Value → Option Addr → TS)) :=
  [(Value.ref T.C_InvalidCatalog, fun a cls d => tRet (tLst (tCons (tC (V.str "catalog")) (tCons (tXf a cls d T.C_InvalidCatalog "value" (tVar 3)) tNil)))),
   (Value.ref T.C_InvalidChange, fun a cls d => tRet (tLst (tCons (tC (V.str "change")) (tCons (tXf a cls d T.C_InvalidChange "value" (tVar 3)) tNil)))),
   (Value.ref T.C_UnknownPart, fun a cls d => tRet (tLst (tCons (tC (V.str "part")) (tCons (tXf a cls d T.C_UnknownPart "name" (tVar 3)) tNil)))),
   (Value.ref T.C_NameTaken, fun a cls d => tRet (tLst (tCons (tC (V.str "taken")) (tCons (tXf a cls d T.C_NameTaken "name" (tVar 3)) tNil)))),
   (Value.ref T.C_Overlap, fun a cls d => tRet (tLst (tCons (tC (V.str "overlap")) (tCons (tXf a cls d T.C_Overlap "name" (tVar 3)) tNil)))),
   (Value.ref T.C_NotInside, fun a cls d => tRet (tLst (tCons (tC (V.str "inside")) (tCons (tXf a cls d T.C_NotInside "at" (tVar 3)) tNil)))),
   (Value.ref T.C_NotNeighbours, fun a cls d => tRet (tLst (tCons (tC (V.str "neighbours")) (tCons (tXf a cls d T.C_NotNeighbours "name" (tVar 3)) tNil)))),
   (Value.ref T.C_TooMany, fun a cls d => tRet (tLst (tCons (tC (V.str "many")) (tCons (tXf a cls d T.C_TooMany "bound" (tVar 3)) tNil))))]
end
def sp_ltold12 (K : PySem.W.Frag) (C P : Addr) : Sp := fun vs H Q _ => ∃ (way : Int) (v w : V) (cv : Option (List Row × Option Str)) (co : Option Chg), vs = [.int way, v, w] ∧ CIn K C H v cv ∧ WIn K H w co ∧ LamX.TabS H P lamQ ∧ 0 ≤ way ∧ way ≤ 3 ∧
  (∀ n z, erC v w cv co = some (n, z) → (way = 3 → cv = none ∨ co = none) ∧ ∀ H' p, EX [] H H' → LamX.TabS H' P lamQ → H' p = some (.lst [.str (w12 n), z]) → Q (.ref p) H') ∧
  (∀ rs rt c, cv = some (rs, rt) → co = some c → chE (rs.map nsr) rt c = none → (way = 0 ∨ way = 1) ∧ ∀ H' p x' rs', EX [] H H' → LamX.TabS H' P lamQ → H' p = some (.lst [.str "made", .ref x']) → CatNew K C H H' x' rs' rt → (rs'.map nsr).Perm (nextL (rs.map nsr) c) → Q (.ref p) H')
theorem erC_le {v w : V} {cv : Option (List Row × Option Str)} {co : Option Chg} {n : Nat} {z : V} (h : erC v w cv co = some (n, z)) : n = 3 ∨ n = 4 ∨ n = 5 ∨ n = 6 ∨ n = 7 ∨ n = 8 ∨ n = 9 ∨ n = 10 := by
  cases cv with
  | none => cases h; simp
  | some q =>
    obtain ⟨rs, rt⟩ := q
    cases co with
    | none => cases h; simp
    | some c =>
      have h : chE (rs.map nsr) rt c = some (n, z) := h
      rcases chE_le h with e | e | e | e | e | e <;> simp [e]
theorem chE_sure {L : NS} {rt : Option Str} {c : Chg} {n : Nat} {v : V} (h : chE L rt c = some (n, v)) : sureV v = true := by
  unfold chE at h
  split at h
  · cases h; rfl
  · split at h
    · cases h; rfl
    · split at h
      · rename_i q e
        cases h
        cases c with
        | hang m a s =>
          have e : (overL L s).head?.map (fun y => ((3, V.str y) : Nat × V)) = some (n, v) := e
          cases q : (overL L s).head? with
          | none => rw [q] at e; cases e
          | some y => rw [q] at e; cases e; rfl
        | take m => cases e
        | split m z l r =>
          have e : (if insB (spL L m) z = true then none else some ((7, V.int z) : Nat × V)) = some (n, v) := e
          split at e
          · cases e
          · cases e; rfl
        | join l r m =>
          have e : (if touchB (spL L l) (spL L r) = true then none else some ((8, V.str r) : Nat × V)) = some (n, v) := e
          split at e
          · cases e
          · cases e; rfl
      · split at h
        · cases h; rfl
        · cases h
theorem w12_made {n : Nat} : decide (V.str (w12 n) = V.str "made") = false := by
  have h : w12 n ∈ (["overlap", "taken", "many", "part", "inside", "neighbours", "catalog", "change"] : List Str) := by
    unfold w12
    split <;> simp
  have all : ∀ s ∈ (["overlap", "taken", "many", "part", "inside", "neighbours", "catalog", "change"] : List Str), decide (V.str s = V.str "made") = false := by decide +kernel
  exact all _ h
theorem VD.ex0 {K : PySem.W.Frag} {H H' : Hp} (s : EX [] H H') {v : V} {o : Option PyData} (h : VD K H v o) : VD K H' v o := by
  cases h with
  | dat a b c => exact .dat (dp_nd (EX.nil0 s) a) b c
  | dic a => exact .dic (s _ _ List.not_mem_nil a fun ps z => by cases z)
theorem SqT.draw {K : PySem.W.Frag} {H H' : Hp} {p a : Addr} {n m : Nat} {xs : List V} (b : BoxAt H p n) (B : BoxIn (but H p) H' p m) (h : SqT K H a xs) : SqT K H' a xs := by
  obtain ⟨_, _, _, hp, _⟩ := b
  exact tup_sx (sxB B) hp h
theorem ChgAt.draw {K : PySem.W.Frag} {H H' : Hp} {p : Addr} {n m : Nat} {w : V} {c : Chg} (b : BoxAt H p n) (B : BoxIn (but H p) H' p m) (h : ChgAt K H w c) : ChgAt K H' w c := by
  obtain ⟨wa, h1, h2, h3⟩ := h
  exact ⟨wa, h1, SqT.draw b B h2, fun n a s e => SqT.draw b B (h3 n a s e)⟩
/-- the state of a turn -/
structure St12 (K : PySem.W.Frag) (C P : Addr) (H : Hp) (p : Addr) (n : Nat) (a : Addr) (ns : List Int) (q : Addr) (rr : List MRow) (rt : Option Str) (x : Addr) (rs : List Row) : Prop where
  S : LS H p n P
  A : SqL K (nb H p) a (ns.map V.int)
  M : MT (nb H p) q rr rt
  C : CatAt K C (nb H p) x rs rt
section
variable {K : PySem.W.Frag} {C P : Addr} {H H' : Hp} {p : Addr} {n n' : Nat} {a : Addr} {ns : List Int} {q : Addr} {rr : List MRow} {rt : Option Str} {x : Addr} {rs : List Row}
theorem St12.ex (h : St12 K C P H p n a ns q rr rt x rs) (e : EX [p] H H') (S : LS H' p n' P) : St12 K C P H' p n' a ns q rr rt x rs :=
  have s := nb_ex e
  ⟨S, s.seq h.A, h.M.mono s, h.C.mono s⟩
theorem St12.keep (h : St12 K C P H p n a ns q rr rt x rs) (s : Same H H') : St12 K C P H' p n a ns q rr rt x rs := h.ex (.same s) (h.S.keep s)
theorem St12.draw (h : St12 K C P H p n a ns q rr rt x rs) (B : BoxIn (but H p) H' p n') : St12 K C P H' p n' a ns q rr rt x rs := h.ex (ex_of B) (h.S.after B)
theorem St12.mono (h : St12 K C P H p n a ns q rr rt x rs) (e : n ≤ n') : St12 K C P H p n' a ns q rr rt x rs := ⟨h.S.mono e, h.A, h.M, h.C⟩
theorem St12.ex0 (h : St12 K C P H p n a ns q rr rt x rs) (e : EX [] H H') (t : LamX.TabS H' P lamQ) : St12 K C P H' p n a ns q rr rt x rs := h.ex (e.mono (by simp)) ⟨h.S.box.nd (EX.nil0 e), t⟩
theorem St12.cin (h : St12 K C P H p n a ns q rr rt x rs) (G : G8 rr rt) (pm : (rs.map nsr).Perm (rr.map nsp)) : CIn K C H (.ref x) (some (rs, rt)) :=
  .cat (h.C.mono (nb_le H p)) ((GL.ofG8 G).perm pm.symm) (by
    have h1 := G.len
    have h2 := pm.length_eq
    unfold namesM at h1
    rw [List.length_append, List.length_map] at h1
    rw [List.length_map, List.length_map] at h2
    rw [nmsL_rows, List.length_append, List.length_map, h2]
    exact h1)
end
theorem names_next {rr rr' : List MRow} {rt : Option Str} {c : Chg} (e : rr'.map nsp = nextL (rr.map nsp) c) (hz : ∀ s ∈ namesM rr rt, s ≠ ("zzzz" : Str)) (hn : ∀ s ∈ c.new, s ≠ ("zzzz" : Str)) : ∀ s ∈ namesM rr' rt, s ≠ ("zzzz" : Str) := fun s hs => by
  have e2 : rr'.map (·.2.1) = nmsL (keptL (rr.map nsp) c) ++ c.new := by
    rw [← nextL_names, ← e, nmsL_rr]
  unfold namesM at hs
  rw [e2] at hs
  rcases List.mem_append.mp hs with hs | hs
  · rcases List.mem_append.mp hs with hs | hs
    · refine hz s (List.mem_append_left _ ?_)
      have : s ∈ nmsL (rr.map nsp) := ((keptL_sub _ c).map _).subset hs
      rwa [nmsL_rr] at this
    · exact hn s hs
  · exact hz s (List.mem_append_right _ hs)
theorem ceq_nsr {rs rs' : List Row} {rt : Option Str} (h1 : (rs.map (·.1)).Nodup) (h2 : (rs'.map (·.1)).Nodup) (p : (rs.map nsr).Perm (rs'.map nsr)) : ceqB rs rs' rt rt = true := by
  rw [ceq_same h1 h2 (by have := p.length_eq; rwa [List.length_map, List.length_map] at this) fun r hr => ?_]
  · exact decide_eq_true rfl
  · obtain ⟨r', hr', e⟩ := List.mem_map.mp (p.mem_iff.mp (List.mem_map.mpr ⟨r, hr, rfl⟩))
    exact ⟨r', hr', e⟩
theorem nsr_rowsM (rr : List MRow) : (rowsM rr).map nsr = rr.map nsp := by
  unfold rowsM
  rw [List.map_map]
  rfl
section
variable {P : Program} {w : World} {K : PySem.W.Frag} {mg : Str → Option Value} {base : Heap}
theorem ok_law_cell (T : Txt K mg base) : FnOk P w K mg base CX0 1 T.f_law_cell T.fd_law_cell ["_law_script", "_law_k"] (sp_law_cell K) := by
  refine T.F_law_cell.ok sc_law_cell (fun vs H Q E h => ?_) (fun cdv A outer s H vs Q E hr h => ?_)
  · obtain ⟨a, ns, k, rfl, _⟩ := h
    rfl
  · obtain ⟨a, ns, k, rfl, hS, hk, kq⟩ := h
    refine ⟨_, (pss_cons (ps_if (pt_cmpR op_lt (pv 1) (pe_callB (id := "len") call_len_seq (by rfl) T.z_len (by decide +kernel) (pa_cons (pv 0) pa_nil)) (nomark _)) (pss_one (ps_ret (pe_ix ix_list (pv 0) (pv 1) (fun _ _ => rfl)))) pss_nil)
        (pss_one (ps_ret (pe_op op_add (pe_op op_mul pe_int (pv 1)) pe_int)))), ?_⟩
    refine ⟨_, rfl, _, rfl, a, _, rfl, .inl hS, _, _, rfl, rfl, _, rfl, ?_⟩
    refine ite2 (fun c => ?_) (fun c => ?_)
    · have c' := of_decide_eq_true c
      rw [List.length_map] at c'
      obtain ⟨j, rfl⟩ := Int.eq_ofNat_of_zero_le hk
      have hj : j < ns.length := by omega
      refine ⟨_, rfl, _, rfl, a, _, _, .int ns[j], rfl, rfl, hS, atI_nat (by rw [List.getElem?_map, List.getElem?_eq_getElem hj]; rfl), kq _⟩
    · refine ⟨_, rfl, _, _, rfl, rfl, .inl ⟨by decide, by decide⟩, _, _, rfl, rfl, kq _⟩
theorem ok_law_box (T : Txt K mg base) : FnOk P w K mg base CX0 1 T.f_law_box T.fd_law_box ["_law_cell_here"] sp_law_box := by
  refine T.F_law_box.ok sc_law_box (fun vs H Q E h => ?_) (fun cdv A outer s H vs Q E hr h => ?_)
  · obtain ⟨z, rfl, _⟩ := h
    rfl
  · obtain ⟨z, rfl, k⟩ := h
    refine ⟨_, (pss_one (ps_ret (pe_lst (pa_cons (pe_callB (id := "max") (call_max2 rfl) (by rfl) T.z_max (by decide +kernel) (pa_cons pe_int (pa_cons (pe_op op_sub (pv 0) (pe_op op_pow pe_int pe_int)) pa_nil))) (pa_cons (pe_op op_mod (pv 0) pe_int) (pa_cons pe_int pa_nil)))))), ?_⟩
    refine ⟨_, rfl, _, _, rfl, rfl, ⟨by decide, by decide, by decide⟩, _, _, rfl, rfl, _, _, rfl, ?_⟩
    refine ⟨_, rfl, _, _, rfl, rfl, (by show (0 : Int) < 2147483629; decide), (by show 3 ≤ sizeLine; decide), fun p hp => ?_⟩
    refine k p _ hp ⟨_, _, _, upd_same, ?_, Int.emod_nonneg _ (by decide), Int.emod_lt_of_pos _ (by decide), by decide, by decide⟩
    by_cases c : z - 10 ^ (18 : Int).toNat > 0
    · rw [if_pos c]
      omega
    · rw [if_neg c]
      exact Int.le_refl _
theorem ok_law_take (T : Txt K mg base) : FnOk P w K mg base CX0 1 T.f_law_take T.fd_law_take ["_law_box_here", "_law_many"] sp_law_take := by
  refine T.F_law_take.ok sc_law_take (fun vs H Q E h => ?_) (fun cdv A outer s H vs Q E hr h => ?_)
  · obtain ⟨H0, p, n, m, rfl, _⟩ := h
    rfl
  · obtain ⟨H0, p, n, m, rfl, B, hn, hm, hm2, k⟩ := h
    obtain ⟨d, s, c, hp, hd, hs, hs2, hc, hc2⟩ := B.box
    have hL : SqL K H p [.int d, .int s, .int c] := SqL.of hp
    have nx : ∀ (d' c' : Int), 0 ≤ d' → 0 ≤ c' → c' ≤ c + 1 → BoxIn H0 (upd H p (.lst [.int d', .int s, .int c'])) p (n + 1) := fun d' c' h1 h2 h3 =>
      ⟨fun x u e => by rw [upd_ne (ne_of_none e B.free)]; exact B.same _ _ e, B.free, d', s, c', upd_same, h1, hs, hs2, h2, by omega⟩
    refine ⟨_, (pss_cons (ps_if (pt_cmpR op_gt (pe_ix ix_list (pv 0) pe_int (fun _ _ => rfl)) pe_int (nomark _)) (pss_cons (ps_set (i := 2) sc_law_take.nd rfl (Or.inl rfl) (pe_op op_mod (pe_ix ix_list (pv 0) pe_int (fun _ _ => rfl)) (pv 1)))
        (pss_cons (ps_asg (pe_op op_fdiv (pe_ix ix_list (pv 0) pe_int (fun _ _ => rfl)) (pv 1)) (pg_sub (pv 0) pe_int set_list))
        (pss_one (ps_ret (pv 2))))) pss_nil)
        (pss_cons (ps_asg (pe_op op_add (pe_ix ix_list (pv 0) pe_int (fun _ _ => rfl)) pe_int) (pg_sub (pv 0) pe_int set_list))
        (pss_cons (ps_set (i := 3) sc_law_take.nd rfl (Or.inl rfl) (pe_op op_mod (pe_op op_pow (pe_op op_add (pe_op op_add (pe_ix ix_list (pv 0) pe_int (fun _ _ => rfl)) (pe_op op_mul pe_int (pe_ix ix_list (pv 0) pe_int (fun _ _ => rfl)))) pe_int) pe_int) pe_int))
        (pss_cons (ps_set (i := 3) sc_law_take.nd rfl (Or.inl rfl) (pe_op op_mod (pe_op op_pow (pe_op op_add (pv 3) (pe_op op_mul pe_int (pe_ix ix_list (pv 0) pe_int (fun _ _ => rfl)))) pe_int) pe_int))
        (pss_one (ps_ret (pe_op op_mod (pe_op op_fdiv (pv 3) pe_int) (pv 1)))))))), ?_⟩
    refine ⟨_, rfl, p, _, _, _, rfl, rfl, hL, atI_nat (j := 0) rfl, _, _, rfl, rfl, _, rfl, ?_⟩
    refine ite2 (fun c0 => ?_) (fun c0 => ?_)
    · have c0' := of_decide_eq_true c0
      refine ⟨_, rfl, p, _, _, _, rfl, rfl, hL, atI_nat (j := 0) rfl, _, rfl, _, _, rfl, rfl, hm, ?_⟩
      refine ⟨_, rfl, p, _, _, _, rfl, rfl, hL, atI_nat (j := 0) rfl, _, rfl, _, _, rfl, rfl, ⟨hm, by omega⟩, ?_⟩
      refine ⟨_, rfl, p, _, _, 0, rfl, rfl, hp, rfl, ?_⟩
      refine ⟨_, rfl, k _ _ (Int.emod_nonneg _ (by omega)) (Int.emod_lt_of_pos _ hm) (nx _ _ (Int.ediv_nonneg hd (by omega)) hc (by omega))⟩
    · refine ⟨_, rfl, p, _, _, _, rfl, rfl, hL, atI_nat (j := 2) rfl, _, _, rfl, rfl, ?_⟩
      refine ⟨_, rfl, p, _, _, 2, rfl, rfl, hp, rfl, ?_⟩
      have hL' : SqL K (upd H p (.lst [.int d, .int s, .int (c + 1)])) p [.int d, .int s, .int (c + 1)] := SqL.of upd_same
      refine ⟨_, rfl, p, _, _, _, rfl, rfl, hL', atI_nat (j := 1) rfl, _, rfl, p, _, _, _, rfl, rfl, hL', atI_nat (j := 2) rfl, _, _, rfl, rfl, .inl ⟨by decide, by decide⟩, _, _, rfl, rfl, _, _, rfl, rfl, _, _, rfl, rfl, ⟨by decide, by decide, by omega⟩, _, _, rfl, rfl, (by show (0 : Int) < 2147483647; decide), ?_⟩
      have h1 := Int.emod_nonneg ((s + 7919 * (c + 1) + 43) ^ (5 : Int).toNat) (show (2147483647 : Int) ≠ 0 by decide)
      have h2 := Int.emod_lt_of_pos ((s + 7919 * (c + 1) + 43) ^ (5 : Int).toNat) (show (0 : Int) < 2147483647 by decide)
      refine ⟨_, rfl, _, rfl, p, _, _, _, rfl, rfl, hL', atI_nat (j := 2) rfl, _, _, rfl, rfl, .inl ⟨by decide, by decide⟩, _, _, rfl, rfl, _, _, rfl, rfl, ⟨by decide, by decide, by omega⟩, _, _, rfl, rfl, (by show (0 : Int) < 2147483587; decide), ?_⟩
      refine ⟨_, rfl, _, _, rfl, rfl, ⟨by decide, by decide⟩, _, rfl, _, _, rfl, rfl, hm, ?_⟩
      exact k _ _ (Int.emod_nonneg _ (by omega)) (Int.emod_lt_of_pos _ hm) (nx _ _ hd (by omega) (by omega))
theorem ok_law_mixed (T : Txt K mg base) : FnOk P w K mg base CX0 2 T.f_law_mixed T.fd_law_mixed ["_law_box_here", "_law_some"] sp_mixed := by
  refine T.F_law_mixed.ok sc_law_mixed (fun vs H Q E h => ?_) (fun cdv A outer s H vs Q E hr h => ?_)
  · obtain ⟨H0, p, l, n, xs, rfl, _⟩ := h
    rfl
  · obtain ⟨H0, p, l, n, xs, rfl, B, hl, hz, hn, k⟩ := h
    refine ⟨_, (pss_cons (ps_set (i := 2) sc_law_mixed.nd rfl (Or.inr rfl) (pe_callTy (T := "list") call_list_of (by rfl) T.z_list (by decide +kernel) (pa_cons (pv 1) pa_nil)))
        (pss_one (ps_ret (pe_lc (own := [("_law_k", 3)]) (g := gName 3) (tt := tYes) rfl sc_law_mixed.nd (pi_range1 rfl T.z_range (pa_cons (pe_callB (id := "len") call_len_seq (by rfl) T.z_len (by decide +kernel) (pa_cons (pv 1) pa_nil)) pa_nil)) (blkOk_by (own := [("_law_k", 3)]) (N := ["_law_box_here", "_law_some", "_law_left", "_law_k"]) (sc := defScope s_law_mixed) (by decide +kernel)) (fun _ _ _ _ _ => (pg_name (i := 3) sc_law_mixed.nd rfl (Or.inl rfl))) (fun _ _ _ _ _ => pts_nil) (fun _ _ _ _ _ => (show PE _ _ (tBM K "list" rPopAt _ _) from (pe_bm PySem.F.plainAttrs_list PySem.F.slot_list_pop PySem.F.type_list_pop (r := rPopAt) mt_popAt (pv 2) (pa_cons (pe_call (ok_law_take T) hr rfl T.m_law_take T.F_law_take.kp T.b_law_take .nil pass0 (pa_cons (pv 0) (pa_cons (pe_callB (id := "len") (r := fun xs H Q => ∃ p ys, xs = [.ref p] ∧ (SqL K H p ys ∨ SqT K H p ys) ∧ Q (.int ys.length) H) call_len_seq (by rfl) T.z_len (by decide +kernel) (pa_cons (pv 2) pa_nil)) pa_nil))) pa_nil)))))))), ?_⟩
    have hS : SqL K H l xs := SqL.of hl
    have pn : ∀ {H' : Hp} {m : Nat}, BoxIn H0 H' p m → ∀ {t : Addr}, H' t = none → t ≠ p := fun {H' m} b {t} h => by
      obtain ⟨_, _, _, hp, _⟩ := b.box
      exact (ne_of_none hp h).symm
    refine ⟨_, rfl, l, xs, rfl, .inl hS, fun t ht => ?_⟩
    have htp := pn B ht
    have nlt : l ≠ t := ne_of_none hl ht
    have B1 : BoxIn H0 (upd H t (.lst xs)) p n := B.keep (same_new ht)
    refine ⟨_, rfl, l, xs, rfl, .inl (SqL.of (by rw [upd_ne nlt]; exact hl)), xs.length, rfl, by omega, by omega, fun D hD => ?_⟩
    have hDp := pn B1 hD
    have hDt : D ≠ t := fun e => by
      rw [e, upd_same] at hD
      cases hD
    have hD0 : H0 D = none := B1.same.free hD
    have ht0 : H0 t = none := B.same.free ht
    refine lc_range (fun i H2 => ∃ acc left : List V, H2 D = some (.lst acc) ∧ acc.length = i ∧ H2 t = some (.lst left) ∧ (acc ++ left).Perm xs ∧ BoxIn H0 H2 p (n + i)) ⟨[], xs, upd_same, rfl, by rw [upd_ne hDt.symm, upd_same], List.Perm.refl _, B1.mut hDp hD0⟩ ?_ ?_
    · rintro i H2 hi ⟨acc, left, hl2, hy, ht2, hpm, B2⟩
      have hll : left.length = xs.length - i := by
        have := hpm.length_eq
        rw [List.length_append] at this
        omega
      have B2' := B2.all
      refine ⟨rfl, tyes ⟨_, rfl, .inl ⟨rfl, _, .inl (.inl ht2)⟩, _, rfl, _, rfl, t, left, rfl, .inl (SqL.of ht2), but H2 p, p, _, _, rfl, B2'.1, by omega, by omega, by omega, fun z H3 z0 z1 B3 => ?_⟩⟩
      obtain ⟨j, rfl⟩ := Int.eq_ofNat_of_zero_le z0
      have hj : j < left.length := by omega
      have ht3 : H3 t = some (.lst left) := B3.same _ _ (by rw [but_ne htp]; exact ht2)
      have hl3 : H3 D = some (.lst acc) := B3.same _ _ (by rw [but_ne hDp]; exact hl2)
      have hsi : seqIndex? (j : Int) left.length = some j := by
        unfold seqIndex?
        have e1 : ¬ ((j : Int) < 0) := by omega
        simp only [e1, if_false]
        rw [if_pos (by simp; omega)]
        simp
      refine ⟨t, left, (j : Int), j, left[j], rfl, rfl, ht3, by omega, by omega, hsi, List.getElem?_eq_getElem hj, acc, by rw [upd_ne hDt]; exact hl3, Nat.lt_of_lt_of_le (show acc.length < 200 by omega) (by decide), acc ++ [left[j]], left.eraseIdx j, upd_same, by simp [hy], by rw [upd_ne hDt.symm, upd_same], ?_, ?_⟩
      · refine List.Perm.trans ?_ hpm
        rw [List.append_assoc]
        refine List.Perm.append_left _ ?_
        rw [List.eraseIdx_eq_take_drop_succ]
        have e : left = left.take j ++ left[j] :: left.drop (j + 1) := by
          rw [List.getElem_cons_drop, List.take_append_drop]
        have q : (left.take j ++ left[j] :: left.drop (j + 1)).Perm (left[j] :: (left.take j ++ left.drop (j + 1))) := List.perm_middle
        exact q.symm.trans (List.Perm.of_eq e.symm)
      · exact ((B3.low B2'.2).mut htp ht0).mut hDp hD0
    · rintro H2 ⟨acc, left, hl2, hy, ht2, hpm, B2⟩
      have e : left = [] := by
        have := hpm.length_eq
        rw [List.length_append] at this
        exact List.length_eq_zero_iff.mp (by omega)
      rw [e, List.append_nil] at hpm
      exact k D H2 acc B2.same hD0 hDp hl2 hpm B2
theorem ok_law_names (T : Txt K mg base) : FnOk P w K mg base CX0 3 T.f_law_names T.fd_law_names ["_law_box_here", "_law_many"] sp_names := by
  refine T.F_law_names.ok sc_law_names (fun vs H Q E h => ?_) (fun cdv A outer s H vs Q E hr h => ?_)
  · obtain ⟨H0, p, n, m, rfl, _⟩ := h
    rfl
  · obtain ⟨H0, p, n, m, rfl, B, hm, hn, k⟩ := h
    refine ⟨_, (pss_cons (ps_set (i := 2) sc_law_names.nd rfl (Or.inl rfl) pe_str)
        (pss_cons (ps_if (pt_cmpR op_eq (pe_call (ok_law_take T) (hr.mono (by decide)) rfl T.m_law_take T.F_law_take.kp T.b_law_take .nil pass0 (pa_cons (pv 0) (pa_cons pe_int pa_nil))) pe_int (nomark _)) (pss_cons (ps_set (i := 3) sc_law_names.nd rfl (Or.inl rfl) (pe_lst (pa_cons pe_str (pa_cons pe_str (pa_cons pe_str (pa_cons pe_str (pa_cons pe_str (pa_cons pe_str (pa_cons pe_str (pa_cons pe_str (pa_cons pe_str (pa_cons pe_str (pa_cons pe_str (pa_cons pe_str (pa_cons pe_str pa_nil)))))))))))))))
        (pss_one (ps_ret (pe_slice sl_list (pe_call (ok_law_mixed T) hr rfl T.m_law_mixed T.F_law_mixed.kp T.b_law_mixed .nil pass0 (pa_cons (pv 0) (pa_cons (pv 3) pa_nil))) po_none (po_some (pv 1)))))) pss_nil)
        (pss_cons (ps_set (i := 4) sc_law_names.nd rfl (Or.inl rfl) (pe_ix ix_list (pe_lst (pa_cons pe_str (pa_cons pe_str (pa_cons pe_str (pa_cons pe_str (pa_cons pe_str (pa_cons pe_str pa_nil))))))) (pe_call (ok_law_take T) (hr.mono (by decide)) rfl T.m_law_take T.F_law_take.kp T.b_law_take .nil pass0 (pa_cons (pv 0) (pa_cons pe_int pa_nil))) (fun _ _ => rfl)))
        (pss_cons (ps_par3 (i := 5) (j := 6) (l := 7) (by rfl) sc_law_names.nd rfl rfl rfl (by decide) (by decide) (by decide) rfl rfl rfl (pa_cons (pe_call (ok_law_take T) (hr.mono (by decide)) rfl T.m_law_take T.F_law_take.kp T.b_law_take .nil pass0 (pa_cons (pv 0) (pa_cons pe_int pa_nil))) (pa_cons (pe_ix ix_list (pe_lst (pa_cons pe_int (pa_cons pe_int (pa_cons pe_int (pa_cons pe_int (pa_cons pe_int (pa_cons pe_int pa_nil))))))) (pe_call (ok_law_take T) (hr.mono (by decide)) rfl T.m_law_take T.F_law_take.kp T.b_law_take .nil pass0 (pa_cons (pv 0) (pa_cons pe_int pa_nil))) (fun _ _ => rfl)) (pa_cons (pe_call (ok_law_take T) (hr.mono (by decide)) rfl T.m_law_take T.F_law_take.kp T.b_law_take .nil pass0 (pa_cons (pv 0) (pa_cons pe_int pa_nil))) pa_nil))) (by rfl))
        (pss_cons (ps_set (i := 8) sc_law_names.nd rfl (Or.inl rfl) (pe_lst pa_nil))
        (pss_cons (ps_for PassesOwn.never rfl (pi_range1 rfl T.z_range (pa_cons (pv 1) pa_nil)) (pg_name (i := 9) sc_law_names.nd rfl (Or.inl rfl))
          (pss_cons (ps_set (i := 10) sc_law_names.nd rfl (Or.inl rfl) (pe_ix ix_str (pv 2) (pe_op op_mod (pe_op op_add (pv 5) (pe_op op_mul (pv 6) (pv 9))) pe_int) (fun _ _ => rfl)))
        (pss_cons (ps_set (i := 11) sc_law_names.nd rfl (Or.inl rfl) (pe_ix ix_list (pe_lst (pa_cons (pe_op op_add_str (pv 4) (pv 10)) (pa_cons (pe_op op_add_str (pv 10) (pv 4)) (pa_cons (pv 10) pa_nil)))) (pe_ifExp (pt_cmpR op_gt (pv 9) pe_int (nomark _)) (pv 7) pe_int) (fun _ _ => rfl)))
        (pss_one (ps_expr (pe_bm PySem.F.plainAttrs_list PySem.F.slot_list_append PySem.F.type_list_append mt_append (pv 8) (pa_cons (pe_ifExp (pt_cmpR op_eq (pv 11) pe_str (nomark _)) pe_str (pv 11)) pa_nil)))))))
        (pss_one (ps_ret (pv 8))))))))), ?_⟩
    have pn : ∀ {H0 H' : Hp} {m : Nat}, BoxIn H0 H' p m → ∀ {t : Addr}, H' t = none → t ≠ p := fun {H0 H' m} b {t} h => by
      obtain ⟨_, _, _, hp, _⟩ := b.box
      exact (ne_of_none hp h).symm
    refine ⟨_, rfl, H0, p, n, 7, rfl, B, by omega, by decide, by decide, fun z1 H1 z10 z11 B1 => ⟨rfl, _, rfl, ?_⟩⟩
    refine ite2 (fun c => ?_) (fun c => ?_)
    · refine ⟨(by show 13 ≤ sizeLine; decide), fun l hl => ?_⟩
      have B2 := B1.keep (same_new (o := .lst ((["begin", "empty", "rest", "step", "end", "look", "old", "new", "put", "part", "move", "split", "lock"] : List Str).map V.str)) hl)
      have hlp := pn B1 hl
      refine ⟨_, rfl, _, rfl, H0, p, l, _, (["begin", "empty", "rest", "step", "end", "look", "old", "new", "put", "part", "move", "split", "lock"] : List Str).map V.str, rfl, B2, upd_same, by decide, by show n + 1 + 13 < 1000000; omega, fun q H3 ys s3 hq0 hqp hq3 hpm B3 => ?_⟩
      obtain ⟨ss, rfl, hss⟩ := strs_of (xs := ys) (W := ["begin", "empty", "rest", "step", "end", "look", "old", "new", "put", "part", "move", "split", "lock"]) fun y hy => by
        obtain ⟨s, hs, e⟩ := List.mem_map.mp (hpm.mem_iff.mp hy)
        exact ⟨s, hs, e.symm⟩
      have hlen : ss.length = 13 := by
        have := hpm.length_eq
        rw [List.length_map, List.length_map] at this
        exact this
      refine ⟨_, rfl, m, rfl, q, _, rfl, SqL.of hq3, fun r hr => ?_⟩
      have e : cutV (ss.map V.str) none (some (m : Int)) = (ss.take m).map V.str := by
        unfold cutV
        rw [HT.sIx_none, HT.sIx_nat, List.length_map, hlen, List.drop_zero, Nat.sub_zero, List.map_take, Nat.min_eq_left hm]
      rw [e]
      have all : ∀ s ∈ (["begin", "empty", "rest", "step", "end", "look", "old", "new", "put", "part", "move", "split", "lock"] : List Str), sOk 16 s := by
        unfold sOk
        decide +kernel
      have nd : ss.Nodup := nodup_of_map (hpm.nodup_iff.mpr (nodup_map wordsL_ok.2))
      refine k r _ (ss.take m) (s3.trans (same_new hr)) (s3.free hr) (pn B3 hr) upd_same ?_ (fun s hs => all s (hss s (List.mem_of_mem_take hs))) (fun s hs => wordsL_ok.1 s (hss s (List.mem_of_mem_take hs))) (List.Pairwise.sublist (List.take_sublist _ _) nd) ((B3.keep (same_new hr)).mono (by show n + 1 + 13 ≤ n + 40; omega))
      rw [List.length_take, hlen]
      omega
    · refine ⟨(by show 6 ≤ sizeLine; decide), fun l hl => ?_⟩
      have B2 := B1.new (o := .lst ((["", "a", "tabl", "rest", "part", "zzzzzzz"] : List Str).map V.str)) hl
      refine ⟨_, rfl, _, p, _, 6, rfl, B2.1, by omega, by decide, by decide, fun z2 H2 z20 z21 B3 => ?_⟩
      obtain ⟨v, hv, hm1⟩ := atI_in (xs := (["", "a", "tabl", "rest", "part", "zzzzzzz"] : List Str).map V.str) z20 z21
      refine ⟨l, _, z2, v, rfl, rfl, SqL.of (B3.same _ _ upd_same), hv, ?_⟩
      obtain ⟨stem, hst, rfl⟩ := List.mem_map.mp hm1
      have hstem : sOk 7 stem := by
        have all : ∀ s ∈ (["", "a", "tabl", "rest", "part", "zzzzzzz"] : List Str), sOk 7 s := by
          unfold sOk
          decide +kernel
        exact all _ hst
      have B4 := B3.low B2.2
      refine ⟨_, rfl, H0, p, _, 26, rfl, B4, by omega, by decide, by decide, fun zf H3 zf0 zf1 B5 => ?_⟩
      refine ⟨(by show 6 ≤ sizeLine; decide), fun l2 hl2 => ?_⟩
      have B6 := B5.new (o := .lst ([1, 3, 5, 7, 9, 11].map V.int)) hl2
      refine ⟨_, rfl, _, p, _, 6, rfl, B6.1, by omega, by decide, by decide, fun z3 H4 z30 z31 B7 => ?_⟩
      obtain ⟨v3, hv3, hm3⟩ := atI_in (xs := ([1, 3, 5, 7, 9, 11] : List Int).map V.int) z30 z31
      refine ⟨l2, _, z3, v3, rfl, rfl, SqL.of (B7.same _ _ upd_same), hv3, ?_⟩
      obtain ⟨stp, hstp, rfl⟩ := List.mem_map.mp hm3
      have B8 := B7.low B6.2
      refine ⟨_, rfl, H0, p, _, 3, rfl, B8, by omega, by decide, by decide, fun zw H5 zw0 zw1 B9 => ⟨_, _, _, rfl, ?_⟩⟩
      refine ⟨(by show 0 ≤ sizeLine; decide), fun f hf => ?_⟩
      have hfp := pn B9 hf
      have hf0 : H0 f = none := B9.same.free hf
      refine ⟨_, rfl, m, rfl, ?_, ?_, for_range (fun i σ H' => ∃ (v3 v9 v10 v11 : Option V) (ss : List Str), σ = [some (.ref p), some (.int m), some (.str "abcdefghijklmnopqrstuvwxyz"), v3, some (.str stem), some (.int zf), some (.int stp), some (.int zw), some (.ref f), v9, v10, v11] ∧ H' f = some (.lst (ss.map V.str)) ∧ ss.length = i ∧ (∀ s ∈ ss, sOk 16 s) ∧ ss = (List.range i).map (nmS stem zf stp zw) ∧ BoxIn H0 H' p (n + 5)) ⟨_, none, none, none, [], rfl, upd_same, rfl, (fun s h => by cases h), rfl, B9.mut hfp hf0⟩ ?_ ?_⟩
      · omega
      · omega
      · rintro i σ H6 hi ⟨v3, v9, v10, v11, ss, rfl, hff, hlen, hok, hss, C⟩
        have hstp2 : 0 ≤ stp ∧ stp ≤ 11 := by
          have all : ∀ i ∈ ([1, 3, 5, 7, 9, 11] : List Int), 0 ≤ i ∧ i ≤ 11 := by decide
          exact all _ hstp
        refine ⟨_, rfl, _, rfl, _, rfl, _, rfl, _, _, rfl, rfl, .inl ⟨by omega, by omega⟩, _, _, rfl, rfl, _, _, rfl, rfl, (by show (0 : Int) < 26; decide), ?_⟩
        have e26 : ("abcdefghijklmnopqrstuvwxyz" : Str).cps.toList.length = 26 := by decide +kernel
        obtain ⟨ch, hch, hmc⟩ := atI_in (xs := ("abcdefghijklmnopqrstuvwxyz" : Str).cps.toList) (z := (zf + stp * (0 + (i : Int))) % 26) (Int.emod_nonneg _ (by decide)) (by rw [e26]; exact Int.emod_lt_of_pos _ (by decide))
        have hch2 := letter_at (Int.emod_nonneg _ (by decide)) (Int.emod_lt_of_pos _ (by decide)) hch
        rw [Int.zero_add] at hch2
        have hsg : sOk 1 (⟨#[ch]⟩ : Str) := by
          refine ⟨Nat.le_refl _, strOk_sign ?_⟩
          have all : ∀ c ∈ ("abcdefghijklmnopqrstuvwxyz" : Str).cps.toList, c < 0x110000 := by decide +kernel
          exact all _ hmc
        refine ⟨_, _, ch, rfl, rfl, by decide +kernel, hch, ?_⟩
        have l1 : stem.length + (⟨#[ch]⟩ : Str).length ≤ sizeLine := Nat.le_trans (Nat.add_le_add hstem.1 hsg.1) (by decide)
        have l2' : (⟨#[ch]⟩ : Str).length + stem.length ≤ sizeLine := Nat.le_trans (Nat.add_le_add hsg.1 hstem.1) (by decide)
        refine ⟨_, rfl, _, rfl, _, _, rfl, rfl, l1, _, rfl, _, rfl, _, _, rfl, rfl, l2', _, rfl, (by show 3 ≤ sizeLine; decide), fun l3 hl3 => ?_⟩
        have hfl3 : f ≠ l3 := ne_of_none hff hl3
        have C2 := C.keep (same_new (o := .lst [V.str (stem ++ ⟨#[ch]⟩), .str ((⟨#[ch]⟩ : Str) ++ stem), .str ⟨#[ch]⟩]) hl3)
        have pick : ∀ z : Int, 0 ≤ z → z < 3 → ∃ s : Str, atI [V.str (stem ++ ⟨#[ch]⟩), .str ((⟨#[ch]⟩ : Str) ++ stem), .str ⟨#[ch]⟩] z = some (.str s) ∧ sOk 16 s ∧ nmC stem z.toNat (97 + ((zf + stp * (i : Int)) % 26).toNat) = (if s = ("table" : Str) then ("tables" : Str) else s) := fun z z0 z3 => by
          obtain ⟨v, hv, hm⟩ := atI_in (xs := [V.str (stem ++ ⟨#[ch]⟩), .str ((⟨#[ch]⟩ : Str) ++ stem), .str ⟨#[ch]⟩]) z0 z3
          simp only [List.mem_cons, List.not_mem_nil, or_false] at hm
          rcases hm with rfl | rfl | rfl
          · exact ⟨_, hv, (hstem.app hsg).mono (by decide), by rw [form_at z0 z3 hv, ← hch2]; rfl⟩
          · exact ⟨_, hv, (hsg.app hstem).mono (by decide), by rw [form_at z0 z3 hv, ← hch2]; rfl⟩
          · exact ⟨_, hv, hsg.mono (by decide), by rw [form_at z0 z3 hv, ← hch2]; rfl⟩
        have hff2 : upd H6 l3 (.lst [V.str (stem ++ ⟨#[ch]⟩), .str ((⟨#[ch]⟩ : Str) ++ stem), .str ⟨#[ch]⟩]) f = some (.lst (ss.map V.str)) := by rw [upd_ne hfl3]; exact hff
        have hsz : (ss.map V.str).length < sizeLine := by
          rw [List.length_map, hlen]
          exact Nat.lt_of_lt_of_le (show i < 100 by omega) (by decide)
        have nx : ∀ s : Str, sOk 16 s → s = nmS stem zf stp zw i → upd (upd H6 l3 (.lst [V.str (stem ++ ⟨#[ch]⟩), .str ((⟨#[ch]⟩ : Str) ++ stem), .str ⟨#[ch]⟩])) f (.lst (ss.map V.str ++ [V.str s])) f = some (.lst ((ss ++ [s]).map V.str)) ∧ (ss ++ [s]).length = i + 1 ∧ (∀ x ∈ ss ++ [s], sOk 16 x) ∧ ss ++ [s] = (List.range (i + 1)).map (nmS stem zf stp zw) ∧
            BoxIn H0 (upd (upd H6 l3 (.lst [V.str (stem ++ ⟨#[ch]⟩), .str ((⟨#[ch]⟩ : Str) ++ stem), .str ⟨#[ch]⟩])) f (.lst (ss.map V.str ++ [V.str s]))) p (n + 5) := fun s hs he => by
          refine ⟨by rw [upd_same, List.map_append]; rfl, by simp [hlen], fun x hx => ?_, by rw [List.range_succ, List.map_append, ← hss, he]; rfl, C2.mut hfp hf0⟩
          rcases List.mem_append.mp hx with q | q
          · exact hok x q
          · rw [List.mem_singleton.mp q]
            exact hs
        refine ⟨_, rfl, _, _, rfl, rfl, _, rfl, ?_⟩
        refine ite2 (fun c => ?_) (fun c => ?_)
        · have i0 : i ≠ 0 := by
            have := of_decide_eq_true c
            omega
          obtain ⟨nm, hnm, hok2, hf2⟩ := pick zw zw0 zw1
          have hnn : nmS stem zf stp zw i = if nm = ("table" : Str) then ("tables" : Str) else nm := by
            unfold nmS
            rw [if_neg i0]
            exact hf2
          refine ⟨_, rfl, l3, _, zw, _, rfl, rfl, SqL.of upd_same, hnm, ?_⟩
          refine ⟨_, rfl, .inl ⟨rfl, _, .inl (.inl hff2)⟩, _, rfl, rfl, _, rfl, ?_⟩
          refine ite2 (fun c => ?_) (fun c => ?_)
          · have ct : nm = ("table" : Str) := by
              have := of_decide_eq_true c
              injection this
            obtain ⟨n1, n2, n3, n4, n5⟩ := nx "tables" (by unfold sOk; decide +kernel) (by rw [hnn, if_pos ct])
            exact ⟨f, _, _, rfl, rfl, hff2, hsz, _, _, _, _, _, rfl, n1, n2, n3, n4, n5⟩
          · have ct : nm ≠ ("table" : Str) := fun e => c (by rw [e]; exact decide_eq_true rfl)
            obtain ⟨n1, n2, n3, n4, n5⟩ := nx nm hok2 (by rw [hnn, if_neg ct])
            exact ⟨_, rfl, f, _, _, rfl, rfl, hff2, hsz, _, _, _, _, _, rfl, n1, n2, n3, n4, n5⟩
        · have i0 : i = 0 := by
            by_cases h : i = 0
            · exact h
            · exact absurd (decide_eq_true (by omega)) c
          obtain ⟨nm, hnm, hok2, hf2⟩ := pick 0 (by decide) (by decide)
          have hnn : nmS stem zf stp zw i = if nm = ("table" : Str) then ("tables" : Str) else nm := by
            unfold nmS
            rw [if_pos i0]
            exact hf2
          refine ⟨l3, _, 0, _, rfl, rfl, SqL.of upd_same, hnm, ?_⟩
          refine ⟨_, rfl, .inl ⟨rfl, _, .inl (.inl hff2)⟩, _, rfl, rfl, _, rfl, ?_⟩
          refine ite2 (fun c => ?_) (fun c => ?_)
          · have ct : nm = ("table" : Str) := by
              have := of_decide_eq_true c
              injection this
            obtain ⟨n1, n2, n3, n4, n5⟩ := nx "tables" (by unfold sOk; decide +kernel) (by rw [hnn, if_pos ct])
            exact ⟨f, _, _, rfl, rfl, hff2, hsz, _, _, _, _, _, rfl, n1, n2, n3, n4, n5⟩
          · have ct : nm ≠ ("table" : Str) := fun e => c (by rw [e]; exact decide_eq_true rfl)
            obtain ⟨n1, n2, n3, n4, n5⟩ := nx nm hok2 (by rw [hnn, if_neg ct])
            exact ⟨_, rfl, f, _, _, rfl, rfl, hff2, hsz, _, _, _, _, _, rfl, n1, n2, n3, n4, n5⟩
      · rintro σ H6 ⟨v3, v9, v10, v11, ss, rfl, hff, hlen, hok, hss, C⟩
        refine ⟨_, rfl, ?_⟩
        have fin : ss = (List.range m).map (nmS stem zf stp zw) := by
          rw [hss]
          congr 2
        exact k f H6 ss C.same hf0 hfp hff (by rw [hlen]; simp) hok (fun s hs => by
          rw [fin] at hs
          obtain ⟨j, _, rfl⟩ := List.mem_map.mp hs
          exact nmS_ok hst zw0 zw1 j) (by rw [fin]; exact nmS_nodup hst hstp zw0 zw1 hm) (C.mono (by omega))
theorem ok_is_integer (T : Txt K mg base) : FnOk P w K mg base CX0 1 T.f_is_integer T.fd_is_integer ["value"] (sp_vO K intO) := by
  refine T.F_is_integer.ok sc_is_integer (fun vs H Q E h => ?_) (fun cdv A outer s H vs Q E hr h => ?_)
  · obtain ⟨v, o, rfl, _⟩ := h
    rfl
  · obtain ⟨v, o, rfl, ty, _, k⟩ := h
    refine ⟨_, (pss_one (ps_ret (pe_and (pe_callB (id := "isinstance") call_isi (by rfl) T.z_isinstance (by decide +kernel) (pa_cons (pv 0) (pa_cons (pe_bltn (v := .ty "int") (u := .type "int") (by rfl) T.z_int (by decide +kernel) rfl) pa_nil))) (pe_one (pe_not (pe_callB (id := "isinstance") call_isi (by rfl) T.z_isinstance (by decide +kernel) (pa_cons (pv 0) (pa_cons (pe_bltn (v := .ty "bool") (u := .type "bool") (by rfl) T.z_bool (by decide +kernel) rfl) pa_nil)))))))), ?_⟩
    refine ⟨_, rfl, _, _, _, _, _, rfl, .ty _, ty, kit_o o (.inl rfl), _, rfl, ?_⟩
    unfold intO at k
    cases e : isT "int" o with
    | true =>
      rw [e] at k
      exact iteT ⟨_, rfl, _, _, _, _, _, rfl, .ty _, ty, kit_o o (.inr (.inl rfl)), _, rfl, k⟩
    | false =>
      rw [e] at k
      exact iteF k
theorem ok_is_limit (T : Txt K mg base) : FnOk P w K mg base CX0 2 T.f_is_limit T.fd_is_limit ["value"] (sp_vO K limO) := by
  refine T.F_is_limit.ok sc_is_limit (fun vs H Q E h => ?_) (fun cdv A outer s H vs Q E hr h => ?_)
  · obtain ⟨v, o, rfl, _⟩ := h
    rfl
  · obtain ⟨v, o, rfl, ty, hn, k⟩ := h
    refine ⟨_, (pss_one (ps_ret (pe_or (pe_cmpR op_isN (pv 0) pe_non (nomark _)) (pe_one (pe_call (ok_is_integer T) hr rfl T.m_is_integer T.F_is_integer.kp T.b_is_integer .nil pass0 (pa_cons (pv 0) pa_nil)))))), ?_⟩
    refine ⟨_, rfl, rfl, _, rfl, ?_⟩
    unfold limO at k
    rw [hn]
    cases e : nonO o with
    | true =>
      rw [e] at k
      exact iteT k
    | false =>
      rw [e] at k
      exact iteF ⟨_, rfl, v, o, rfl, ty, hn, k⟩
theorem ok_is_span (T : Txt K mg base) : FnOk P w K mg base CX0 3 T.f_is_span T.fd_is_span ["value"] (sp_v1 K spanO) := by
  refine T.F_is_span.ok sc_is_span (fun vs H Q E h => ?_) (fun cdv A outer s H vs Q E hr h => ?_)
  · obtain ⟨v, o, rfl, _⟩ := h
    rfl
  · obtain ⟨v, o, rfl, hv, k⟩ := h
    have ty := hv.ty
    have k := k H (Same.refl H)
    refine ⟨_, (pss_cons (ps_if (PW.pt (pw_or (pt_not (pt_val (pe_callB (id := "isinstance") call_isi (by rfl) T.z_isinstance (by decide +kernel) (pa_cons (pv 0) (pa_cons (pe_bltn (v := .ty "tuple") (u := .type "tuple") (by rfl) T.z_tuple (by decide +kernel) rfl) pa_nil))))) (pw_or1 (pt_cmpR op_ne (pe_callB (id := "len") call_len_seq (by rfl) T.z_len (by decide +kernel) (pa_cons (pv 0) pa_nil)) pe_int (nomark _))))) (pss_one (ps_ret pe_bl)) pss_nil)
        (pss_cons (ps_asg (pv 0) (pg_tup rfl (pgs_cons (pg_name (i := 1) sc_is_span.nd rfl (Or.inl rfl)) (pgs_cons (pg_name (i := 2) sc_is_span.nd rfl (Or.inl rfl)) pgs_nil))))
        (pss_cons (ps_if (PW.pt (pw_or (pt_not (pt_val (pe_call (ok_is_limit T) hr rfl T.m_is_limit T.F_is_limit.kp T.b_is_limit .nil pass0 (pa_cons (pv 1) pa_nil)))) (pw_or1 (pt_not (pt_val (pe_call (ok_is_limit T) hr rfl T.m_is_limit T.F_is_limit.kp T.b_is_limit .nil pass0 (pa_cons (pv 2) pa_nil))))))) (pss_one (ps_ret pe_bl)) pss_nil)
        (pss_one (ps_ret (pe_or (pe_cmpR op_isN (pv 1) pe_non (nomark _)) (pe_or (pe_cmpR op_isN (pv 2) pe_non (nomark _)) (pe_one (pe_cmpR op_lt (pv 1) (pv 2) (nomark _)))))))))), ?_⟩
    refine ⟨_, rfl, _, _, _, _, _, rfl, .ty _, ty, kit_o o (.inr (.inr (.inr rfl))), _, rfl, ?_⟩
    cases e : isT "tuple" o with
    | false =>
      have e2 : spanO o = false := by
        rcases o with _ | d
        · rfl
        · cases d with
          | tuple s => cases e
          | _ => rfl
      rw [e2] at k
      exact iteT (iteT k)
    | true =>
      obtain ⟨a, xs, ds, rfl, rfl, hT, hD⟩ : ∃ a xs ds, v = .ref a ∧ o = some (.tuple ds) ∧ SqT K H a xs ∧ DpAll K H xs ds := by
        cases hv with
        | dat a _ c =>
          cases a with
          | tup h1 h2 => exact ⟨_, _, _, rfl, rfl, h1, h2⟩
          | _ => cases e
        | dic a => cases e
      have hlen := dpAll_len hD
      refine iteF ⟨_, rfl, _, _, rfl, .inr hT, rfl, _, rfl, ?_⟩
      show (if (!decide (V.int (xs.length : Int) = V.int 2)) = true then _ else _)
      rw [dec_int]
      by_cases e2 : xs.length = 2
      · have e3 : (((xs.length : Nat) : Int) == 2) = true := by rw [e2]; rfl
        rw [e3]
        refine iteF ?_
        obtain ⟨x, y, d, d2, rfl, rfl, h1, h2⟩ := dp_two hD e2
        have t1 := dp_vO h1
        have t2 := dp_vO h2
        refine ⟨_, rfl, a, _, rfl, hT, rfl, _, _, rfl, _, _, rfl, rfl, ?_⟩
        have k : Q (.bl (limO (some d) && (limO (some d2) && ltO d d2))) H := k
        refine ⟨_, rfl, _, some d, rfl, t1.1, t1.2, _, rfl, ?_⟩
        cases l1 : limO (some d) with
        | false =>
          rw [l1] at k
          exact iteT (iteT k)
        | true =>
          rw [l1] at k
          refine iteF ⟨_, rfl, _, some d2, rfl, t2.1, t2.2, _, rfl, ?_⟩
          cases l2 : limO (some d2) with
          | false =>
            rw [l2] at k
            exact iteT k
          | true =>
            rw [l2] at k
            refine iteF ⟨_, rfl, rfl, _, rfl, ?_⟩
            have k : Q (.bl (ltO d d2)) H := k
            cases h1 with
            | non => exact iteT k
            | int i =>
              refine iteF ⟨_, rfl, rfl, _, rfl, ?_⟩
              cases h2 with
              | non => exact iteT k
              | int j => exact iteF ⟨_, rfl, _, rfl, _, _, rfl, rfl, k⟩
              | _ => cases l2
            | _ => cases l1
      · have e3 : (((xs.length : Nat) : Int) == 2) = false := by
          rw [beq_eq_false_iff_ne]
          omega
        rw [e3]
        have e4 : spanO (some (.tuple ds)) = false := spanO_no fun q => e2 (hlen.trans q)
        rw [e4] at k
        exact iteT k
theorem ok_is_name (T : Txt K mg base) : FnOk P w K mg base CX0 1 T.f_is_name T.fd_is_name ["value"] (sp_v1 K nameO) := by
  refine T.F_is_name.ok sc_is_name (fun vs H Q E h => ?_) (fun cdv A outer s H vs Q E hr h => ?_)
  · obtain ⟨v, o, rfl, _⟩ := h
    rfl
  · obtain ⟨v, o, rfl, hv, k⟩ := h
    have ty := hv.ty
    refine ⟨_, (pss_cons (ps_if (PW.pt (pw_or (pt_not (pt_val (pe_callB (id := "isinstance") call_isi (by rfl) T.z_isinstance (by decide +kernel) (pa_cons (pv 0) (pa_cons (pe_bltn (v := .ty "str") (u := .type "str") (by rfl) T.z_str (by decide +kernel) rfl) pa_nil))))) (pw_or1 (pt_cmpR op_eq (pv 0) pe_str (nomark _))))) (pss_one (ps_ret pe_bl)) pss_nil)
        (pss_one (ps_ret (pe_and (pe_chain op_le op_le pe_int (pe_callB (id := "len") call_len_str (by rfl) T.z_len (by decide +kernel) (pa_cons (pv 0) pa_nil)) (pe_glob (v := .int 8) rfl T.c_LONGEST_NAME ⟨_, rfl⟩)) (pe_one (pe_callB (id := "all") (cr_all rfl) (by rfl) T.z_all (by decide +kernel) (pa_cons (pe_lc (own := [("sign", 1)]) (g := gName 1) (tt := tYes) rfl sc_is_name.nd (pi_str (pv 0)) (blkOk_by (own := [("sign", 1)]) (N := ["value", "sign"]) (sc := defScope s_is_name) (by decide +kernel)) (fun _ _ _ _ _ => (pg_name (i := 1) sc_is_name.nd rfl (Or.inl rfl))) (fun _ _ _ _ _ => pts_nil) (fun _ _ _ _ _ => (pe_chain op_le_str op_le_str pe_str (pv 1) pe_str))) pa_nil))))))), ?_⟩
    refine ⟨_, rfl, _, _, _, _, _, rfl, .ty _, ty, kit_o o (.inr (.inr (.inl rfl))), _, rfl, ?_⟩
    cases e : isT "str" o with
    | false =>
      have e2 : nameO o = false := by
        rcases o with _ | d
        · rfl
        · cases d with
          | str s => cases e
          | _ => rfl
      rw [e2] at k
      exact iteT (iteT (k H (Same.refl H)))
    | true =>
      obtain ⟨s, rfl, rfl, hs⟩ : ∃ s, v = .str s ∧ o = some (.str s) ∧ s.length ≤ 1000 := by
        cases hv with
        | dat a _ c =>
          cases a with
          | str s => exact ⟨s, rfl, rfl, c s rfl⟩
          | _ => cases e
        | dic a => cases e
      have hz : s.length ≤ sizeLine := Nat.le_trans hs (by decide)
      refine iteF ⟨_, rfl, rfl, _, rfl, ?_⟩
      have k : ∀ H', Same H H' → Q (.bl (nameS s)) H' := k
      unfold nameS at k
      rw [dec_str]
      cases e1 : s == ("table" : Str) with
      | true =>
        rw [e1] at k
        exact iteT (k H (Same.refl H))
      | false =>
        rw [e1] at k
        refine iteF ?_
        have k : ∀ H', Same H H' → Q (.bl (decide ((1 : Int) ≤ s.length) && (decide ((s.length : Int) ≤ 8) && s.cps.toList.all okSign))) H' := k
        refine ⟨_, rfl, _, rfl, hz, _, _, rfl, rfl, _, rfl, ?_⟩
        cases e2 : decide ((1 : Int) ≤ s.length) with
        | false =>
          rw [e2] at k
          exact iteF ⟨_, rfl, iteF (k H (Same.refl H))⟩
        | true =>
          rw [e2] at k
          refine iteT ⟨_, _, rfl, rfl, _, rfl, ?_⟩
          cases e3 : decide ((s.length : Int) ≤ 8) with
          | false =>
            rw [e3] at k
            exact iteF (k H (Same.refl H))
          | true =>
            rw [e3] at k
            refine iteT ⟨_, rfl, _, rfl, ?_⟩
            intro D hD
            refine lc_acc walk_str hD (fun _ _ => trivial) (fun i => (s.cps.toList.take i).map fun c => V.bl (okSign c)) rfl (fun i hi => ?_) ?_ ?_
            · rw [List.length_map, List.length_take]
              have : s.cps.size ≤ 1000 := hs
              exact Nat.lt_of_le_of_lt (Nat.min_le_left _ _) (Nat.lt_of_lt_of_le hi (Nat.le_trans this (by decide)))
            · rintro i x H2 hi ⟨c, hc, rfl⟩ s1 R S r1 r2
              have ea : ((s.cps.toList.take (i + 1)).map fun c => V.bl (okSign c)) = ((s.cps.toList.take i).map fun c => V.bl (okSign c)) ++ [V.bl (okSign c)] := by
                have hc' : s.cps.toList[i]? = some c := by rw [Array.getElem?_toList]; exact hc
                rw [List.take_add_one, hc']
                simp
              refine ⟨rfl, tyes ⟨_, rfl, _, _, rfl, rfl, _, rfl, ?_⟩⟩
              have ec : okSign c = (!decide (([c] : List Nat) < [97]) && !decide (([122] : List Nat) < [c])) := rfl
              have ea1 : ("a" : Str).cps.toList = [97] := by decide +kernel
              have ez1 : ("z" : Str).cps.toList = [122] := by decide +kernel
              rw [ea1]
              cases e4 : (!decide (([c] : List Nat) < [97])) with
              | false =>
                rw [e4] at ec
                refine iteF (r1 _ _ ?_ (Same.refl _))
                rw [ea, ec]
                rfl
              | true =>
                rw [e4] at ec
                refine iteT ⟨_, _, rfl, rfl, r1 _ _ ?_ (Same.refl _)⟩
                rw [ea, ec, ez1]
                rfl
            · intro H2 s1 hl
              refine ⟨D, s.cps.toList.map okSign, rfl, SqL.of ?_, ?_⟩
              · rw [hl, List.map_map]
                have : s.cps.toList.take s.cps.size = s.cps.toList := by rw [← Array.length_toList, List.take_length]
                rw [this]
                rfl
              · have := k H2 s1
                rw [List.all_map]
                exact this
theorem ok_InvalidSpan_init (T : Txt K mg base) : FnOk P w K mg base CX0 1 T.f_InvalidSpan_init T.fd_InvalidSpan_init ["self", "value"] (sp_xinit K T.C_InvalidSpan "value") := by
  refine T.F_InvalidSpan_init.ok sc_InvalidSpan_init (fun vs H Q E h => ?_) (fun cdv A outer s H vs Q E hr h => ?_)
  · obtain ⟨a, v, rfl, _⟩ := h
    rfl
  · obtain ⟨a, v, rfl, x, n, ha, k⟩ := h
    refine ⟨_, (pss_one (ps_ost (pv 0) (pv 1))), ?_⟩
    exact ⟨_, rfl, _, rfl, a, T.C_InvalidSpan, rfl, x, n, .inl ⟨ha, k⟩⟩
theorem ok_require_span (T : Txt K mg base) : FnOk P w K mg base (L2.CX P w) 4 T.f_require_span T.fd_require_span ["value"] (sp_req K spanO T.C_InvalidSpan "value") := by
  refine T.F_require_span.okX sc_require_span (fun vs H Q E h => ?_) (fun cdv A outer s H vs Q E hr h => ?_)
  · obtain ⟨v, o, rfl, _⟩ := h
    rfl
  · obtain ⟨v, o, rfl, hv, k1, k2⟩ := h
    refine ⟨_, (pss_one (ps_if (pt_not (pt_val (pe_call (ok_is_span T) hr rfl T.m_is_span T.F_is_span.kp T.b_is_span .nil pass0 (pa_cons (pv 0) pa_nil)))) (pss_one (ps_raise rfl (takes_of rfl rfl rfl rfl) (pmk_oex T.x_InvalidSpan T.i_InvalidSpan T.t_InvalidSpan (ok_InvalidSpan_init T) (hr.mono (by decide)) T.b_InvalidSpan_init .nil pass0 rfl T.g_InvalidSpan (pa_cons (pv 0) pa_nil)))) pss_nil)), ?_⟩
    refine ⟨_, rfl, v, o, rfl, hv, fun H1 s1 => ⟨_, rfl, ?_⟩⟩
    cases e : spanO o with
    | true => exact iteF (k1 e H1 s1)
    | false => exact iteT ⟨_, rfl, raise_x T.x_InvalidSpan T.n_InvalidSpan ((k2 e).back s1)⟩
theorem ok_common (T : Txt K mg base) : FnOk P w K mg base (L2.CX P w) 5 T.f_common T.fd_common ["one", "other"] (sp_common K T.C_InvalidSpan) := by
  refine T.F_common.okX sc_common (fun vs H Q E h => ?_) (fun cdv A outer s H vs Q E hr h => ?_)
  · obtain ⟨x, y, o, o2, rfl, _⟩ := h
    rfl
  · obtain ⟨x, y, o, o2, rfl, hx, hy, k1, k2, k3⟩ := h
    refine ⟨_, (pss_cons (ps_expr (pe_call (ok_require_span T) hr rfl T.m_require_span T.F_require_span.kp T.b_require_span .nil (passC (takes_of rfl rfl rfl rfl)) (pa_cons (pv 0) pa_nil)))
        (pss_cons (ps_expr (pe_call (ok_require_span T) hr rfl T.m_require_span T.F_require_span.kp T.b_require_span .nil (passC (takes_of rfl rfl rfl rfl)) (pa_cons (pv 1) pa_nil)))
        (pss_cons (ps_setLc (i := 2) (own := [("low", 5)]) (g := gName 5) rfl sc_common.nd rfl rfl (sw_true rfl rfl rfl (by decide +kernel)) (pi_tup (pe_tup (pa_cons (pe_ix ix_tup (pv 0) pe_int (fun _ _ => rfl)) (pa_cons (pe_ix ix_tup (pv 1) pe_int (fun _ _ => rfl)) pa_nil)))) (blkOk_by (own := [("low", 5)]) (N := ["one", "other", "lows", "highs", "both", "low", "high"]) (sc := defScope s_common) (by decide +kernel)) (fun _ _ _ _ _ => (pg_name (i := 5) sc_common.nd rfl (Or.inl rfl))) (fun _ _ _ _ _ => (pts_one (pt_cmpR op_notN (pv 5) pe_non (nomark _)))) (fun _ _ _ _ _ => (pv 5)))
        (pss_cons (ps_setLc (i := 3) (own := [("high", 6)]) (g := gName 6) rfl sc_common.nd rfl rfl (sw_true rfl rfl rfl (by decide +kernel)) (pi_tup (pe_tup (pa_cons (pe_ix ix_tup (pv 0) pe_int (fun _ _ => rfl)) (pa_cons (pe_ix ix_tup (pv 1) pe_int (fun _ _ => rfl)) pa_nil)))) (blkOk_by (own := [("high", 6)]) (N := ["one", "other", "lows", "highs", "both", "low", "high"]) (sc := defScope s_common) (by decide +kernel)) (fun _ _ _ _ _ => (pg_name (i := 6) sc_common.nd rfl (Or.inl rfl))) (fun _ _ _ _ _ => (pts_one (pt_cmpR op_notN (pv 6) pe_non (nomark _)))) (fun _ _ _ _ _ => (pv 6)))
        (pss_cons (ps_set (i := 4) sc_common.nd rfl (Or.inl rfl) (pe_tup (pa_cons (pe_callBK (id := "max") (ks := ["default"]) (cr_maxD rfl hr.units) (by rfl) T.z_max (by decide +kernel) (pa_cons (pv 2) pa_nil) (pk_cons pe_non pk_nil)) (pa_cons (pe_callBK (id := "min") (ks := ["default"]) (cr_minD rfl hr.units) (by rfl) T.z_min (by decide +kernel) (pa_cons (pv 3) pa_nil) (pk_cons pe_non pk_nil)) pa_nil))))
        (pss_one (ps_ret (pe_ifExp (pt_val (pe_call (ok_is_span T) (hr.mono (by decide)) rfl T.m_is_span T.F_is_span.kp T.b_is_span .nil pass0 (pa_cons (pv 4) pa_nil))) (pv 4) pe_non)))))))), ?_⟩
    refine ⟨_, rfl, x, o, rfl, hx, fun e1 H1 s1 => ?_, fun e => k1 e⟩
    refine ⟨_, rfl, y, o2, rfl, hy.mono s1, fun e2 H2 s2 => ?_, fun e => (k2 e1 e).back s1⟩
    obtain ⟨s', rfl, os⟩ := spanO_of e1
    obtain ⟨t, rfl, ot⟩ := spanO_of e2
    obtain ⟨kT, kF⟩ := k3 s' t rfl os rfl ot
    obtain ⟨a, rfl, ha⟩ := hx.sp
    obtain ⟨b, rfl, hb⟩ := hy.sp
    have s12 := s1.trans s2
    have ha2 := same_t s12 ha
    have hb2 := same_t s12 hb
    refine ⟨_, rfl, a, _, 0, limV s'.1, rfl, rfl, ha2, atI_nat (j := 0) rfl, _, rfl, b, _, 0, limV t.1, rfl, rfl, hb2, atI_nat (j := 0) rfl, (by show 2 ≤ sizeLine; decide), fun q hq => ?_⟩
    refine ⟨q, rfl, ⟨_, SqT.of upd_same⟩, fun D hD => ?_⟩
    have s3 := same_new (o := .tup [limV s'.1, limV t.1]) hq
    refine lc_acc walk_tup hD (fun H' k => SqT.of (k _ _ upd_same)) (fun i => ([limV s'.1, limV t.1].take i).filter fun v => !decide (v = .non)) rfl (fun i _ => Nat.lt_of_le_of_lt (List.length_filter_le _ _) (Nat.lt_of_le_of_lt (by rw [List.length_take]; exact Nat.min_le_right _ _) (by show 2 < sizeLine; decide))) ?_ ?_
    · rintro i z H3 hi hz k R S r1 r2
      refine ⟨rfl, _, rfl, rfl, _, rfl, ?_⟩
      have hz' : [limV s'.1, limV t.1][i]? = some z := hz
      cases e : decide (z = V.non) with
      | true => exact iteF (r2 _ (by rw [List.take_add_one, hz']; simp [e]) (Same.refl _))
      | false => exact iteT ⟨_, rfl, r1 _ _ (by rw [List.take_add_one, hz']; simp [e]) (Same.refl _)⟩
    intro H3 s4 hl
    have s123 := s12.trans (s3.trans s4)
    have el : (([limV s'.1, limV t.1].take 2).filter fun v => !decide (v = .non)) = (lowsL s'.1 t.1).map V.int := by
      cases s'.1 <;> cases t.1 <;> rfl
    have hl : H3 D = some (.lst ((lowsL s'.1 t.1).map V.int)) := by
      rw [← el]
      exact hl
    have ha3 := same_t (s3.trans s4) ha2
    have hb3 := same_t (s3.trans s4) hb2
    refine ⟨_, rfl, a, _, 1, limV s'.2, rfl, rfl, ha3, atI_nat (j := 1) rfl, _, rfl, b, _, 1, limV t.2, rfl, rfl, hb3, atI_nat (j := 1) rfl, (by show 2 ≤ sizeLine; decide), fun q2 hq2 => ?_⟩
    refine ⟨q2, rfl, ⟨_, SqT.of upd_same⟩, fun D2 hD2 => ?_⟩
    have s5 := same_new (o := .tup [limV s'.2, limV t.2]) hq2
    refine lc_acc walk_tup hD2 (fun H' k => SqT.of (k _ _ upd_same)) (fun i => ([limV s'.2, limV t.2].take i).filter fun v => !decide (v = .non)) rfl (fun i _ => Nat.lt_of_le_of_lt (List.length_filter_le _ _) (Nat.lt_of_le_of_lt (by rw [List.length_take]; exact Nat.min_le_right _ _) (by show 2 < sizeLine; decide))) ?_ ?_
    · rintro i z H4 hi hz k R S r1 r2
      refine ⟨rfl, _, rfl, rfl, _, rfl, ?_⟩
      have hz' : [limV s'.2, limV t.2][i]? = some z := hz
      cases e : decide (z = V.non) with
      | true => exact iteF (r2 _ (by rw [List.take_add_one, hz']; simp [e]) (Same.refl _))
      | false => exact iteT ⟨_, rfl, r1 _ _ (by rw [List.take_add_one, hz']; simp [e]) (Same.refl _)⟩
    intro H4 s6 hl2
    have el2 : (([limV s'.2, limV t.2].take 2).filter fun v => !decide (v = .non)) = (lowsL s'.2 t.2).map V.int := by
      cases s'.2 <;> cases t.2 <;> rfl
    have hl2 : H4 D2 = some (.lst ((lowsL s'.2 t.2).map V.int)) := by
      rw [← el2]
      exact hl2
    have s56 := s5.trans s6
    have hl4 := s56 _ _ hl
    have s1234 := s123.trans s56
    -- both = (max(..), min(..)), then what follows
    have fin : ∀ v1 v2, v1 = limV (comS s' t).1 → v2 = limV (comS s' t).2 → ∀ H5 p, H4 p = none → H5 = upd H4 p (.tup [v1, v2]) → VD K H5 (.ref p) (some (spD (comS s' t))) ∧ Same H H5 ∧ H5 p = some (.tup (spV (comS s' t))) ∧ H p = none := by
      rintro v1 v2 rfl rfl H5 p hp rfl
      exact ⟨vd_sp (SqT.of upd_same), s1234.trans (same_new hp), upd_same, s1234.free hp⟩
    refine ⟨_, rfl, D, _, .non, rfl, rfl, SqL.of hl4, fun e => ?_, fun m hm hle => ?_⟩
    all_goals
      refine ⟨_, rfl, D2, _, .non, rfl, rfl, SqL.of hl2, fun e' => ?_, fun m' hm' hle' => ?_⟩
      all_goals
        refine ⟨(by show 2 ≤ sizeLine; decide), fun p hp => ?_⟩
        obtain ⟨hv, s7, hp5, hp0⟩ := fin _ _ (by first | exact max_none e | exact max_some hm hle) (by first | exact min_none e' | exact min_some hm' hle') _ p hp rfl
        refine ⟨_, rfl, _, _, rfl, hv, fun H6 s8 => ⟨_, rfl, ?_⟩⟩
        rw [spanO_ok]
        cases ec : okS (comS s' t) with
        | true => exact iteT ⟨_, rfl, kT ec p H6 (s7.trans s8) hp0 (s8 _ _ hp5)⟩
        | false => exact iteF (kF ec H6 (s7.trans s8))
theorem ok_meet (T : Txt K mg base) : FnOk P w K mg base (L2.CX P w) 6 T.f_meet T.fd_meet ["one", "other"] (sp_meet K T.C_InvalidSpan) := by
  refine T.F_meet.okX sc_meet (fun vs H Q E h => ?_) (fun cdv A outer s H vs Q E hr h => ?_)
  · obtain ⟨x, y, o, o2, rfl, _⟩ := h
    rfl
  · obtain ⟨x, y, o, o2, rfl, hx, hy, k1, k2, k3⟩ := h
    refine ⟨_, (pss_one (ps_ret (pe_cmpR op_notN (pe_call (ok_common T) hr rfl T.m_common T.F_common.kp T.b_common .nil (passC (takes_of rfl rfl rfl rfl)) (pa_cons (pv 0) (pa_cons (pv 1) pa_nil))) pe_non (nomark _)))), ?_⟩
    refine ⟨_, rfl, _, rfl, x, y, o, o2, rfl, hx, hy, k1, k2, fun s' t e1 os e2 ot => ⟨fun ec p H' k hp hpp => ⟨rfl, ?_⟩, fun ec H' k => ⟨rfl, ?_⟩⟩⟩
    · have := k3 s' t e1 os e2 ot H' k
      rw [ec] at this
      exact this
    · have := k3 s' t e1 os e2 ot H' k
      rw [ec] at this
      exact this
theorem ok_InvalidName_init (T : Txt K mg base) : FnOk P w K mg base CX0 1 T.f_InvalidName_init T.fd_InvalidName_init ["self", "value"] (sp_xinit K T.C_InvalidName "value") := by
  refine T.F_InvalidName_init.ok sc_InvalidName_init (fun vs H Q E h => ?_) (fun cdv A outer s H vs Q E hr h => ?_)
  · obtain ⟨a, v, rfl, _⟩ := h
    rfl
  · obtain ⟨a, v, rfl, x, n, ha, k⟩ := h
    refine ⟨_, (pss_one (ps_ost (pv 0) (pv 1))), ?_⟩
    exact ⟨_, rfl, _, rfl, a, T.C_InvalidName, rfl, x, n, .inl ⟨ha, k⟩⟩
theorem ok_InvalidSpans_init (T : Txt K mg base) : FnOk P w K mg base CX0 1 T.f_InvalidSpans_init T.fd_InvalidSpans_init ["self", "value"] (sp_xinit K T.C_InvalidSpans "value") := by
  refine T.F_InvalidSpans_init.ok sc_InvalidSpans_init (fun vs H Q E h => ?_) (fun cdv A outer s H vs Q E hr h => ?_)
  · obtain ⟨a, v, rfl, _⟩ := h
    rfl
  · obtain ⟨a, v, rfl, x, n, ha, k⟩ := h
    refine ⟨_, (pss_one (ps_ost (pv 0) (pv 1))), ?_⟩
    exact ⟨_, rfl, _, rfl, a, T.C_InvalidSpans, rfl, x, n, .inl ⟨ha, k⟩⟩
theorem ok_NameTaken_init (T : Txt K mg base) : FnOk P w K mg base CX0 1 T.f_NameTaken_init T.fd_NameTaken_init ["self", "name"] (sp_xinit K T.C_NameTaken "name") := by
  refine T.F_NameTaken_init.ok sc_NameTaken_init (fun vs H Q E h => ?_) (fun cdv A outer s H vs Q E hr h => ?_)
  · obtain ⟨a, v, rfl, _⟩ := h
    rfl
  · obtain ⟨a, v, rfl, x, n, ha, k⟩ := h
    refine ⟨_, (pss_one (ps_ost (pv 0) (pv 1))), ?_⟩
    exact ⟨_, rfl, _, rfl, a, T.C_NameTaken, rfl, x, n, .inl ⟨ha, k⟩⟩
theorem ok_Overlap_init (T : Txt K mg base) : FnOk P w K mg base CX0 1 T.f_Overlap_init T.fd_Overlap_init ["self", "name"] (sp_xinit K T.C_Overlap "name") := by
  refine T.F_Overlap_init.ok sc_Overlap_init (fun vs H Q E h => ?_) (fun cdv A outer s H vs Q E hr h => ?_)
  · obtain ⟨a, v, rfl, _⟩ := h
    rfl
  · obtain ⟨a, v, rfl, x, n, ha, k⟩ := h
    refine ⟨_, (pss_one (ps_ost (pv 0) (pv 1))), ?_⟩
    exact ⟨_, rfl, _, rfl, a, T.C_Overlap, rfl, x, n, .inl ⟨ha, k⟩⟩
theorem ok_TooMany_init (T : Txt K mg base) : FnOk P w K mg base CX0 1 T.f_TooMany_init T.fd_TooMany_init ["self", "bound"] (sp_xinit K T.C_TooMany "bound") := by
  refine T.F_TooMany_init.ok sc_TooMany_init (fun vs H Q E h => ?_) (fun cdv A outer s H vs Q E hr h => ?_)
  · obtain ⟨a, v, rfl, _⟩ := h
    rfl
  · obtain ⟨a, v, rfl, x, n, ha, k⟩ := h
    refine ⟨_, (pss_one (ps_ost (pv 0) (pv 1))), ?_⟩
    exact ⟨_, rfl, _, rfl, a, T.C_TooMany, rfl, x, n, .inl ⟨ha, k⟩⟩
theorem ok_require_name (T : Txt K mg base) : FnOk P w K mg base (L2.CX P w) 3 T.f_require_name T.fd_require_name ["value"] (sp_req K nameO T.C_InvalidName "value") := by
  refine T.F_require_name.okX sc_require_name (fun vs H Q E h => ?_) (fun cdv A outer s H vs Q E hr h => ?_)
  · obtain ⟨v, o, rfl, _⟩ := h
    rfl
  · obtain ⟨v, o, rfl, hv, k1, k2⟩ := h
    refine ⟨_, (pss_one (ps_if (pt_not (pt_val (pe_call (ok_is_name T) (hr.mono (by decide)) rfl T.m_is_name T.F_is_name.kp T.b_is_name .nil pass0 (pa_cons (pv 0) pa_nil)))) (pss_one (ps_raise rfl (takes_of rfl rfl rfl rfl) (pmk_oex T.x_InvalidName T.i_InvalidName T.t_InvalidName (ok_InvalidName_init T) hr T.b_InvalidName_init .nil pass0 rfl T.g_InvalidName (pa_cons (pv 0) pa_nil)))) pss_nil)), ?_⟩
    refine ⟨_, rfl, v, o, rfl, hv, fun H1 s1 => ⟨_, rfl, ?_⟩⟩
    cases e : nameO o with
    | true => exact iteF (k1 e H1 s1)
    | false => exact iteT ⟨_, rfl, raise_x T.x_InvalidName T.n_InvalidName ((k2 e).back s1)⟩
theorem ok_require_spans (T : Txt K mg base) : FnOk P w K mg base (L2.CX P w) 5 T.f_require_spans T.fd_require_spans ["spans"] (sp_rspans K (C5 T)) := by
  refine T.F_require_spans.okX sc_require_spans (fun vs H Q E h => ?_) (fun cdv A outer s H vs Q E hr h => ?_)
  · obtain ⟨v, o, rfl, _⟩ := h
    rfl
  · obtain ⟨v, o, rfl, hin, k1, k2⟩ := h
    refine ⟨_, (pss_cons (ps_if (pt_not (pt_val (pe_callB (id := "isinstance") call_isi (by rfl) T.z_isinstance (by decide +kernel) (pa_cons (pv 0) (pa_cons (pe_bltn (v := .ty "dict") (u := .type "dict") (by rfl) T.z_dict (by decide +kernel) rfl) pa_nil))))) (pss_one (ps_raise rfl (takes_of rfl rfl rfl rfl) (pmk_oex T.x_InvalidSpans T.i_InvalidSpans T.t_InvalidSpans (ok_InvalidSpans_init T) (hr.mono (by decide)) T.b_InvalidSpans_init .nil pass0 rfl T.g_InvalidSpans (pa_cons (pv 0) pa_nil)))) pss_nil)
        (pss_cons (ps_lock (ps_for (passes_of rfl) rfl (pi_keys (pv 0)) (pg_name (i := 1) sc_require_spans.nd rfl (Or.inl rfl))
          (pss_one (ps_expr (pe_call (ok_require_name T) (hr.mono (by decide)) rfl T.m_require_name T.F_require_name.kp T.b_require_name .nil (passC (takes_of rfl rfl rfl rfl)) (pa_cons (pv 1) pa_nil))))))
        (pss_one (ps_for (passes_of rfl) rfl (pi_list (pe_callB (id := "sorted") (call_sortedD rfl) (by rfl) T.z_sorted (by decide +kernel) (pa_cons (pv 0) pa_nil))) (pg_name (i := 1) sc_require_spans.nd rfl (Or.inl rfl))
          (pss_one (ps_expr (pe_call (ok_require_span T) hr rfl T.m_require_span T.F_require_span.kp T.b_require_span .nil (passC (takes_of rfl rfl rfl rfl)) (pa_cons (pe_dget (hu_of hr) (pv 0) (pv 1) (fun _ _ => rfl)) pa_nil)))))))), ?_⟩
    cases hin with
    | no hv e => exact ⟨_, rfl, _, _, _, _, _, rfl, .ty _, hv.ty, kit_d _, _, rfl, by rw [e]; exact iteT ⟨_, rfl, raise_x T.x_InvalidSpans T.n_InvalidSpans (k2 _ rfl).rz⟩⟩
    | @dict d es hd hev hnd hlen =>
    refine ⟨_, rfl, _, _, _, _, _, rfl, .ty _, (VD.dic hd).ty, kit_d _, _, rfl, iteF ?_⟩
    have look : ∀ {i : Nat} {k : Key} {v : V}, (es.map kvE)[i]? = some (k, v) → ∃ e, es[i]? = some e ∧ e.1 = k := fun {i k v} h => by
      rw [List.getElem?_map] at h
      obtain ⟨e, h1, h2⟩ := Option.map_eq_some_iff.mp h
      exact ⟨e, h1, congrArg Prod.fst h2⟩
    refine ⟨d, _, hd, trivial, fun od => ⟨_, rfl, d, od, rfl, .inl ⟨es.map kvE, upd_same, for_it walk_keys (fun i σ H' => ∃ v1, σ = [some (.ref d), v1] ∧ Same (upd H d (.frz od (.dK (es.map kvE)))) H' ∧ ∀ j, j < i → ∀ e, es[j]? = some e → nameO (some (kD e.1)) = true)
      ⟨none, rfl, Same.refl _, fun j hj => by omega⟩ (fun i σ H' _ ⟨_, _, s1, _⟩ => s1 _ _ upd_same) ?_ ?_⟩⟩⟩
    · rintro i x σ H1 H2 hi ⟨v1, rfl, s1, hg⟩ ⟨rfl, k, v, hk, rfl⟩
      obtain ⟨e, he, rfl⟩ := look hk
      have hm := List.mem_of_getElem? he
      refine ⟨_, rfl, kV e.1, some (kD e.1), rfl, vd_key (hev e hm).2, fun e1 H3 s3 => ⟨_, rfl, s1.trans s3, fun j hj e' he' => ?_⟩, fun e1 => ?_⟩
      · by_cases h : j = i
        · rw [h, he] at he'
          cases he'
          exact e1
        · exact hg j (by omega) e' he'
      · have hb : badKey es = some e := find_at he (by rw [e1]; rfl) fun j hj y hy => by rw [hg j hj y hy]; rfl
        have hr : rsQ (.ref d) (some (d, es)) = some (1, kV e.1) := by
          show rsF es = _
          unfold rsF
          rw [hb]
        refine ((k2 _ hr).back (fun b o hb e => s1 _ _ ?_) fun b hb => ?_).rz
        · rw [upd_ne fun z => hb (by rw [z]; exact List.mem_cons_self)]
          exact e
        · have h := s1.free hb
          by_cases z : b = d
          · rw [z, upd_same] at h
            cases h
          · rw [upd_ne z] at h
            exact h
    · rintro σ H1 ⟨v1, rfl, s1, hg⟩
      refine ⟨s1 _ _ upd_same, ?_⟩
      have sB : Same H (upd H1 d (.dK (es.map kvE))) := fun b o e => by
        by_cases z : b = d
        · rw [z] at e ⊢
          rw [upd_same, ← hd]
          exact e
        · rw [upd_ne z]
          exact s1 _ _ (by rw [upd_ne z]; exact e)
      have hdB : (upd H1 d (.dK (es.map kvE))) d = some (.dK (es.map kvE)) := upd_same
      generalize upd H1 d (.dK (es.map kvE)) = H2 at sB hdB
      have hall : ∀ e ∈ es, nameO (some (kD e.1)) = true := fun e he => by
        obtain ⟨j, hj, rfl⟩ := List.mem_iff_getElem.mp he
        exact hg j (by rw [List.length_map]; exact hj) _ (List.getElem?_eq_getElem hj)
      have hk0 : badKey es = none := List.find?_eq_none.mpr fun e he => by rw [hall e he]; exact Bool.false_ne_true
      have hks : (es.map kvE).map (·.1) = (nmsE es).map Sum.inr := by
        unfold nmsE
        rw [List.map_map, List.map_map]
        refine List.map_congr_left fun e he => ?_
        have := hall e he
        obtain ⟨k, v, dd⟩ := e
        cases k with
        | inl i => cases this
        | inr s => rfl
      refine ⟨_, rfl, d, _, nmsE es, rfl, .of hdB, hks, (by unfold nmsE; rw [List.length_map]; omega), fun ys p hp hs hfr => ?_⟩
      obtain rfl := srt_eq hp hs
      have s2 := same_new (o := .lst ((srtS (nmsE es)).map V.str)) hfr
      refine ⟨p, rfl, ⟨_, SqL.of upd_same⟩, for_list (K := K) (a := p) (xs := (srtS (nmsE es)).map V.str) (fun i σ H' => ∃ v1, σ = [some (.ref d), v1] ∧ Same (upd H2 p (.lst ((srtS (nmsE es)).map V.str))) H' ∧ ∀ j, j < i → ∀ y, (srtS (nmsE es))[j]? = some y → spanO ((lookE es (.inr y)).map (·.2.2)) = true)
        ⟨_, rfl, Same.refl _, fun j hj => by omega⟩ (fun i σ H' _ ⟨_, _, s3, _⟩ => SqL.of (s3 _ _ upd_same)) ?_ ?_⟩
      · rintro i x σ H3 hx ⟨v1, rfl, s3, hg2⟩
        rw [List.getElem?_map] at hx
        obtain ⟨y, hy, rfl⟩ := Option.map_eq_some_iff.mp hx
        have hym : y ∈ nmsE es := srt_mem.mp (List.mem_of_getElem? hy)
        obtain ⟨e, hle⟩ : ∃ e, lookE es (.inr y) = some e := lookE_some (by
          have : Sum.inr y ∈ (nmsE es).map (Sum.inr (α := Int)) := List.mem_map.mpr ⟨y, hym, rfl⟩
          rw [← hks, List.map_map] at this
          exact this)
        obtain ⟨hem, hek⟩ := lookE_mem hle
        have s03 := sB.trans (s2.trans s3)
        have hd3 : H3 d = some (.dK (es.map kvE)) := s3 _ _ (s2 _ _ hdB)
        refine ⟨_, rfl, _, rfl, d, e.2.1, rfl, .inl ⟨es.map kvE, .inr y, .of hd3, rfl, ?_⟩, e.2.1, some e.2.2, rfl, (hev.mono s03 e hem).1, fun e1 H4 s4 => ⟨_, rfl, s3.trans s4, fun j hj y' hy' => ?_⟩, fun e1 => ?_⟩
        · rw [valE, hle]
          rfl
        · by_cases h : j = i
          · rw [h, hy] at hy'
            cases hy'
            rw [hle]
            exact e1
          · exact hg2 j (by omega) y' hy'
        · have hb : badSpan es = some y := find_at hy (by rw [hle]; show (!spanO (some e.2.2)) = true; rw [e1]; rfl) fun j hj y' hy' => by rw [hg2 j hj y' hy']; rfl
          have hr : rsQ (.ref d) (some (d, es)) = some (2, e.2.1) := by
            show rsF es = _
            unfold rsF
            rw [hk0, hb]
            show some (2, valAt es y) = _
            unfold valAt
            rw [hle]
            rfl
          exact ((k2 _ hr).same s03).rz
      · rintro σ H3 ⟨v1, rfl, s3, hg2⟩
        refine k1 ?_ _ (sB.trans (s2.trans s3))
        show rsF es = none
        have hb : badSpan es = none := find_no fun j hj y hy => by rw [hg2 j (by rw [List.length_map]; exact hj) y hy]; rfl
        unfold rsF
        rw [hk0, hb]
theorem ok_first_meeting (T : Txt K mg base) : FnOk P w K mg base (L2.CX P w) 7 T.f_first_meeting T.fd_first_meeting ["spans", "span"] (sp_fmeet K) := by
  refine T.F_first_meeting.okX sc_first_meeting (fun vs H Q E h => ?_) (fun cdv A outer s H vs Q E hr h => ?_)
  · obtain ⟨d, a, rs, s, rfl, _⟩ := h
    rfl
  · obtain ⟨d, a, rs, sp, rfl, hd, hrs, hnd, ha, hok, k⟩ := h
    refine ⟨_, (pss_cons (ps_lock (ps_for (passes_of rfl) rfl (pi_keys (pv 0)) (pg_name (i := 2) sc_first_meeting.nd rfl (Or.inl rfl))
          (pss_one (ps_if (pt_val (pe_call (ok_meet T) hr rfl T.m_meet T.F_meet.kp T.b_meet .nil (passC (takes_of rfl rfl rfl rfl)) (pa_cons (pe_dget (hu_of hr) (pv 0) (pv 2) (fun _ _ => rfl)) (pa_cons (pv 1) pa_nil)))) (pss_one (ps_ret (pv 2))) pss_nil))))
        (pss_one (ps_ret pe_non))), ?_⟩
    refine ⟨d, _, hd, trivial, fun od => ⟨_, rfl, d, od, rfl, .inl ⟨rs.map rKV, upd_same, for_it walk_keys (fun i σ H' => ∃ v1, σ = [some (.ref d), some (.ref a), v1] ∧ Same (upd H d (.frz od (.dK (rs.map rKV)))) H' ∧ ∀ j, j < i → ∀ r, rs[j]? = some r → meetB r.2.2 sp = false)
      ⟨none, rfl, Same.refl _, fun j hj => by omega⟩ (fun i σ H' _ ⟨_, _, s1, _⟩ => s1 _ _ upd_same) ?_ ?_⟩⟩⟩
    · rintro i x σ H1 H2 hi ⟨v1, rfl, s1, hg⟩ ⟨rfl, k0, v0, hk, rfl⟩
      rw [List.getElem?_map] at hk
      obtain ⟨r, hr1, e1⟩ := Option.map_eq_some_iff.mp hk
      have e1 : (Sum.inr r.1, V.ref r.2.1) = (k0, v0) := e1
      injection e1 with e1 e2
      subst e1 e2
      have hm := List.mem_of_getElem? hr1
      have nd : ND H H2 := (ND.lock hd).trans (.of s1)
      obtain ⟨r1, r2, r3⟩ := hrs r hm
      have hval : valV (rs.map rKV) (.inr r.1) = some (.ref r.2.1) := by
        rw [valR (List.mem_map.mpr ⟨r, hm, rfl⟩), rowOf_self hnd r hm]
      refine ⟨_, rfl, _, rfl, d, .ref r.2.1, rfl, .inl ⟨rs.map rKV, .inr r.1, .inr ⟨od, s1 _ _ upd_same⟩, rfl, hval.symm⟩, _, rfl, .ref r.2.1, .ref a, _, _, rfl, vd_sp (nd.tup r1), vd_sp (nd.tup ha), (fun e => ?_), (fun _ e => ?_), fun s1' t1' e1 o1 e2 o2 H3 s3 => ⟨_, rfl, ?_⟩⟩
      · rw [spanO_ok, r2] at e
        cases e
      · rw [spanO_ok, hok] at e
        cases e
      · obtain rfl : r.2.2 = s1' := spD_inj (Option.some.inj e1)
        obtain rfl : sp = t1' := spD_inj (Option.some.inj e2)
        have sA := s1.trans s3
        cases em : okS (comS r.2.2 sp) with
        | true =>
          refine iteT ⟨_, rfl, sA _ _ upd_same, ?_⟩
          have := k _ (unlock hd sA)
          rw [find_at hr1 em fun j hj y hy => hg j hj y hy] at this
          exact this
        | false =>
          refine iteF ⟨_, rfl, sA, fun j hj r' hr' => ?_⟩
          by_cases h : j = i
          · rw [h, hr1] at hr'
            cases hr'
            exact em
          · exact hg j (by omega) r' hr'
    · rintro σ H1 ⟨v1, rfl, s1, hg⟩
      refine ⟨s1 _ _ upd_same, ?_⟩
      have := k _ (unlock hd s1)
      rw [find_no fun j hj y hy => hg j (by rw [List.length_map]; exact hj) y hy] at this
      exact this
theorem ok_ordered_spans (T : Txt K mg base) : FnOk P w K mg base (L2.CX P w) 8 T.f_ordered_spans T.fd_ordered_spans ["spans"] (sp_ordered K T.C_Overlap) := by
  refine T.F_ordered_spans.okX sc_ordered_spans (fun vs H Q E h => ?_) (fun cdv A outer s H vs Q E hr h => ?_)
  · obtain ⟨d, rs, rfl, _⟩ := h
    rfl
  · obtain ⟨d, rs, rfl, hd, hrs, hnd, hlen, k1, k2⟩ := h
    refine ⟨_, (pss_cons (ps_set (i := 1) sc_ordered_spans.nd rfl (Or.inl rfl) pe_dnewK)
        (pss_cons (ps_for (passes_of rfl) rfl (pi_list (pe_callB (id := "sorted") (call_sortedD rfl) (by rfl) T.z_sorted (by decide +kernel) (pa_cons (pv 0) pa_nil))) (pg_name (i := 2) sc_ordered_spans.nd rfl (Or.inl rfl))
          (pss_cons (ps_if (pt_cmpR op_notN (pe_call (ok_first_meeting T) hr rfl T.m_first_meeting T.F_first_meeting.kp T.b_first_meeting .nil (passC (takes_of rfl rfl rfl rfl)) (pa_cons (pv 1) (pa_cons (pe_dget (hu_of hr) (pv 0) (pv 2) (fun _ _ => rfl)) pa_nil))) pe_non (nomark _)) (pss_one (ps_raise rfl (takes_of rfl rfl rfl rfl) (pmk_oex T.x_Overlap T.i_Overlap T.t_Overlap (ok_Overlap_init T) (hr.mono (by decide)) T.b_Overlap_init .nil pass0 rfl T.g_Overlap (pa_cons (pv 2) pa_nil)))) pss_nil)
        (pss_one (ps_dput (hu_of hr) (pv 1) (pv 2) (pe_dget (hu_of hr) (pv 0) (pv 2) (fun _ _ => rfl)) rfl))))
        (pss_one (ps_ret (pv 1))))), ?_⟩
    intro p hp
    have s0 := same_new (o := .dK []) hp
    have hks : (rs.map rKV).map (·.1) = (rs.map (·.1)).map Sum.inr := by
      rw [List.map_map, List.map_map]
      rfl
    refine ⟨_, rfl, d, _, rs.map (·.1), rfl, .of (s0 _ _ hd), hks, (by rw [List.length_map]; omega), fun ys q hperm hs hq => ?_⟩
    obtain rfl := srt_eq hperm hs
    have hpH : H p = none := hp
    have npd : d ≠ p := ne_of_none hd hp
    have nqp : q ≠ p := fun z => by
      rw [z, upd_same] at hq
      cases hq
    have s1 := same_new (o := .lst ((srtS (rs.map (·.1))).map V.str)) hq
    refine ⟨q, rfl, ⟨_, SqL.of upd_same⟩, for_list (K := K) (a := q) (xs := (srtS (rs.map (·.1))).map V.str) (fun i σ H' => ∃ v1, σ = [some (.ref d), some (.ref p), v1] ∧ SX [p] (upd (upd H p (.dK [])) q (.lst ((srtS (rs.map (·.1))).map V.str))) H' ∧ H' p = some (.dK (((sortR rs).take i).map rKV)) ∧ ovl rs = ovlR ((sortR rs).take i) ((sortR rs).drop i))
      ⟨none, rfl, .of (Same.refl _), (by rw [upd_ne nqp.symm, upd_same]; rfl), rfl⟩ (fun i σ H' _ ⟨_, _, s2, _⟩ => SqL.of (s2 _ _ (by simpa using nqp) upd_same)) ?_ ?_⟩
    · rintro i x σ H3 hx ⟨v1, rfl, s2, hp3, hov⟩
      rw [List.getElem?_map] at hx
      obtain ⟨y, hy, rfl⟩ := Option.map_eq_some_iff.mp hx
      have hym : y ∈ rs.map (·.1) := srt_mem.mp (List.mem_of_getElem? hy)
      obtain ⟨hrm, hrn⟩ := rowOf_mem hym
      have hrow := sortR_at hy
      have hval := valR hym
      have hd0 : (upd (upd H p (.dK [])) q (.lst ((srtS (rs.map (·.1))).map V.str))) d = some (.dK (rs.map rKV)) := s1 _ _ (s0 _ _ hd)
      have hd3 : H3 d = some (.dK (rs.map rKV)) := s2 _ _ (by simpa using npd) hd0
      have nd3 : ND H H3 := ((ND.of s0).trans (.of s1)).trans (.sx s2 fun x hx o e => by
        obtain rfl := List.mem_singleton.mp hx
        rw [upd_ne nqp.symm, upd_same] at e
        cases e
        rfl)
      have hg : ∀ r ∈ (sortR rs).take i, r ∈ rs := fun r hr => sortR_mem (List.mem_of_mem_take hr)
      have hrs3 := hrs.nd nd3
      obtain ⟨r1, r2, r3⟩ := hrs3 _ hrm
      have hnt : (((sortR rs).take i).map (·.1)).Nodup := by
        rw [List.map_take, sortR_names]
        exact (srt_nodup hnd).sublist (List.take_sublist _ _)
      have hdrop : (sortR rs).drop i = rowOf rs y :: (sortR rs).drop (i + 1) := by
        have hi := (List.getElem?_eq_some_iff.mp hrow).1
        rw [List.drop_eq_getElem_cons hi]
        congr 1
        exact (List.getElem?_eq_some_iff.mp hrow).2
      rw [hdrop, ovlR_step] at hov
      refine ⟨_, rfl, _, rfl, _, rfl, d, .ref (rowOf rs y).2.1, rfl, .inl ⟨rs.map rKV, .inr y, .of hd3, rfl, hval.symm⟩, p, (rowOf rs y).2.1, (sortR rs).take i, (rowOf rs y).2.2, rfl, hp3, (fun r hr => hrs3 r (hg r hr)), hnt, r1, r2, fun H4 s4 => ⟨rfl, _, rfl, ?_⟩⟩
      have hd4 := s4 _ _ hd3
      have hp4 := s4 _ _ hp3
      cases hf : ((sortR rs).take i).find? fun r => meetB r.2.2 (rowOf rs y).2.2 with
      | some r0 =>
        have ha : (((sortR rs).take i).any fun q => meetB q.2.2 (rowOf rs y).2.2) = true := by
          have h1 := List.mem_of_find?_eq_some hf
          have h2 := List.find?_some hf
          exact List.any_eq_true.mpr ⟨r0, h1, h2⟩
        rw [ha, if_pos rfl, hrn] at hov
        refine iteT ⟨_, rfl, raise_x T.x_Overlap T.n_Overlap fun dx Hx nx hx sx => k2 y hov dx Hx ?_ hx fun b o e => ?_⟩
        · have h := s4.free nx
          cases hb : H dx with
          | none => rfl
          | some u =>
            by_cases z : dx = p
            · rw [z, hp3] at h
              cases h
            · have := s2 dx u (by simpa using z) (s1 _ _ (s0 _ _ hb))
              rw [h] at this
              cases this
        · exact sx _ _ (s4 _ _ (s2 b o (by simpa using ne_of_none e hpH) (s1 _ _ (s0 _ _ e))))
      | none =>
        have ha : (((sortR rs).take i).any fun q => meetB q.2.2 (rowOf rs y).2.2) = false := by
          rw [List.any_eq_false]
          intro z hz
          have := List.find?_eq_none.mp hf z hz
          exact this
        rw [ha, if_neg Bool.false_ne_true] at hov
        have hnew : valV (((sortR rs).take i).map rKV) (.inr y) = none := valR_none fun hm => by
          rw [List.map_take, sortR_names] at hm
          obtain ⟨j, hj, e⟩ := List.mem_iff_getElem.mp hm
          rw [List.length_take] at hj
          rw [List.getElem_take] at e
          obtain ⟨hi, e2⟩ := List.getElem?_eq_some_iff.mp hy
          exact (List.pairwise_iff_getElem.mp (srt_nodup hnd)) j i (by omega) hi (by omega) (e.trans e2.symm)
        refine iteF ⟨_, rfl, _, rfl, d, .ref (rowOf rs y).2.1, rfl, .inl ⟨rs.map rKV, .inr y, .of hd4, rfl, hval.symm⟩, _, rfl, _, rfl, p, _, rfl, DPut.k (k := .inr y) hp4 ?_, _, rfl, fun b o nb e => ?_, ?_, ?_⟩
        · rw [List.length_map, List.length_take]
          exact Nat.lt_of_le_of_lt (Nat.min_le_right _ _) (by rw [sortR_len]; exact Nat.lt_of_le_of_lt hlen (by decide))
        · rw [upd_ne (by simpa using nb)]
          exact s4 _ _ (s2 b o nb e)
        · rw [upd_same, putK_new _ hnew, List.take_add_one, hrow, Option.toList_some, List.map_append]
          show _ = some (HO.dK (_ ++ [rKV (rowOf rs y)]))
          unfold rKV
          rw [hrn]
        · rw [hov, List.take_add_one, hrow, Option.toList_some]
    · rintro σ H3 ⟨v1, rfl, s2, hp3, hov⟩
      have hl : (sortR rs).length = ((srtS (rs.map (·.1))).map V.str).length := by rw [sortR_len, List.length_map, srt_len, List.length_map]
      rw [← hl, List.take_length] at hp3
      rw [← hl, List.take_length, List.drop_length] at hov
      exact ⟨_, rfl, k1 hov p H3 (fun b o e => s2 b o (by simpa using ne_of_none e hpH) (s1 _ _ (s0 _ _ e))) hpH hp3⟩
theorem ok_require_rest (T : Txt K mg base) : FnOk P w K mg base (L2.CX P w) 4 T.f_require_rest T.fd_require_rest ["rest", "spans"] (sp_rrest K (C5 T)) := by
  refine T.F_require_rest.okX sc_require_rest (fun vs H Q E h => ?_) (fun cdv A outer s H vs Q E hr h => ?_)
  · obtain ⟨rv, ro, d, rs, rfl, _⟩ := h
    rfl
  · obtain ⟨rv, ro, d, rs, rfl, hv, hd, k1, k2⟩ := h
    refine ⟨_, (pss_cons (ps_if (pt_cmpR op_isN (pv 0) pe_non (nomark _)) (pss_one ps_retN) pss_nil)
        (pss_cons (ps_expr (pe_call (ok_require_name T) hr rfl T.m_require_name T.F_require_name.kp T.b_require_name .nil (passC (takes_of rfl rfl rfl rfl)) (pa_cons (pv 0) pa_nil)))
        (pss_one (ps_if (pt_cmp (pc_din (hu_of hr) (pv 0) (pv 1))) (pss_one (ps_raise rfl (takes_of rfl rfl rfl rfl) (pmk_oex T.x_NameTaken T.i_NameTaken T.t_NameTaken (ok_NameTaken_init T) (hr.mono (by decide)) T.b_NameTaken_init .nil pass0 rfl T.g_NameTaken (pa_cons (pv 0) pa_nil)))) pss_nil)))), ?_⟩
    refine ⟨_, rfl, rfl, _, rfl, ?_⟩
    rw [vd_non hv]
    unfold restX at k1 k2
    cases e0 : nonO ro with
    | true =>
      rw [e0] at k1
      exact iteT (k1 (if_pos rfl) H (Same.refl H))
    | false =>
      rw [e0, if_neg Bool.false_ne_true] at k1 k2
      refine iteF ⟨_, rfl, rv, ro, rfl, hv, fun e1 H1 s1 => ?_, fun e1 => (k2 _ (if_pos e1)).rz⟩
      rw [e1, if_neg (by decide)] at k1 k2
      obtain ⟨s, rfl⟩ := nameO_s e1
      cases hv with
      | dat a b c =>
      cases a
      refine ⟨_, rfl, _, rfl, d, _, rfl, DGet.k (k := .inr s) (s1 _ _ hd), _, rfl, ?_⟩
      by_cases hin : s ∈ rs.map (·.1)
      · have hi : inNames (rs.map (·.1)) (some (.str s)) = true := decide_eq_true hin
        rw [if_pos hi] at k2
        rw [valR hin]
        exact iteT ⟨_, rfl, raise_x T.x_NameTaken T.n_NameTaken ((k2 _ rfl).same s1).rz⟩
      · have hi : inNames (rs.map (·.1)) (some (.str s)) = false := decide_eq_false hin
        rw [hi, if_neg Bool.false_ne_true] at k1
        rw [valR_none hin]
        exact iteF (k1 rfl _ s1)
theorem ok_low_place (T : Txt K mg base) : FnOk P w K mg base CX0 1 T.f_low_place T.fd_low_place ["span"] (sp_lowp K) := by
  refine T.F_low_place.ok sc_low_place (fun vs H Q E h => ?_) (fun cdv A outer s H vs Q E hr h => ?_)
  · obtain ⟨a, sp, rfl, _⟩ := h
    rfl
  · obtain ⟨a, sp, rfl, ha, k⟩ := h
    refine ⟨_, (pss_cons (ps_set (i := 1) sc_low_place.nd rfl (Or.inl rfl) (pe_ix ix_tup (pv 0) pe_int (fun _ _ => rfl)))
        (pss_one (ps_ret (pe_ifExp (pt_cmpR op_isN (pv 1) pe_non (nomark _)) (pe_tup (pa_cons pe_int (pa_cons pe_int pa_nil))) (pe_tup (pa_cons pe_int (pa_cons (pv 1) pa_nil))))))), ?_⟩
    refine ⟨_, rfl, a, _, 0, limV sp.1, rfl, rfl, ha, atI_nat (j := 0) rfl, _, rfl, rfl, _, rfl, ?_⟩
    obtain ⟨l, u⟩ := sp
    cases l with
    | none => exact iteT ⟨(by show 2 ≤ sizeLine; decide), fun p hp => k p _ (same_new hp) hp upd_same⟩
    | some i => exact iteF ⟨_, rfl, (by show 2 ≤ sizeLine; decide), fun p hp => k p _ (same_new hp) hp upd_same⟩
theorem ok_all_stretches (T : Txt K mg base) : FnOk P w K mg base CX0 5 T.f_all_stretches T.fd_all_stretches ["spans", "rest"] (sp_allst K T.pt_all_stretches) := by
  refine T.FC_all_stretches.ok sc_all_stretches (fun vs H Q E h => ?_) (fun A outer s H vs Q E hr h => ?_)
  · obtain ⟨d, rv, rs, rfl, _⟩ := h
    rfl
  · obtain ⟨d, rv, rs, rfl, hd, hrs, hnd, hlen, hT, k⟩ := h
    refine ⟨_, (pss_cons (ps_set (i := 2) sc_all_stretches.nd rfl (Or.inl rfl) (pe_lst pa_nil))
        (pss_cons (ps_set (i := 3) sc_all_stretches.nd rfl (Or.inl rfl) pe_non)
        (pss_cons (ps_for PassesOwn.never rfl (pi_list (pe_sortLam (k := 1) (N := ["part", "spans"]) (fr := ["spans"]) (js := [0]) (y := "part") hr rfl (by rfl) T.z_sorted T.tb_all_stretches rfl rfl (NdefX.nscope_by (by decide +kernel)) (by kernel_rfl) rfl (fun _ _ _ _ _ _ => rfl) (pa_cons (pv 0) pa_nil) (fun A outer s H f c' q cl hr2 => by exact (pe_call (ok_low_place T) (hr2.mono (by decide)) rfl T.m_low_place T.F_low_place.kp T.b_low_place .nil pass0 (pa_cons (pe_dget (hu_of hr2) (pv 1) (pv 0) (fun _ _ => rfl)) pa_nil))))) (pg_name (i := 4) sc_all_stretches.nd rfl (Or.inl rfl))
          (pss_cons (ps_asg (pe_dget (hu_of hr) (pv 0) (pv 4) (fun _ _ => rfl)) (pg_tup rfl (pgs_cons (pg_name (i := 5) sc_all_stretches.nd rfl (Or.inl rfl)) (pgs_cons (pg_name (i := 6) sc_all_stretches.nd rfl (Or.inl rfl)) pgs_nil))))
        (C8.pss_cut (ps_if (pt_cmpR op_ne (pv 5) (pv 3) (nomark _)) (pss_one (ps_expr (pe_bm PySem.F.plainAttrs_list PySem.F.slot_list_append PySem.F.type_list_append mt_append (pv 2) (pa_cons (pe_tup (pa_cons (pv 3) (pa_cons (pv 5) (pa_cons (pv 1) pa_nil)))) pa_nil)))) pss_nil)
        (pss_cons (ps_expr (pe_bm PySem.F.plainAttrs_list PySem.F.slot_list_append PySem.F.type_list_append mt_append (pv 2) (pa_cons (pe_tup (pa_cons (pv 5) (pa_cons (pv 6) (pa_cons (pv 4) pa_nil)))) pa_nil)))
        (pss_one (ps_set (i := 3) sc_all_stretches.nd rfl (Or.inl rfl) (pv 6)))))))
        (C8.pss_cut (ps_if (PW.pt (pw_or (pt_not (pt_truth (pv 2) (by intro _; rfl))) (pw_or1 (pt_cmpR op_notN (pv 3) pe_non (nomark _))))) (pss_one (ps_expr (pe_bm PySem.F.plainAttrs_list PySem.F.slot_list_append PySem.F.type_list_append mt_append (pv 2) (pa_cons (pe_tup (pa_cons (pv 3) (pa_cons pe_non (pa_cons (pv 1) pa_nil)))) pa_nil)))) pss_nil)
        (pss_one (ps_ret (pv 2))))))), ?_⟩
    refine ⟨Nat.zero_le _, fun p hp => ?_⟩
    have s0 := same_new (o := .lst []) hp
    have hks : (rs.map rKV).map (·.1) = (rs.map (·.1)).map Sum.inr := by
      rw [List.map_map, List.map_map]
      rfl
    refine ⟨_, rfl, d, _, rs.map (·.1), fun y => lowD (rowOf rs y).2.2, rfl, hT.ext s0, .of (s0 _ _ hd), hks, (by rw [List.length_map]; omega), low_alike _, low_sortable _, (fun y _ => low_depth _), fun y hy H2 eN => ?_, fun q H2 eN hT2 hq => ?_⟩
    · obtain ⟨r1, r2, r3⟩ := hrs _ (rowOf_mem hy).1
      have nd2 : ND H H2 := (ND.of s0).trans fun b o e z => eN b o e fun ps w => by
        rw [w] at z
        cases z
      have hd2 : H2 d = some (.dK (rs.map rKV)) := eN _ _ (s0 _ _ hd) fun ps w => by cases w
      refine ⟨_, rfl, _, rfl, d, .ref (rowOf rs y).2.1, rfl, .inl ⟨rs.map rKV, .inr y, .of hd2, rfl, (valR hy).symm⟩, (rowOf rs y).2.1, (rowOf rs y).2.2, rfl, nd2.tup r1, fun p3 H3 s3 n3 h3 => ⟨s3, low_dp h3⟩⟩
    · have hp2 : H2 p = some (.lst []) := eN _ _ upd_same fun ps z => by cases z
      have nqp : p ≠ q := ne_of_none hp2 hq
      have eH : LamX.ExtN H H2 := (LamX.ExtN.of s0).trans eN
      have hd2 : H2 d = some (.dK (rs.map rKV)) := eH _ _ hd fun ps z => by cases z
      have s2 := same_new (o := .lst (((rs.map (·.1)).mergeSort (PySem.W.dataLe false fun y => lowD (rowOf rs y).2.2)).map V.str)) hq
      have hmem : ∀ y, y ∈ (rs.map (·.1)).mergeSort (PySem.W.dataLe false fun y => lowD (rowOf rs y).2.2) → y ∈ rs.map (·.1) := fun y hy => (List.mergeSort_perm _ _).mem_iff.mp hy
      have hql : (upd H2 q (.lst (((rs.map (·.1)).mergeSort (PySem.W.dataLe false fun y => lowD (rowOf rs y).2.2)).map V.str))) q = some (.lst (((rs.map (·.1)).mergeSort (PySem.W.dataLe false fun y => lowD (rowOf rs y).2.2)).map V.str)) := upd_same
      have hys : (rs.map (·.1)).mergeSort (PySem.W.dataLe false fun y => lowD (rowOf rs y).2.2) = lowsS rs := rfl
      have hyl : ((rs.map (·.1)).mergeSort (PySem.W.dataLe false fun y => lowD (rowOf rs y).2.2)).length = rs.length := by rw [List.length_mergeSort, List.length_map]
      have hT3 := hT2.ext s2
      have hrs3 : RowsOk K (upd H2 q (.lst (((rs.map (·.1)).mergeSort (PySem.W.dataLe false fun y => lowD (rowOf rs y).2.2)).map V.str))) rs := hrs.nd fun b o e z => s2 _ _ (eH b o e fun ps w => by
        rw [w] at z
        cases z)
      have hd3 := s2 _ _ hd2
      have hp3 := s2 _ _ hp2
      have eH3 := eH.trans (LamX.ExtN.of s2)
      clear eN hT2 s2 hp2 hd2 hq
      generalize (rs.map (·.1)).mergeSort (PySem.W.dataLe false fun y => lowD (rowOf rs y).2.2) = ys at hmem hql hyl hT3 hrs3 hd3 hp3 eH3 hys
      generalize upd H2 q (.lst (ys.map V.str)) = H3 at hql hT3 hrs3 hd3 hp3 eH3
      have npd : d ≠ p := ne_of_none hd hp
      have ndp : ∀ {H4 : Hp}, SX [p] H3 H4 → ∀ {b : Addr} {o : HO}, H3 b = some o → b ≠ p → H4 b = some o := fun s b o e n => s b o (by simpa using n) e
      refine ⟨q, rfl, ⟨_, SqL.of hql⟩, for_list (K := K) (a := q) (xs := ys.map V.str) (fun i σ H' => ∃ e v4 v5 v6 xs, σ = [some (.ref d), some rv, some (.ref p), some (limV e), v4, v5, v6] ∧ SX [p] H3 H' ∧ H' p = some (.lst xs) ∧ StAt H' xs (strG rv none ((ys.take i).map (rowOf rs))) ∧ e = endG none ((ys.take i).map (rowOf rs)))
        ⟨none, none, none, none, [], rfl, .of (Same.refl _), hp3, .nil, rfl⟩ (fun i σ H' _ ⟨_, _, _, _, _, _, s, _⟩ => SqL.of (ndp s hql nqp.symm)) ?_ ?_⟩
      · rintro i x σ H4 hx ⟨e, v4, v5, v6, xs, rfl, s4, hp4, hst4, he4⟩
        rw [List.getElem?_map] at hx
        obtain ⟨y, hy, rfl⟩ := Option.map_eq_some_iff.mp hx
        have hym := hmem y (List.mem_of_getElem? hy)
        have hi : i < ys.length := (List.getElem?_eq_some_iff.mp hy).1
        have hl4 : xs.length ≤ 2 * i := by
          have h1 := strG_len rv ((ys.take i).map (rowOf rs)) none
          rw [← hst4.len, List.length_map, List.length_take] at h1
          omega
        have htk : (ys.take (i + 1)).map (rowOf rs) = (ys.take i).map (rowOf rs) ++ [rowOf rs y] := by
          rw [List.take_add_one, hy, List.map_append]
          rfl
        have hz : xs.length + 3 < sizeLine := Nat.lt_of_le_of_lt (show xs.length + 3 ≤ 200 by omega) (by decide)
        have h2 : 200 < sizeLine := by decide
        obtain ⟨r1, r2, r3⟩ := hrs3 _ (rowOf_mem hym).1
        have r4 := tup_sx s4 hp3 r1
        have hval := valR hym
        have hrn := (rowOf_mem hym).2
        generalize rowOf rs y = r at r1 r2 r3 r4 hval htk hrn
        obtain ⟨nm, ra, lo, hi'⟩ := r
        have hrn : y = nm := (show nm = y from hrn).symm
        subst hrn
        refine ⟨_, rfl, _, rfl, d, .ref ra, rfl, .inl ⟨rs.map rKV, .inr y, .of (ndp s4 hd3 npd), rfl, hval.symm⟩, ra, _, rfl, r4, rfl, _, _, rfl, _, _, rfl, rfl, ?_⟩
        have app : ∀ {H5 : Hp} {ys : List V} {t : Addr} {o : HO}, SX [p] H3 H5 → H5 p = some (.lst ys) → H5 t = none → SX [p] H3 (upd H5 t o) ∧ (upd H5 t o) p = some (.lst ys) := fun s h n => ⟨s.trans (.of (same_new n)), by rw [upd_ne (ne_of_none h n)]; exact h⟩
        refine ⟨fun σ H' => ∃ v6 xs, σ = [some (.ref d), some rv, some (.ref p), some (limV e), some (.str y), some (limV lo), v6] ∧ v6 = some (limV hi') ∧ SX [p] H3 H' ∧ H' p = some (.lst xs) ∧ xs.length ≤ 2 * i + 1 ∧ StAt H' xs (strG rv none ((ys.take i).map (rowOf rs)) ++ (if (!decide (limV lo = limV e)) = true then [(e, lo, rv)] else [])), ⟨_, rfl, _, rfl, limV_scal _ _, _, rfl, ?_⟩, ?_⟩
        · refine ite2 (fun hne => ?_) fun hne => ⟨_, _, rfl, rfl, s4, hp4, by omega, by rw [if_neg hne, List.append_nil]; exact hst4⟩
          refine ⟨_, rfl, .inl ⟨rfl, _, .inl (.inl hp4)⟩, _, rfl, _, rfl, _, rfl, (by show 3 ≤ sizeLine; decide), fun t ht => ?_⟩
          obtain ⟨s5, hp5⟩ := app (o := .tup [limV e, limV lo, rv]) s4 hp4 ht
          have hst5 := (hst4.mono (same_new (o := .tup [limV e, limV lo, rv]) ht)).snoc (t := t) (s := (e, lo, rv)) upd_same
          exact ⟨p, _, _, rfl, rfl, hp5, by omega, _, _, rfl, rfl, sx_upd s5, upd_same, by rw [List.length_append, List.length_singleton]; omega, by rw [if_pos hne]; exact hst5.sx hp5 (sx_upd (.of (Same.refl _)))⟩
        · rintro σ H5 ⟨v6, xs5, rfl, rfl, s5, hp5, hl5, hst5⟩
          refine ⟨_, rfl, .inl ⟨rfl, _, .inl (.inl hp5)⟩, _, rfl, _, rfl, _, rfl, (by show 3 ≤ sizeLine; decide), fun t ht => ?_⟩
          obtain ⟨s6, hp6⟩ := app (o := .tup [limV lo, limV hi', .str y]) s5 hp5 ht
          have hst6 := (hst5.mono (same_new (o := .tup [limV lo, limV hi', .str y]) ht)).snoc (t := t) (s := (lo, hi', .str y)) upd_same
          refine ⟨p, _, _, rfl, rfl, hp6, by omega, _, rfl, hi', _, _, _, _, rfl, sx_upd s6, upd_same, ?_, ?_⟩
          · rw [htk, strG_snoc, ← he4, ← List.append_assoc]
            exact hst6.sx hp6 (sx_upd (.of (Same.refl _)))
          · rw [htk, endG_snoc]
      · rintro σ H4 ⟨e, v4, v5, v6, xs, rfl, s4, hp4, hst4, he4⟩
        rw [List.length_map, List.take_length, hys] at hst4 he4
        have hst4 : StAt H4 xs (strG rv none (ordR rs)) := hst4
        have he4 : e = endG none (ordR rs) := he4
        have hlo : (ordR rs).length = rs.length := by
          unfold ordR
          rw [List.length_map, ← hys, hyl]
        have hem : xs.isEmpty = (strG rv none (ordR rs)).isEmpty := by
          rw [Bool.eq_iff_iff, List.isEmpty_iff_length_eq_zero, List.isEmpty_iff_length_eq_zero, hst4.len]
        have hz : xs.length + 3 < sizeLine := by
          have h1 := strG_len rv (ordR rs) none
          rw [← hst4.len, hlo] at h1
          exact Nat.lt_of_le_of_lt (show xs.length + 3 ≤ 200 by omega) (by decide)
        have fin : ∀ (H5 : Hp) (xs5 : List V), SX [p] H3 H5 → StL H5 p xs5 rs rv → Q (.ref p) H5 := fun H5 xs5 s5 hp5 => k p H5 xs5 (fun b o q n => s5 b o (by simpa using ne_of_none q hp) (eH3 b o q n)) (tabS_sx hT3 s5 fun x hx o q => by
          obtain rfl := List.mem_singleton.mp hx
          rw [hp3] at q
          cases q
          exact ⟨_, rfl⟩) hp hp5
        have app : ∀ {H5 : Hp} {ys : List V} {t : Addr} {o : HO}, SX [p] H3 H5 → H5 p = some (.lst ys) → H5 t = none → SX [p] H3 (upd H5 t o) ∧ (upd H5 t o) p = some (.lst ys) := fun s h n => ⟨s.trans (.of (same_new n)), by rw [upd_ne (ne_of_none h n)]; exact h⟩
        refine ⟨fun σ H' => ∃ xs, σ = [some (.ref d), some rv, some (.ref p), some (limV e), v4, v5, v6] ∧ SX [p] H3 H' ∧ H' p = some (.lst xs) ∧ StAt H' xs (strT rv (ordR rs)), ⟨_, rfl, !xs.isEmpty, .inl ⟨xs, SqL.of hp4, rfl⟩, ite2 (fun h1 => ?_) fun h1 => ⟨_, rfl, rfl, _, rfl, ite2 (fun h2 => ?_) fun h2 => ⟨_, rfl, s4, hp4, ?_⟩⟩⟩, ?_⟩
        · refine ⟨_, rfl, .inl ⟨rfl, _, .inl (.inl hp4)⟩, _, rfl, _, rfl, (by show 3 ≤ sizeLine; decide), fun t ht => ?_⟩
          obtain ⟨s5, hp5⟩ := app (o := .tup [limV e, .non, rv]) s4 hp4 ht
          have hst5 := (hst4.mono (same_new (o := .tup [limV e, .non, rv]) ht)).snoc (t := t) (s := (e, none, rv)) upd_same
          refine ⟨p, _, _, rfl, rfl, hp5, by omega, _, rfl, sx_upd s5, upd_same, ?_⟩
          have hT : strT rv (ordR rs) = strG rv none (ordR rs) ++ [(e, none, rv)] := by
            unfold strT
            rw [← hem, if_pos h1, he4]
          rw [hT]
          exact hst5.sx hp5 (sx_upd (.of (Same.refl _)))
        · refine ⟨_, rfl, .inl ⟨rfl, _, .inl (.inl hp4)⟩, _, rfl, _, rfl, (by show 3 ≤ sizeLine; decide), fun t ht => ?_⟩
          obtain ⟨s5, hp5⟩ := app (o := .tup [limV e, .non, rv]) s4 hp4 ht
          have hst5 := (hst4.mono (same_new (o := .tup [limV e, .non, rv]) ht)).snoc (t := t) (s := (e, none, rv)) upd_same
          refine ⟨p, _, _, rfl, rfl, hp5, by omega, _, rfl, sx_upd s5, upd_same, ?_⟩
          have hT : strT rv (ordR rs) = strG rv none (ordR rs) ++ [(e, none, rv)] := by
            unfold strT
            rw [← hem, if_neg h1, ← he4, if_pos h2]
          rw [hT]
          exact hst5.sx hp5 (sx_upd (.of (Same.refl _)))
        · have hT : strT rv (ordR rs) = strG rv none (ordR rs) := by
            unfold strT
            rw [← hem, if_neg h1, ← he4, if_neg h2]
          rw [hT]
          exact hst4
        · rintro σ H5 ⟨xs5, rfl, s5, hp5, hst5⟩
          exact ⟨_, rfl, fin _ _ s5 ⟨hp5, hst5⟩⟩
theorem ok_Catalog_init (T : Txt K mg base) : FnOk P w K mg base (L2.CX P w) 9 T.f_Catalog_init T.fd_Catalog_init ["self", "spans", "rest"] (sp_cinit K T.C_Catalog (C5 T) T.pt_all_stretches) := by
  refine T.F_Catalog_init.ok sc_Catalog_init (fun vs H Q E h => ?_) (fun cdv A outer s H vs Q E hr h => ?_)
  · obtain ⟨x, dx, v, rv, rd, o, rfl, _⟩ := h
    rfl
  · obtain ⟨x, dx, v, rv, rd, o, rfl, hx, hin, hv, hT, k1, k2⟩ := h
    refine ⟨_, (C8.pss_cut (ps_set (i := 3) sc_Catalog_init.nd rfl (Or.inl rfl) (pe_ifExp (pt_cmpR op_isN (pv 1) pe_non (nomark _)) pe_dnewK (pv 1)))
        (pss_cons (ps_expr (pe_call (ok_require_spans T) (hr.mono (by decide)) rfl T.m_require_spans T.F_require_spans.kp T.b_require_spans .nil (passC (takes_of rfl rfl rfl rfl)) (pa_cons (pv 3) pa_nil)))
        (pss_cons (ps_fld (pv 0) (pe_call (ok_ordered_spans T) hr rfl T.m_ordered_spans T.F_ordered_spans.kp T.b_ordered_spans .nil (passC (takes_of rfl rfl rfl rfl)) (pa_cons (pv 3) pa_nil)) rfl)
        (pss_cons (ps_expr (pe_call (ok_require_rest T) (hr.mono (by decide)) rfl T.m_require_rest T.F_require_rest.kp T.b_require_rest .nil (passC (takes_of rfl rfl rfl rfl)) (pa_cons (pv 2) (pa_cons (pe_fld (pv 0) rfl) pa_nil))))
        (pss_cons (ps_fld (pv 0) (pv 2) rfl)
        (C8.pss_cut (ps_set (i := 4) sc_Catalog_init.nd rfl (Or.inl rfl) (pe_ifExp (pt_cmpR op_isN (pv 2) pe_non (nomark _)) (pe_callTy (T := "list") (call_list_dK rfl) (by rfl) T.z_list (by decide +kernel) (pa_cons (pe_fld (pv 0) rfl) pa_nil)) (pe_lst (pa_starD rfl (pe_fld (pv 0) rfl) (pa_cons (pv 2) pa_nil)))))
        (pss_cons (ps_if (pt_cmpR op_gt (pe_callB (id := "len") call_len_seq (by rfl) T.z_len (by decide +kernel) (pa_cons (pv 4) pa_nil)) (pe_glob (v := .int 8) rfl T.c_MOST_PARTS ⟨_, rfl⟩) (nomark _)) (pss_one (ps_raise rfl (takes_of rfl rfl rfl rfl) (pmk_oex T.x_TooMany T.i_TooMany T.t_TooMany (ok_TooMany_init T) (hr.mono (by decide)) T.b_TooMany_init .nil pass0 rfl T.g_TooMany (pa_cons (pe_glob (v := .int 8) rfl T.c_MOST_PARTS ⟨_, rfl⟩) pa_nil)))) pss_nil)
        (pss_cons (ps_fld (pv 0) (pe_callB (id := "sorted") cr_sortedS (by rfl) T.z_sorted (by decide +kernel) (pa_cons (pv 4) pa_nil)) rfl)
        (pss_one (ps_fld (pv 0) (pe_call (ok_all_stretches T) (hr.mono (by decide)) rfl T.m_all_stretches T.F_all_stretches.kp T.b_all_stretches .nil pass0 (pa_cons (pe_fld (pv 0) rfl) (pa_cons (pv 2) pa_nil))) rfl)))))))))), ?_⟩
    refine ⟨fun σ H1 => ∃ (v' : V) (o' : Option (Addr × List Ent)), σ = [some (.ref x), some v, some rv, some v', none] ∧ Same H H1 ∧ SpIn K H1 v' o' ∧ (∀ q, rsQ v' o' = some q → ExC (x :: spX o') H1 E (C5 T) q) ∧
      (rsQ v' o' = none → ∃ d rs, v' = .ref d ∧ o' = some (d, rs.map rE) ∧ H1 d = some (.dK (rs.map rKV)) ∧ RowsOk K H1 rs ∧ (rs.map (·.1)).Nodup ∧ rs.length ≤ 60 ∧ (∀ q, catR rs rv (some rd) = some q → ExC [x] H1 E (C5 T) q) ∧
        (catR rs rv (some rd) = none → ∀ H', EX [x] H1 H' → LamX.TabS H' T.pt_all_stretches lamQ → CatNew K T.C_Catalog H1 H' x rs (rtO (some rd)) → rv = rvO (rtO (some rd)) → Q .non H')), ⟨_, rfl, rfl, _, rfl, ?_⟩, ?_⟩
    · cases hin with
      | non =>
        refine iteT fun d0 hd0 => ?_
        have s0 := same_new (o := .dK []) hd0
        refine ⟨.ref d0, some (d0, []), rfl, s0, .dict (es := []) upd_same (fun e he => (List.not_mem_nil he).elim) List.nodup_nil (Nat.zero_le _), fun q e => ?_, fun _ => ⟨d0, [], rfl, rfl, upd_same, (fun r hr => (List.not_mem_nil hr).elim), List.nodup_nil, Nat.zero_le _, fun q e => RzX.same s0 (k1 q e), fun e H' ex hT' hc hr' => k2 e H' ((EX.same s0).trans ex) hT' (hc.back s0) hr'⟩⟩
        have e : rsF [] = some q := e
        rw [rsF_nil] at e
        cases e
      | @some _ o' hs hne =>
        rw [hne]
        refine iteF ⟨_, rfl, v, o', rfl, Same.refl _, hs, fun q e => ?_, fun e => ?_⟩
        · cases hs with
          | no a b => exact k1 q e
          | dict a b c d =>
            have z := k1 q (catF_of e)
            rw [caL_some e] at z
            exact z
        · cases hs with
          | no a b => cases e
          | @dict d es hd hev hnd hlen =>
            have e : rsF es = none := e
            obtain ⟨rs, rfl, hrs⟩ := rows_of hev (rsF_good hnd e)
            rw [map_rKV] at hd
            have e1 : caR (.ref d) rv (some rd) (some (some (d, rs.map rE))) = catR rs rv (some rd) := by
              show catF (rs.map rE) rv (some rd) = _
              rw [catF_go e, rowsE_rows]
            have e2 : caRows (some (some (d, rs.map rE))) = rs := rowsE_rows rs
            rw [e1] at k1 k2
            rw [e2] at k2
            rw [caL_none e] at k1
            exact ⟨d, rs, rfl, rfl, hd, hrs, rows_nodup hnd, by rw [List.length_map] at hlen; exact hlen, k1, k2⟩
    rintro σ H1 ⟨v', o', rfl, s1, hsp, f1, f2⟩
    have hx1 := s1 _ _ hx
    have hT1 := hT.ext s1
    have hv1 := hv.mono s1
    clear k1 k2 hin hx hT hv
    refine ⟨_, rfl, v', o', rfl, hsp, fun er H2 s2 => ?_, fun q er => RzX.less (fun b hb => List.mem_cons_of_mem _ hb) (f1 q er)⟩
    obtain ⟨d, rs, rfl, rfl, hd1, hrs1, hnd, hlen, k1, k2⟩ := f2 er
    clear f1 f2 er hsp
    refine ⟨_, rfl, d, rs, rfl, s2 _ _ hd1, hrs1.mono s2, hnd, hlen, fun eo p1 H3 s3 n3 hp3 => ?_, fun y ey => (RzX.same s2 (k1 _ (catR_ovl ey))).rz⟩
    have s13 := s2.trans s3
    have hx3 := s13 _ _ hx1
    have nxp : p1 ≠ x := ne_of hp3 hx3 (by intro z; cases z)
    refine ⟨_, rfl, x, T.C_Catalog, dx, [], rfl, hx3, T.cl_Catalog, T.no_Catalog_spans, (by show 0 < 1000; decide), ?_⟩
    rw [fs1_eq]
    have g4 : SX [x] H1 (upd H3 x (.ins T.C_Catalog dx (fs1 p1))) := sx_upd (.of s13)
    have hx4 : (upd H3 x (.ins T.C_Catalog dx (fs1 p1))) x = some (.ins T.C_Catalog dx (fs1 p1)) := upd_same
    have hp4 : (upd H3 x (.ins T.C_Catalog dx (fs1 p1))) p1 = some (.dK ((sortR rs).map rKV)) := by rw [upd_ne nxp]; exact hp3
    generalize upd H3 x (.ins T.C_Catalog dx (fs1 p1)) = H4 at g4 hx4 hp4
    have ndx : ∀ {Ha : Hp}, SX [x] H1 Ha → ND H1 Ha := fun s => .sx s fun b hb o e => by
      rw [List.mem_singleton.mp hb, hx1] at e
      cases e
      rfl
    have np1 : H1 p1 = none := s2.free n3
    clear s2 s3 s13 hx3 hp3 n3
    have hms : ∀ s, s ∈ (sortR rs).map (·.1) ↔ s ∈ rs.map (·.1) := fun s => by rw [sortR_names]; exact srt_mem
    refine ⟨_, rfl, _, rfl, x, T.C_Catalog, dx, _, _, rfl, hx4, T.cl_Catalog, T.no_Catalog_spans, lk1 _, rv, some rd, p1, sortR rs, rfl, hv1.nd (ndx g4), hp4, fun er H5 s5 => ?_, fun q er => RzX.less (fun b hb => (List.not_mem_nil hb).elim) ((k1 q (by rw [catR_go eo]; exact restR_X (by rw [← restX_congr hms]; exact er))).back g4 (sx_free g4 hx4))⟩
    have hx5 := s5 _ _ hx4
    have hp5 := s5 _ _ hp4
    refine ⟨_, rfl, _, rfl, x, T.C_Catalog, dx, fs1 p1, rfl, hx5, T.cl_Catalog, T.no_Catalog_rest, (by show 1 < 1000; decide), ?_⟩
    rw [fs2_eq]
    rw [restX_congr hms] at er
    obtain ⟨rt, rfl, hrt, hno, hnn, hrr⟩ := restX_none hv1 er
    rw [catR_go eo, hrr] at k1 k2
    rw [hrt] at k2
    have g6 : SX [x] H1 (upd H5 x (.ins T.C_Catalog dx (fs2 p1 (rvO rt)))) := sx_upd (g4.trans (.of s5))
    have hx6 : (upd H5 x (.ins T.C_Catalog dx (fs2 p1 (rvO rt)))) x = some (.ins T.C_Catalog dx (fs2 p1 (rvO rt))) := upd_same
    have hp6 : (upd H5 x (.ins T.C_Catalog dx (fs2 p1 (rvO rt)))) p1 = some (.dK ((sortR rs).map rKV)) := by rw [upd_ne nxp]; exact hp5
    generalize upd H5 x (.ins T.C_Catalog dx (fs2 p1 (rvO rt))) = H6 at g6 hx6 hp6
    clear s5 hx5 hp5 g4 hx4 hp4 er hrr hrt
    have hll : (srtS (rs.map (·.1)) ++ rt.toList).length = rs.length + rt.toList.length := by rw [List.length_append, srt_len, List.length_map]
    have hrl : rt.toList.length ≤ 1 := by cases rt <;> simp
    refine ⟨fun σ H7 => ∃ l, σ = [some (.ref x), some v, some (rvO rt), some (.ref d), some (.ref l)] ∧ Same H6 H7 ∧ H7 l = some (.lst ((srtS (rs.map (·.1)) ++ rt.toList).map V.str)), ⟨_, rfl, rfl, _, rfl, ?_⟩, ?_⟩
    · cases rt with
      | none =>
        refine iteT ⟨_, rfl, x, T.C_Catalog, dx, _, _, rfl, hx6, T.cl_Catalog, T.no_Catalog_spans, lk2 _ _, p1, _, rfl, hp6, fun q hq => ⟨q, rfl, same_new hq, ?_⟩⟩
        rw [upd_same, keysV]
        simp
      | some s =>
        refine iteF ⟨_, rfl, x, T.C_Catalog, dx, _, _, rfl, hx6, T.cl_Catalog, T.no_Catalog_spans, lk2 _ _, p1, _, rfl, .of hp6, _, rfl, ?_, fun q hq => ⟨q, rfl, same_new hq, ?_⟩⟩
        · rw [keysV, List.length_append, List.length_map, srt_len, List.length_map]
          show rs.length + 1 ≤ sizeLine
          exact Nat.le_trans (show rs.length + 1 ≤ 61 by omega) (by decide)
        · rw [upd_same, keysV]
          simp [rvO]
    rintro σ H7 ⟨l, rfl, s7, hl7⟩
    have hx7 := s7 _ _ hx6
    have hp7 := s7 _ _ hp6
    have nlx : l ≠ x := ne_of hl7 hx7 (by intro z; cases z)
    have nlp : l ≠ p1 := ne_of hl7 hp7 (by intro z; cases z)
    have g7 := g6.trans (.of s7)
    refine ⟨_, rfl, l, _, rfl, .inl (SqL.of hl7), _, _, rfl, rfl, _, rfl, ?_⟩
    rw [List.length_map, hll]
    rw [List.length_map] at k1 k2
    by_cases h8 : 8 < rs.length + rt.toList.length
    · rw [if_pos h8] at k1
      rw [decide_eq_true (by omega : (8 : Int) < ((rs.length + rt.toList.length : Nat) : Int))]
      exact iteT (raise_x T.x_TooMany T.n_TooMany (RzX.back g7 (sx_free g7 hx7) (k1 _ rfl)).rz)
    · rw [if_neg h8] at k2
      rw [decide_eq_false (by omega : ¬ (8 : Int) < ((rs.length + rt.toList.length : Nat) : Int))]
      refine iteF ⟨_, rfl, l, _, rfl, SqL.of hl7, (by rw [hll]; omega), fun ys q hperm hs hq => ?_⟩
      obtain rfl : ys = nmsC rs rt := (srt_eq hperm hs).trans (srt_perm ((List.mergeSort_perm _ _).append_right _))
      have s8 := same_new (o := .lst ((nmsC rs rt).map V.str)) hq
      have hq8 : (upd H7 q (.lst ((nmsC rs rt).map V.str))) q = some (.lst ((nmsC rs rt).map V.str)) := upd_same
      have hx8 := s8 _ _ hx7
      have hp8 := s8 _ _ hp7
      generalize upd H7 q (.lst ((nmsC rs rt).map V.str)) = H8 at s8 hq8 hx8 hp8
      have nqx : q ≠ x := ne_of hq8 hx8 (by intro z; cases z)
      refine ⟨_, rfl, x, T.C_Catalog, dx, fs2 p1 (rvO rt), rfl, hx8, T.cl_Catalog, T.no_Catalog_names, (by show 2 < 1000; decide), ?_⟩
      rw [fs3_eq]
      have g9 : SX [x] H1 (upd H8 x (.ins T.C_Catalog dx (fs3 p1 (rvO rt) q))) := sx_upd (g7.trans (.of s8))
      have hx9 : (upd H8 x (.ins T.C_Catalog dx (fs3 p1 (rvO rt) q))) x = some (.ins T.C_Catalog dx (fs3 p1 (rvO rt) q)) := upd_same
      have hp9 : (upd H8 x (.ins T.C_Catalog dx (fs3 p1 (rvO rt) q))) p1 = some (.dK ((sortR rs).map rKV)) := by rw [upd_ne nxp]; exact hp8
      have hq9 : (upd H8 x (.ins T.C_Catalog dx (fs3 p1 (rvO rt) q))) q = some (.lst ((nmsC rs rt).map V.str)) := by rw [upd_ne nqx]; exact hq8
      generalize upd H8 x (.ins T.C_Catalog dx (fs3 p1 (rvO rt) q)) = H9 at g9 hx9 hp9 hq9
      have hT9 : LamX.TabS H9 T.pt_all_stretches lamQ := by
        obtain ⟨ps, a1, a2, a3⟩ := hT1
        have nx : ∀ {b : Addr} {o : HO}, H1 b = some o → (∀ fs, o ≠ .ins T.C_Catalog dx fs) → b ∉ [x] := fun e n z => by
          rw [List.mem_singleton.mp z, hx1] at e
          exact n _ (Option.some.inj e).symm
        refine ⟨ps, g9 _ _ (nx a1 fun fs z => by cases z) a1, a2, fun pos cv hc => ?_⟩
        obtain ⟨c, e1, e2⟩ := a3 pos cv hc
        exact ⟨c, e1, g9 _ _ (nx e2 fun fs z => by unfold LamX.CodeO at z; cases z) e2⟩
      refine ⟨_, rfl, x, T.C_Catalog, dx, _, _, rfl, hx9, T.cl_Catalog, T.no_Catalog_spans, lk3 _ _ _, _, rfl, p1, rvO rt, sortR rs, rfl, hp9, (fun r hr => hrs1.nd (ndx g9) r (sortR_mem hr)), (by rw [sortR_names]; exact srt_nodup hnd), (by rw [sortR_len]; exact hlen), hT9, fun p2 H10 xs eN hT10 n10 hp10 => ?_⟩
      have hx10 := eN _ _ hx9 fun ps z => by cases z
      have nx2 : p2 ≠ x := ne_of hp10.1 hx10 (by intro z; cases z)
      refine ⟨_, rfl, x, T.C_Catalog, dx, fs3 p1 (rvO rt) q, rfl, hx10, T.cl_Catalog, T.no_Catalog_stretches, (by show 3 < 1000; decide), ?_⟩
      rw [fsC_eq]
      have e11 : EX [x] H1 (upd H10 x (.ins T.C_Catalog dx (fsC p1 (rvO rt) q p2))) := fun b o n e t => by
        rw [upd_ne (by simpa using n)]
        exact eN _ _ (g9 b o n e) t
      refine k2 rfl _ e11 ?_ ⟨dx, p1, q, p2, xs, upd_same, ?_, ?_, ?_, hrs1.nd (e11.nd fun b hb o e => ?_), np1, sx_free g7 hx7 _ hq, sx_free g9 hx9 _ n10⟩ rfl
      · obtain ⟨ps, a1, a2, a3⟩ := hT10
        refine ⟨ps, by rw [upd_ne (ne_of a1 hx10 (by intro z; cases z))]; exact a1, a2, fun pos cv hc => ?_⟩
        obtain ⟨c, e1, e2⟩ := a3 pos cv hc
        exact ⟨c, e1, by rw [upd_ne (ne_of e2 hx10 (by intro z; unfold LamX.CodeO at z; cases z))]; exact e2⟩
      · rw [upd_ne nxp]
        exact eN _ _ hp9 fun ps z => by cases z
      · rw [upd_ne nqx]
        exact eN _ _ hq9 fun ps z => by cases z
      · refine hp10.nd fun b o e z => ?_
        rw [upd_ne (fun w => by
          rw [w, hx10] at e
          cases e
          cases z)]
        exact e
      · rw [List.mem_singleton.mp hb, hx1] at e
        cases e
        rfl
theorem ok_Catalog_names (T : Txt K mg base) : FnOk P w K mg base CX0 1 T.f_Catalog_names T.fd_Catalog_names ["self"] (sp_cnames K T.C_Catalog) := by
  refine T.F_Catalog_names.ok sc_Catalog_names (fun vs H Q E h => ?_) (fun cdv A outer s H vs Q E hr h => ?_)
  · obtain ⟨x, rs, rt, rfl, _⟩ := h
    rfl
  · obtain ⟨x, rs, rt, rfl, hc, hl, k⟩ := h
    refine ⟨_, (pss_one (ps_ret (pe_callTy (T := "list") call_list_of (by rfl) T.z_list (by decide +kernel) (pa_cons (pe_fld (pv 0) rfl) pa_nil)))), ?_⟩
    obtain ⟨dx, d, l, p, xs, h1, h2, h3, h4, h5⟩ := hc
    exact ⟨_, rfl, x, T.C_Catalog, dx, _, _, rfl, h1, T.cl_Catalog, T.no_Catalog_names, lkN _ _ _ _, l, _, rfl, .inl (SqL.of h3), k⟩
theorem ok_Catalog_eq (T : Txt K mg base) : FnOk P w K mg base CX0 1 T.f_Catalog_eq T.fd_Catalog_eq ["self", "other"] (sp_ceq K T.C_Catalog) := by
  refine T.F_Catalog_eq.ok sc_Catalog_eq (fun vs H Q E h => ?_) (fun cdv A outer s H vs Q E hr h => ?_)
  · obtain ⟨x, z, rs, rt, rfl, _⟩ := h
    rfl
  · obtain ⟨x, z, rs, rt, rfl, hc, k⟩ := h
    refine ⟨_, (pss_one (ps_ret (pe_and (pe_callB (id := "isinstance") call_isi (by rfl) T.z_isinstance (by decide +kernel) (pa_cons (pv 1) (pa_cons (pe_glob (v := .ref T.C_Catalog) rfl T.g_Catalog rfl) pa_nil))) (pe_and (pe_cmpR (op_eqDD (u65 hr)) (pe_fld (pv 0) rfl) (pe_fld (pv 1) rfl) (nomark _)) (pe_one (pe_cmpR op_eq (pe_fld (pv 0) rfl) (pe_fld (pv 1) rfl) (nomark _))))))), ?_⟩
    have ic := T.ic_Catalog
    obtain ⟨dx, d, l, p, xs, h1, h2, h3, h4, h5⟩ := hc
    rcases k with ⟨t, ty, kt, k⟩ | ⟨y, rs', rt', rfl, ⟨dx', d', l', p', xs', g1, g2, g3, g4, g5⟩, k⟩
    · exact ⟨_, rfl, _, _, _, _, _, rfl, .own _, ty, kt, _, rfl, iteF k⟩
    · refine ⟨_, rfl, _, _, _, _, _, rfl, .own _, .base (.ins g1 ic.cl ic.ha ic.hn ic.htk ic.hm), ic.me, _, rfl, iteT ?_⟩
      have so : ∀ {rs : List Row}, RowsOk K H rs → RowsOk K H (sortR rs) := fun h r hr => h r (sortR_mem hr)
      refine ⟨_, rfl, x, _, dx, _, _, rfl, h1, T.cl_Catalog, T.no_Catalog_spans, lkS _ _ _ _, _, rfl, y, _, dx', _, _, rfl, g1, T.cl_Catalog, T.no_Catalog_spans, lkS _ _ _ _, d, d', _, _, _, _, rfl, rfl, h2, g2, ents_rows (so h5), ents_rows (so g5), _, rfl, ?_⟩
      rw [List.length_map, List.length_map, sortR_len, sortR_len]
      have k : Q (.bl ((rs.length == rs'.length && entsEq (sortD rs) (sortD rs')) && decide (rt = rt'))) H := k
      unfold sortD at k
      cases e : (rs.length == rs'.length && entsEq ((sortR rs).map fun r => ((.inr r.1 : Key), spD r.2.2)) ((sortR rs').map fun r => ((.inr r.1 : Key), spD r.2.2))) with
      | false =>
        rw [e] at k
        exact iteF k
      | true =>
        rw [e] at k
        refine iteT ⟨_, rfl, x, _, dx, _, _, rfl, h1, T.cl_Catalog, T.no_Catalog_rest, lkR _ _ _ _, _, rfl, y, _, dx', _, _, rfl, g1, T.cl_Catalog, T.no_Catalog_rest, lkR _ _ _ _, rvO_scal _ _, ?_⟩
        rw [rvO_dec]
        exact k
theorem ok_UnknownPart_init (T : Txt K mg base) : FnOk P w K mg base CX0 1 T.f_UnknownPart_init T.fd_UnknownPart_init ["self", "name"] (sp_xinit K T.C_UnknownPart "name") := by
  refine T.F_UnknownPart_init.ok sc_UnknownPart_init (fun vs H Q E h => ?_) (fun cdv A outer s H vs Q E hr h => ?_)
  · obtain ⟨a, v, rfl, _⟩ := h
    rfl
  · obtain ⟨a, v, rfl, x, n, ha, k⟩ := h
    refine ⟨_, (pss_one (ps_ost (pv 0) (pv 1))), ?_⟩
    exact ⟨_, rfl, _, rfl, a, T.C_UnknownPart, rfl, x, n, .inl ⟨ha, k⟩⟩
theorem ok_Catalog_rest (T : Txt K mg base) : FnOk P w K mg base CX0 1 T.f_Catalog_rest T.fd_Catalog_rest ["self"] (sp_crest K T.C_Catalog) := by
  refine T.F_Catalog_rest.ok sc_Catalog_rest (fun vs H Q E h => ?_) (fun cdv A outer s H vs Q E hr h => ?_)
  · obtain ⟨x, rs, rt, rfl, _⟩ := h
    rfl
  · obtain ⟨x, rs, rt, rfl, hc, k⟩ := h
    refine ⟨_, (pss_one (ps_ret (pe_fld (pv 0) rfl))), ?_⟩
    obtain ⟨dx, d, l, p, xs, h1, _⟩ := hc
    exact ⟨_, rfl, x, T.C_Catalog, dx, _, _, rfl, h1, T.cl_Catalog, T.no_Catalog_rest, lkR _ _ _ _, k⟩
theorem ok_Catalog_contains (T : Txt K mg base) : FnOk P w K mg base CX0 1 T.f_Catalog_contains T.fd_Catalog_contains ["self", "x"] (sp_chas6 K T.C_Catalog) := by
  refine T.F_Catalog_contains.ok sc_Catalog_contains (fun vs H Q E h => ?_) (fun cdv A outer s H vs Q E hr h => ?_)
  · obtain ⟨x, w, o, rs, rt, rfl, _⟩ := h
    rfl
  · obtain ⟨x, w, o, rs, rt, rfl, hw, hc, hn, k⟩ := h
    refine ⟨_, (pss_one (ps_ret (pe_cmpR (op_inS (u65 hr)) (pv 1) (pe_fld (pv 0) rfl) (by rfl)))), ?_⟩
    obtain ⟨dx, d, l, p, xs, h1, h2, h3, _⟩ := hc
    exact ⟨_, rfl, _, rfl, x, T.C_Catalog, dx, _, _, rfl, h1, T.cl_Catalog, T.no_Catalog_names, lkN _ _ _ _, l, _, o, rfl, SqL.of h3, hw, strsC_sh hn, k⟩
theorem ok_Catalog_span (T : Txt K mg base) : FnOk P w K mg base (L2.CX P w) 3 T.f_Catalog_span T.fd_Catalog_span ["self", "name"] (sp_cspan K T.C_Catalog T.C_UnknownPart) := by
  refine T.F_Catalog_span.okX sc_Catalog_span (fun vs H Q E h => ?_) (fun cdv A outer s H vs Q E hr h => ?_)
  · obtain ⟨x, w, o, rs, rt, rfl, _⟩ := h
    rfl
  · obtain ⟨x, w, o, rs, rt, rfl, hw, hc, hn, k1, k2⟩ := h
    refine ⟨_, (pss_cons (ps_if (pt_cmpR (op_niI (ok_Catalog_contains T) (hr.mono (by decide)) T.b_Catalog_contains T.me_Catalog_contains.at_ T.me_Catalog_contains.fn pass0) (pv 1) (pv 0) (by rfl)) (pss_one (ps_raise rfl (takes_of rfl rfl rfl rfl) (pmk_oex T.x_UnknownPart T.i_UnknownPart T.t_UnknownPart (ok_UnknownPart_init T) hr T.b_UnknownPart_init .nil pass0 rfl T.g_UnknownPart (pa_cons (pv 1) pa_nil)))) pss_nil)
        (pss_one (ps_ret (pe_dget1 (hu_of hr) (pe_fld (pv 0) rfl) (pv 1) ⟨rfl, rfl, rfl, rfl⟩)))), ?_⟩
    obtain ⟨dx, d, l, p, xs, h1, h2, h3, _⟩ := id hc
    refine ⟨_, rfl, _, rfl, x, dx, _, rfl, h1, x, w, o, rs, rt, rfl, hw, hc, hn, _, rfl, _, rfl, ?_⟩
    cases e : inO (nmsC rs rt) o with
    | false => exact iteT ⟨_, rfl, raise_x T.x_UnknownPart T.n_UnknownPart (k1 e)⟩
    | true =>
      obtain ⟨s', rfl⟩ : ∃ s', o = some (.str s') := by
        rcases o with _ | d
        · cases e
        · cases d with
          | str s' => exact ⟨s', rfl⟩
          | _ => cases e
      obtain rfl : w = .str s' := by
        cases hw with
        | dat a b c => cases a; rfl
      refine iteF ⟨_, rfl, x, T.C_Catalog, dx, _, _, rfl, h1, T.cl_Catalog, T.no_Catalog_spans, lkS _ _ _ _, d, rfl, .inl ⟨_, .of h2⟩, _, rfl, _, .inl ⟨(sortR rs).map rKV, .inr s', .of h2, rfl, rfl⟩, ?_⟩
      have := k2 s' rfl e H (Same.refl H)
      rw [← getR_val] at this
      exact this
theorem ok_are_different_names (T : Txt K mg base) : FnOk P w K mg base CX0 2 T.f_are_different_names T.fd_are_different_names ["values"] (sp_diff K) := by
  refine T.F_are_different_names.ok sc_are_different_names (fun vs H Q E h => ?_) (fun cdv A outer s H vs Q E hr h => ?_)
  · obtain ⟨l, xs, ds, rfl, _⟩ := h
    rfl
  · obtain ⟨l, xs, ds, rfl, sq, ⟨dp, few, each⟩, k⟩ := h
    refine ⟨_, (pss_one (ps_ret (pe_and (pe_callB (id := "all") (cr_all rfl) (by rfl) T.z_all (by decide +kernel) (pa_cons (pe_lc (own := [("value", 1)]) (g := gName 1) (tt := tYes) rfl sc_are_different_names.nd (pi_list (pv 0)) (blkOk_by (own := [("value", 1)]) (N := ["values", "value"]) (sc := defScope s_are_different_names) (by decide +kernel)) (fun _ _ _ _ _ => (pg_name (i := 1) sc_are_different_names.nd rfl (Or.inl rfl))) (fun _ _ _ _ _ => pts_nil) (fun _ _ _ _ _ => (pe_call (ok_is_name T) hr rfl T.m_is_name T.F_is_name.kp T.b_is_name .nil pass0 (pa_cons (pv 1) pa_nil)))) pa_nil)) (pe_one (pe_cmpR op_eq (pe_lenSetT rfl (by rfl) T.z_len (by rfl) T.z_set (pv 0)) (pe_callB (id := "len") call_len_seq (by rfl) T.z_len (by decide +kernel) (pa_cons (pv 0) pa_nil)) (nomark _)))))), ?_⟩
    have hlen := dpAll_len dp
    refine ⟨_, rfl, l, rfl, ⟨_, sq⟩, fun D hD => ?_⟩
    refine lc_acc walk_list hD (fun H' s' => s'.seq sq) (fun i => (ds.take i).map fun d => V.bl (nameO (some d))) rfl (fun i hi => ?_) ?_ ?_
    · rw [List.length_map, List.length_take]
      exact Nat.lt_of_le_of_lt (Nat.le_trans (Nat.min_le_right _ _) few) (by decide)
    · rintro i x H2 hi hx s1 R S r1 r2
      obtain ⟨dx, hdx, vx⟩ := dpAll_get dp hx
      have hm := List.mem_of_getElem? hdx
      refine ⟨rfl, tyes ⟨_, rfl, x, some dx, rfl, .dat (dp_mono s1 vx) (each dx hm).1 (each dx hm).2, fun H3 s3 => r1 _ _ ?_ s3⟩⟩
      rw [List.take_add_one, hdx]
      simp
    · intro H3 s3 hl3
      have hl3 : H3 D = some (.lst (((ds.map fun d => nameO (some d)).map V.bl))) := by
        rw [hl3, hlen, List.take_length, List.map_map]
        rfl
      refine ⟨D, _, rfl, SqL.of hl3, _, rfl, ?_⟩
      rw [all_take]
      cases q : ds.all fun d => nameO (some d) with
      | false =>
        have k : ∀ H', Same H H' → Q (.bl false) H' := fun H' s' => by
          have := k H' s'
          unfold diffN at this
          rw [q] at this
          exact this
        exact iteF (k _ s3)
      | true =>
        have e := its_strs dp q
        refine iteT ⟨_, rfl, l, ds.map strOf, rfl, (by rw [← e]; exact s3.seq sq), (by rw [List.length_map]; omega), _, rfl, l, _, rfl, .inl (s3.seq sq), rfl, ?_⟩
        have k := k _ s3
        unfold diffN at k
        rw [q] at k
        have e2 : decide (V.int ((metN (ds.map strOf) (ds.map strOf).length : Nat) : Int) = V.int ((xs.length : Nat) : Int)) = decide (metN (ds.map strOf) (ds.map strOf).length = ds.length) := by
          rw [hlen]
          exact decide_eq_decide.mpr ⟨fun z => by injection z with z; omega, fun z => by rw [z]⟩
        rw [e2]
        exact k
theorem ok_is_change (T : Txt K mg base) : FnOk P w K mg base CX0 4 T.f_is_change T.fd_is_change ["value"] (sp_chg K) := by
  refine T.F_is_change.ok sc_is_change (fun vs H Q E h => ?_) (fun cdv A outer s H vs Q E hr h => ?_)
  · obtain ⟨v, o, rfl, _⟩ := h
    rfl
  · obtain ⟨v, o, rfl, hv, fw, k⟩ := h
    have ty := hv.ty
    refine ⟨_, (pss_cons (ps_if (PW.pt (pw_or (pt_not (pt_val (pe_callB (id := "isinstance") call_isi (by rfl) T.z_isinstance (by decide +kernel) (pa_cons (pv 0) (pa_cons (pe_bltn (v := .ty "tuple") (u := .type "tuple") (by rfl) T.z_tuple (by decide +kernel) rfl) pa_nil))))) (pw_or1 (pt_cmpR op_eq (pe_callB (id := "len") call_len_seq (by rfl) T.z_len (by decide +kernel) (pa_cons (pv 0) pa_nil)) pe_int (nomark _))))) (pss_one (ps_ret pe_bl)) pss_nil)
        (pss_cons (ps_asg (pv 0) (pg_tupS (n := 2) (i := 1) rfl (pgs_cons (pg_name (i := 1) sc_is_change.nd rfl (Or.inl rfl)) (pgs_star (pg_name (i := 2) sc_is_change.nd rfl (Or.inl rfl)) pgs_nil))))
        (pss_cons (ps_if (pt_cmpR (op_eqD hr.units) (pv 1) pe_str (nomark _)) (pss_one (ps_ret (pe_and (pe_cmpR op_eq (pe_callB (id := "len") call_len_seq (by rfl) T.z_len (by decide +kernel) (pa_cons (pv 2) pa_nil)) pe_int (nomark _)) (pe_and (pe_call (ok_is_name T) (hr.mono (by decide)) rfl T.m_is_name T.F_is_name.kp T.b_is_name .nil pass0 (pa_cons (pe_ix ix_list (pv 2) pe_int (fun _ _ => rfl)) pa_nil)) (pe_one (pe_call (ok_is_span T) hr rfl T.m_is_span T.F_is_span.kp T.b_is_span .nil pass0 (pa_cons (pe_ix ix_list (pv 2) pe_int (fun _ _ => rfl)) pa_nil))))))) pss_nil)
        (pss_cons (ps_if (pt_cmpR (op_eqD hr.units) (pv 1) pe_str (nomark _)) (pss_one (ps_ret (pe_and (pe_cmpR op_eq (pe_callB (id := "len") call_len_seq (by rfl) T.z_len (by decide +kernel) (pa_cons (pv 2) pa_nil)) pe_int (nomark _)) (pe_one (pe_call (ok_is_name T) (hr.mono (by decide)) rfl T.m_is_name T.F_is_name.kp T.b_is_name .nil pass0 (pa_cons (pe_ix ix_list (pv 2) pe_int (fun _ _ => rfl)) pa_nil)))))) pss_nil)
        (pss_cons (ps_if (pt_cmpR (op_eqD hr.units) (pv 1) pe_str (nomark _)) (pss_one (ps_ret (pe_and (pe_cmpR op_eq (pe_callB (id := "len") call_len_seq (by rfl) T.z_len (by decide +kernel) (pa_cons (pv 2) pa_nil)) pe_int (nomark _)) (pe_and (pe_call (ok_is_integer T) (hr.mono (by decide)) rfl T.m_is_integer T.F_is_integer.kp T.b_is_integer .nil pass0 (pa_cons (pe_ix ix_list (pv 2) pe_int (fun _ _ => rfl)) pa_nil)) (pe_one (pe_call (ok_are_different_names T) (hr.mono (by decide)) rfl T.m_are_different_names T.F_are_different_names.kp T.b_are_different_names .nil pass0 (pa_cons (pe_lst (pa_cons (pe_ix ix_list (pv 2) pe_int (fun _ _ => rfl)) (StX.pa_star (pe_slice sl_list (pv 2) (po_some pe_int) po_none) pa_nil))) pa_nil))))))) pss_nil)
        (pss_one (ps_ret (pe_and (pe_cmpR (op_eqD hr.units) (pv 1) pe_str (nomark _)) (pe_and (pe_cmpR op_eq (pe_callB (id := "len") call_len_seq (by rfl) T.z_len (by decide +kernel) (pa_cons (pv 2) pa_nil)) pe_int (nomark _)) (pe_one (pe_call (ok_are_different_names T) (hr.mono (by decide)) rfl T.m_are_different_names T.F_are_different_names.kp T.b_are_different_names .nil pass0 (pa_cons (pv 2) pa_nil)))))))))))), ?_⟩
    refine ⟨_, rfl, _, _, _, _, _, rfl, .ty _, ty, kit_o o (.inr (.inr (.inr rfl))), _, rfl, ?_⟩
    cases e : isT "tuple" o with
    | false =>
      rw [chO_ty e] at k
      exact iteT (iteT (k H (Same.refl H)))
    | true =>
      obtain ⟨a, xs, ds, rfl, rfl, hT, hD, sh⟩ := hv.tup_of e
      have I := its_of hD sh fw
      refine iteF ⟨_, rfl, _, _, rfl, .inr hT, rfl, _, rfl, ?_⟩
      obtain ⟨rfl, rfl⟩ | ⟨x, r, d, es, rfl, rfl⟩ := dp_cases hD
      · exact iteTe rfl (k H (Same.refl H))
      refine iteFe (lenF (by simp; omega)) ⟨_, rfl, a, _, rfl, hT, by simp, fun q hq => ?_⟩
      rw [(star1 x r q).1, (star1 x r q).2]
      have s2 := same_new (o := .lst r) hq
      have I2 := I.mono s2
      have hI := I2.head
      have J := I2.tail
      have hr := dpAll_len J.1
      have hL : SqL K (upd H q (.lst r)) q r := SqL.of upd_same
      have k : ∀ H', Same (upd H q (.lst r)) H' → Q (V.bl (chD (d :: es))) H' := fun H' s' => k H' (s2.trans s')
      clear I I2 hT hD hv fw ty sh e
      generalize upd H q (.lst r) = H2 at k hL J hI
      refine ⟨_, _, rfl, _, _, rfl, rfl, _, rfl, d, .str "hang", hI.1, .str _, hI.2.1, by decide +kernel, _, rfl, ?_⟩
      cases c1 : isS d "hang" with
      | true =>
        have k := fun H' s' => chD_hang (e := es) c1 ▸ k H' s'
        refine iteTe c1 ⟨_, rfl, q, r, rfl, .inl hL, rfl, _, rfl, ?_⟩
        by_cases l : r.length = 2
        · obtain ⟨x0, x1, d0, d1, rfl, rfl⟩ := its_two J.1 l
          refine iteTe rfl ⟨_, rfl, q, _, 0, x0, rfl, rfl, hL, atI_nat (j := 0) rfl, x0, some d0, rfl, J.head.2.2, fun H3 s3 => ⟨_, rfl, ?_⟩⟩
          have k : ∀ H', Same H2 H' → Q (V.bl (nameO (some d0) && spanO (some d1))) H' := k
          cases c2 : nameO (some d0) with
          | false =>
            rw [c2] at k
            exact iteF (k _ s3)
          | true =>
            rw [c2] at k
            exact iteT ⟨_, rfl, q, _, 1, x1, rfl, rfl, s3.seq hL, atI_nat (j := 1) rfl, x1, some d1, rfl, (J.tail.head.2.2).mono s3, fun H4 s4 => k _ (s3.trans s4)⟩
        · refine iteFe (lenF (by omega)) ?_
          rw [hang_no (by omega)] at k
          exact k _ (Same.refl _)
      | false =>
        refine iteFe c1 ⟨_, rfl, d, .str "take", hI.1, .str _, hI.2.1, by decide +kernel, _, rfl, ?_⟩
        cases c2 : isS d "take" with
        | true =>
          have k := fun H' s' => chD_take (e := es) c1 c2 ▸ k H' s'
          refine iteTe c2 ⟨_, rfl, q, r, rfl, .inl hL, rfl, _, rfl, ?_⟩
          by_cases l : r.length = 1
          · obtain ⟨x0, d0, rfl, rfl⟩ := its_one J.1 l
            exact iteTe rfl ⟨_, rfl, q, _, 0, x0, rfl, rfl, hL, atI_nat (j := 0) rfl, x0, some d0, rfl, J.head.2.2, fun H3 s3 => k _ s3⟩
          · refine iteFe (lenF (by omega)) ?_
            rw [take_no (by omega)] at k
            exact k _ (Same.refl _)
        | false =>
          refine iteFe c2 ⟨_, rfl, d, .str "split", hI.1, .str _, hI.2.1, by decide +kernel, _, rfl, ?_⟩
          cases c3 : isS d "split" with
          | true =>
            have k := fun H' s' => chD_split (e := es) c1 c2 c3 ▸ k H' s'
            refine iteTe c3 ⟨_, rfl, q, r, rfl, .inl hL, rfl, _, rfl, ?_⟩
            by_cases l : r.length = 4
            · obtain ⟨x0, x1, x2, x3, d0, d1, d2, d3, rfl, rfl⟩ := its_four J.1 l
              have t1 := dp_vO J.tail.head.1
              refine iteTe rfl ⟨_, rfl, q, _, 1, x1, rfl, rfl, hL, atI_nat (j := 1) rfl, x1, some d1, rfl, t1.1, t1.2, _, rfl, ?_⟩
              have k : ∀ H', Same H2 H' → Q (V.bl (intO (some d1) && diffN [d0, d2, d3])) H' := k
              cases c4 : intO (some d1) with
              | false =>
                rw [c4] at k
                exact iteF (k _ (Same.refl _))
              | true =>
                rw [c4] at k
                refine iteT ⟨_, rfl, q, _, 0, x0, rfl, rfl, hL, atI_nat (j := 0) rfl, _, rfl, 2, rfl, q, _, rfl, hL, fun q2 hq2 => ?_⟩
                have s3 := same_new (o := .lst (cutV [x0, x1, x2, x3] (some 2) none)) hq2
                refine ⟨q2, [x2, x3], rfl, .inr (SqL.of upd_same), (by show 3 ≤ sizeLine; decide), fun q3 hq3 => ?_⟩
                have s4 := s3.trans (same_new (o := .lst [x0, x2, x3]) hq3)
                exact ⟨q3, [x0, x2, x3], [d0, d2, d3], rfl, SqL.of upd_same, (Its.cons J.head.2.2 J.tail.tail (by show 2 < 100; decide)).mono s4, fun H' s' => k H' (s4.trans s')⟩
            · refine iteFe (lenF (by omega)) ?_
              rw [split_no (by omega)] at k
              exact k _ (Same.refl _)
          | false =>
            have k := fun H' s' => chD_join (e := es) c1 c2 c3 ▸ k H' s'
            refine iteFe c3 ⟨_, rfl, d, .str "join", hI.1, .str _, hI.2.1, by decide +kernel, _, rfl, ?_⟩
            cases c4 : isS d "join" with
            | false =>
              rw [c4] at k
              exact iteFe c4 (k _ (Same.refl _))
            | true =>
              rw [c4] at k
              refine iteTe c4 ⟨_, rfl, q, r, rfl, .inl hL, rfl, _, rfl, ?_⟩
              by_cases l : r.length = 3
              · obtain ⟨x0, x1, x2, d0, d1, d2, rfl, rfl⟩ := its_three J.1 l
                exact iteTe rfl ⟨_, rfl, q, _, _, rfl, hL, J, fun H' s' => k H' s'⟩
              · refine iteFe (lenF (by omega)) ?_
                rw [join_no (by omega)] at k
                exact k _ (Same.refl _)
theorem ok_InvalidChange_init (T : Txt K mg base) : FnOk P w K mg base CX0 1 T.f_InvalidChange_init T.fd_InvalidChange_init ["self", "value"] (sp_xinit K T.C_InvalidChange "value") := by
  refine T.F_InvalidChange_init.ok sc_InvalidChange_init (fun vs H Q E h => ?_) (fun cdv A outer s H vs Q E hr h => ?_)
  · obtain ⟨a, v, rfl, _⟩ := h
    rfl
  · obtain ⟨a, v, rfl, x, n, ha, k⟩ := h
    refine ⟨_, (pss_one (ps_ost (pv 0) (pv 1))), ?_⟩
    exact ⟨_, rfl, _, rfl, a, T.C_InvalidChange, rfl, x, n, .inl ⟨ha, k⟩⟩
theorem ok_require_change (T : Txt K mg base) : FnOk P w K mg base (L2.CX P w) 5 T.f_require_change T.fd_require_change ["value"] (sp_rchg K T.C_InvalidChange) := by
  refine T.F_require_change.okX sc_require_change (fun vs H Q E h => ?_) (fun cdv A outer s H vs Q E hr h => ?_)
  · obtain ⟨v, o, rfl, _⟩ := h
    rfl
  · obtain ⟨v, o, rfl, hv, fw, k1, k2⟩ := h
    refine ⟨_, (pss_one (ps_if (pt_not (pt_val (pe_call (ok_is_change T) hr rfl T.m_is_change T.F_is_change.kp T.b_is_change .nil pass0 (pa_cons (pv 0) pa_nil)))) (pss_one (ps_raise rfl (takes_of rfl rfl rfl rfl) (pmk_oex T.x_InvalidChange T.i_InvalidChange T.t_InvalidChange (ok_InvalidChange_init T) (hr.mono (by decide)) T.b_InvalidChange_init .nil pass0 rfl T.g_InvalidChange (pa_cons (pv 0) pa_nil)))) pss_nil)), ?_⟩
    refine ⟨_, rfl, v, o, rfl, hv, fw, fun H1 s1 => ⟨_, rfl, ?_⟩⟩
    cases e : chO o with
    | true => exact iteF (k1 e H1 s1)
    | false => exact iteT ⟨_, rfl, raise_x T.x_InvalidChange T.n_InvalidChange ((k2 e).back s1)⟩
theorem ok_roles (T : Txt K mg base) : FnOk P w K mg base (L2.CX P w) 6 T.f_roles T.fd_roles ["change"] (sp_roles K T.C_InvalidChange) := by
  refine T.F_roles.okX sc_roles (fun vs H Q E h => ?_) (fun cdv A outer s H vs Q E hr h => ?_)
  · obtain ⟨v, o, rfl, _⟩ := h
    rfl
  · obtain ⟨v, o, rfl, hv, fw, k1, k2⟩ := h
    refine ⟨_, (pss_cons (ps_expr (pe_call (ok_require_change T) hr rfl T.m_require_change T.F_require_change.kp T.b_require_change .nil (passC (takes_of rfl rfl rfl rfl)) (pa_cons (pv 0) pa_nil)))
        (pss_cons (ps_asg (pv 0) (pg_tupS (n := 2) (i := 1) rfl (pgs_cons (pg_name (i := 1) sc_roles.nd rfl (Or.inl rfl)) (pgs_star (pg_name (i := 2) sc_roles.nd rfl (Or.inl rfl)) pgs_nil))))
        (pss_cons (ps_if (pt_cmpR (op_eqD hr.units) (pv 1) pe_str (nomark _)) (pss_one (ps_ret (pe_tup (pa_cons (pe_lst pa_nil) (pa_cons (pe_slice sl_list (pv 2) po_none (po_some pe_int)) pa_nil))))) pss_nil)
        (pss_cons (ps_if (pt_cmpR (op_eqD hr.units) (pv 1) pe_str (nomark _)) (pss_one (ps_ret (pe_tup (pa_cons (pv 2) (pa_cons (pe_lst pa_nil) pa_nil))))) pss_nil)
        (pss_cons (ps_if (pt_cmpR (op_eqD hr.units) (pv 1) pe_str (nomark _)) (pss_one (ps_ret (pe_tup (pa_cons (pe_slice sl_list (pv 2) po_none (po_some pe_int)) (pa_cons (pe_slice sl_list (pv 2) (po_some pe_int) po_none) pa_nil))))) pss_nil)
        (pss_one (ps_ret (pe_tup (pa_cons (pe_slice sl_list (pv 2) po_none (po_some pe_int)) (pa_cons (pe_slice sl_list (pv 2) (po_some pe_int) po_none) pa_nil)))))))))), ?_⟩
    refine ⟨_, rfl, v, o, rfl, hv, fw, fun e H1 s1 => ?_, fun e => k1 e⟩
    obtain ⟨a, xs, ds, rfl, rfl, hT, hD, sh⟩ := hv.tup_of (by
      cases q : isT "tuple" o with
      | true => rfl
      | false =>
        rw [chO_ty q] at e
        cases e)
    have e : chD ds = true := e
    have k2 := k2 ds rfl e
    have I := its_of hD sh fw
    obtain ⟨rfl, rfl⟩ | ⟨x, r, d, es, rfl, rfl⟩ := dp_cases hD
    · cases e
    refine ⟨_, rfl, a, _, rfl, same_t s1 hT, by simp, fun q hq => ?_⟩
    rw [(star1 x r q).1, (star1 x r q).2]
    have s2 := s1.trans (same_new (o := .lst r) hq)
    have I2 := I.mono s2
    have hI := I2.head
    have J := I2.tail.1
    have hqq : (upd H1 q (.lst r)) q = some (.lst r) := upd_same
    have hq0 : H q = none := s1.free hq
    clear I I2 hT hD hv fw sh k1 s1 hq
    generalize upd H1 q (.lst r) = H2 at s2 hqq J hI
    refine ⟨_, _, rfl, _, _, rfl, rfl, _, rfl, d, .str "hang", hI.1, .str _, hI.2.1, by decide +kernel, _, rfl, ?_⟩
    cases c1 : isS d "hang" with
    | true =>
      rw [chD_hang c1] at e
      rw [roleD_hang c1] at k2
      obtain ⟨n, x1, d1, rfl, rfl⟩ := hang_is J e
      refine iteTe c1 ⟨(by show 0 ≤ sizeLine; decide), fun l1 h1 => ?_⟩
      have m1 := same_new (o := .lst []) h1
      refine ⟨_, rfl, 1, rfl, q, _, rfl, SqL.of (m1 _ _ hqq), fun l2 h2 => ⟨(by show 2 ≤ sizeLine; decide), fun p hp => ?_⟩⟩
      have m2 := same_new (o := .lst (cutV [V.str n, x1] none (some 1))) h2
      exact roles_fin k2 s2 (m1.trans m2) (m2 _ _ upd_same) upd_same hp (s2.free h1) ((s2.trans m1).free h2)
    | false =>
      refine iteFe c1 ⟨_, rfl, d, .str "take", hI.1, .str _, hI.2.1, by decide +kernel, _, rfl, ?_⟩
      cases c2 : isS d "take" with
      | true =>
        rw [chD_take c1 c2] at e
        rw [roleD_take c1 c2] at k2
        obtain ⟨n, rfl, rfl⟩ := take_is J e
        refine iteTe c2 ⟨_, rfl, (by show 0 ≤ sizeLine; decide), fun l2 h2 => ⟨(by show 2 ≤ sizeLine; decide), fun p hp => ?_⟩⟩
        have m2 := same_new (o := .lst []) h2
        exact roles_fin k2 s2 m2 (m2 _ _ hqq) upd_same hp hq0 (s2.free h2)
      | false =>
        refine iteFe c2 ⟨_, rfl, d, .str "split", hI.1, .str _, hI.2.1, by decide +kernel, _, rfl, ?_⟩
        cases c3 : isS d "split" with
        | true =>
          rw [chD_split c1 c2 c3] at e
          rw [roleD_split c1 c2 c3] at k2
          obtain ⟨n, x1, d1, n2, n3, rfl, rfl⟩ := split_is J e
          refine iteTe c3 ⟨_, rfl, 1, rfl, q, _, rfl, SqL.of hqq, fun l1 h1 => ?_⟩
          have m1 := same_new (o := .lst (cutV [V.str n, x1, .str n2, .str n3] none (some 1))) h1
          refine ⟨_, rfl, 2, rfl, q, _, rfl, SqL.of (m1 _ _ hqq), fun l2 h2 => ⟨(by show 2 ≤ sizeLine; decide), fun p hp => ?_⟩⟩
          have m2 := same_new (o := .lst (cutV [V.str n, x1, .str n2, .str n3] (some 2) none)) h2
          exact roles_fin k2 s2 (m1.trans m2) (m2 _ _ upd_same) upd_same hp (s2.free h1) ((s2.trans m1).free h2)
        | false =>
          rw [chD_join c1 c2 c3, Bool.and_eq_true] at e
          rw [roleD_join c1 c2 c3] at k2
          obtain ⟨n, n1, n2, rfl, rfl⟩ := join_is J e.2
          refine iteFe c3 ⟨_, rfl, 2, rfl, q, _, rfl, SqL.of hqq, fun l1 h1 => ?_⟩
          have m1 := same_new (o := .lst (cutV [V.str n, .str n1, .str n2] none (some 2))) h1
          refine ⟨_, rfl, 2, rfl, q, _, rfl, SqL.of (m1 _ _ hqq), fun l2 h2 => ⟨(by show 2 ≤ sizeLine; decide), fun p hp => ?_⟩⟩
          have m2 := same_new (o := .lst (cutV [V.str n, .str n1, .str n2] (some 2) none)) h2
          exact roles_fin k2 s2 (m1.trans m2) (m2 _ _ upd_same) upd_same hp (s2.free h1) ((s2.trans m1).free h2)
theorem ok_NotInside_init (T : Txt K mg base) : FnOk P w K mg base CX0 1 T.f_NotInside_init T.fd_NotInside_init ["self", "at"] (sp_xinit K T.C_NotInside "at") := by
  refine T.F_NotInside_init.ok sc_NotInside_init (fun vs H Q E h => ?_) (fun cdv A outer s H vs Q E hr h => ?_)
  · obtain ⟨a, v, rfl, _⟩ := h
    rfl
  · obtain ⟨a, v, rfl, x, n, ha, k⟩ := h
    refine ⟨_, (pss_one (ps_ost (pv 0) (pv 1))), ?_⟩
    exact ⟨_, rfl, _, rfl, a, T.C_NotInside, rfl, x, n, .inl ⟨ha, k⟩⟩
theorem ok_NotNeighbours_init (T : Txt K mg base) : FnOk P w K mg base CX0 1 T.f_NotNeighbours_init T.fd_NotNeighbours_init ["self", "name"] (sp_xinit K T.C_NotNeighbours "name") := by
  refine T.F_NotNeighbours_init.ok sc_NotNeighbours_init (fun vs H Q E h => ?_) (fun cdv A outer s H vs Q E hr h => ?_)
  · obtain ⟨a, v, rfl, _⟩ := h
    rfl
  · obtain ⟨a, v, rfl, x, n, ha, k⟩ := h
    refine ⟨_, (pss_one (ps_ost (pv 0) (pv 1))), ?_⟩
    exact ⟨_, rfl, _, rfl, a, T.C_NotNeighbours, rfl, x, n, .inl ⟨ha, k⟩⟩
theorem ok_InvalidCatalog_init (T : Txt K mg base) : FnOk P w K mg base CX0 1 T.f_InvalidCatalog_init T.fd_InvalidCatalog_init ["self", "value"] (sp_xinit K T.C_InvalidCatalog "value") := by
  refine T.F_InvalidCatalog_init.ok sc_InvalidCatalog_init (fun vs H Q E h => ?_) (fun cdv A outer s H vs Q E hr h => ?_)
  · obtain ⟨a, v, rfl, _⟩ := h
    rfl
  · obtain ⟨a, v, rfl, x, n, ha, k⟩ := h
    refine ⟨_, (pss_one (ps_ost (pv 0) (pv 1))), ?_⟩
    exact ⟨_, rfl, _, rfl, a, T.C_InvalidCatalog, rfl, x, n, .inl ⟨ha, k⟩⟩
theorem ok_require_catalog (T : Txt K mg base) : FnOk P w K mg base (L2.CX P w) 3 T.f_require_catalog T.fd_require_catalog ["value"] (sp_rcat K T.C_Catalog T.C_InvalidCatalog) := by
  refine T.F_require_catalog.okX sc_require_catalog (fun vs H Q E h => ?_) (fun cdv A outer s H vs Q E hr h => ?_)
  · obtain ⟨v, cv, rfl, _⟩ := h
    rfl
  · obtain ⟨v, cv, rfl, hv, k1, k2⟩ := h
    refine ⟨_, (pss_one (ps_if (pt_not (pt_val (pe_callB (id := "isinstance") call_isi (by rfl) T.z_isinstance (by decide +kernel) (pa_cons (pv 0) (pa_cons (pe_glob (v := .ref T.C_Catalog) rfl T.g_Catalog rfl) pa_nil))))) (pss_one (ps_raise rfl (takes_of rfl rfl rfl rfl) (pmk_oex T.x_InvalidCatalog T.i_InvalidCatalog T.t_InvalidCatalog (ok_InvalidCatalog_init T) hr T.b_InvalidCatalog_init .nil pass0 rfl T.g_InvalidCatalog (pa_cons (pv 0) pa_nil)))) pss_nil)), ?_⟩
    have ic := T.ic_Catalog
    cases hv with
    | no a => exact ⟨_, rfl, _, _, _, _, _, rfl, .own _, a.ty, kitC T _, _, rfl, iteT ⟨_, rfl, raise_x T.x_InvalidCatalog T.n_InvalidCatalog (k2 rfl)⟩⟩
    | cat a b c =>
      obtain ⟨dx, d, l, p, xs, h1, _⟩ := a
      exact ⟨_, rfl, _, _, _, _, _, rfl, .own _, .base (.ins h1 ic.cl ic.ha ic.hn ic.htk ic.hm), ic.me, _, rfl, iteF (k1 rfl H (Same.refl H))⟩
theorem ok_spans_of (T : Txt K mg base) : FnOk P w K mg base (L2.CX P w) 4 T.f_spans_of T.fd_spans_of ["catalog"] (sp_spansof K T.C_Catalog) := by
  refine T.F_spans_of.okX sc_spans_of (fun vs H Q E h => ?_) (fun cdv A outer s H vs Q E hr h => ?_)
  · obtain ⟨x, rs, rt, rfl, _⟩ := h
    rfl
  · obtain ⟨x, rs, rt, rfl, hc, G, hl, k⟩ := h
    refine ⟨_, (pss_one (ps_ret (pe_dc (own := [("name", 1)]) (g := gName 1) rfl sc_spans_of.nd (pi_list (pe_meth0 (pv 0) T.cl_Catalog T.me_Catalog_names (ok_Catalog_names T) (hr.mono (by decide)) T.b_Catalog_names .nil pass0)) (blkOk_by (own := [("name", 1)]) (N := ["catalog", "name"]) (sc := defScope s_spans_of) (by decide +kernel)) (fun _ _ _ _ _ => (pg_name (i := 1) sc_spans_of.nd rfl (Or.inl rfl))) (fun _ _ _ _ _ => (pts_one (pt_cmpR op_ne (pv 1) (pe_prop (pv 0) T.cl_Catalog T.pr_Catalog_rest (ok_Catalog_rest T) (hr.mono (by decide)) T.b_Catalog_rest .nil pass0 rfl) (nomark _)))) (fun _ _ _ _ _ => (pv 1)) (fun _ _ _ _ _ => (pe_meth (pv 0) T.cl_Catalog T.me_Catalog_span (ok_Catalog_span T) hr T.b_Catalog_span .nil passL (pa_cons (pv 1) pa_nil)))))), ?_⟩
    obtain ⟨dx, d0, l0, p0, xs0, h1, h2⟩ := id hc
    have hnmC := G.nmsC
    have hl8 : (nmsC rs rt).length ≤ 8 := by
      rw [nmsC_len]
      rw [nmsL_rows, List.length_append, List.length_map] at hl
      exact hl
    have gnd := G.nd
    rw [nmsL_rows] at gnd
    have hnd : (rs.map (·.1)).Nodup := (List.nodup_append.mp gnd).1
    refine ⟨_, rfl, x, dx, _, rfl, h1, lkM _ _ _ _, x, rs, rt, rfl, hc, by omega, fun q hq => ?_⟩
    have s1 := same_new (o := .lst ((nmsC rs rt).map V.str)) hq
    have hq1 : (upd H q (.lst ((nmsC rs rt).map V.str))) q = some (.lst ((nmsC rs rt).map V.str)) := upd_same
    generalize upd H q (.lst ((nmsC rs rt).map V.str)) = H1 at s1 hq1
    refine ⟨q, rfl, ⟨_, SqL.of hq1⟩, fun D hD => ?_⟩
    have hc1 := hc.mono s1
    have hnms : ∀ s, s ∈ nmsC rs rt ↔ s ∈ rs.map (·.1) ∨ rt = some s := fun s => by
      unfold nmsC
      rw [srt_mem, List.mem_append]
      cases rt <;> simp [eq_comm]
    have hsn : (nmsC rs rt).Nodup := srt_nodup gnd
    refine dc_it walk_list (fun i H' => Same H1 H' ∧ H' D = some (.dK ((withR rs ((nmsC rs rt).take i)).map rKV))) ⟨fun b o e => by rw [upd_ne (ne_of_none e hD)]; exact e, upd_same⟩ (fun i H' _ z => SqL.of (z.1 _ _ hq1)) ?_ ?_
    · rintro i y H2 H3 hi ⟨s2, hD2⟩ ⟨rfl, hy⟩
      have hy : ((nmsC rs rt).map V.str)[i]? = some y := hy
      rw [List.getElem?_map] at hy
      obtain ⟨st, hst, rfl⟩ := Option.map_eq_some_iff.mp hy
      have hmem := List.mem_of_getElem? hst
      have stp := withR_step (rs := rs) hst
      have hx2 := s2 _ _ (s1 _ _ h1)
      have hc2 := hc1.mono s2
      refine ⟨rfl, _, rfl, _, rfl, x, dx, _, rfl, hx2, x, rs, rt, rfl, hc2, by cases rt <;> rfl, _, rfl, ?_⟩
      by_cases er : rt = some st
      · have nm : decide (st ∈ rs.map (·.1)) = false := decide_eq_false fun z => (List.nodup_append.mp gnd).2.2 st z st (by rw [er]; exact List.mem_cons_self) rfl
        refine iteFe (by rw [er]; simp [rvO]) ⟨s2, ?_⟩
        rw [stp, nm, if_neg Bool.false_ne_true, List.append_nil]
        exact hD2
      · have im : st ∈ rs.map (·.1) := ((hnms st).mp hmem).resolve_right er
        refine iteTe (by cases rt <;> simp [rvO] at er ⊢ <;> exact fun z => er z.symm) ⟨_, rfl, _, rfl, x, dx, _, rfl, hx2, lkSp _ _ _ _, _, rfl, x, .str st, some (.str st), rs, rt, rfl, ?_, hc2, hnmC, fun e => ?_, fun s' e1 e2 H4 s4 => ?_⟩
        · exact vd_key (k := .inr st) ⟨by have := nameC_len (hnmC st hmem); omega, nameC_ok (hnmC st hmem)⟩
        · have : inO (nmsC rs rt) (some (.str st)) = true := decide_eq_true hmem
          rw [this] at e
          cases e
        · cases e1
          have im2 : st ∈ (sortR rs).map (·.1) := by
            rw [sortR_names]
            exact srt_mem.mpr im
          rw [getR_row im2, rowOf_sort hnd im]
          have ln : (withR rs ((nmsC rs rt).take i)).length ≤ 60 := by
            have h1 : (withR rs ((nmsC rs rt).take i)).length ≤ ((nmsC rs rt).take i).length := by
              unfold withR
              rw [List.length_map]
              exact List.length_filter_le _ _
            have h2 := List.length_take_le' i (nmsC rs rt)
            omega
          refine ⟨(withR rs ((nmsC rs rt).take i)).map rKV, .inr st, rfl, s4 _ _ hD2, ?_, fun b o e => ?_, ?_⟩
          · rw [List.length_map]
            exact Nat.lt_of_le_of_lt ln (by decide)
          · rw [upd_ne (ne_of_none e hD)]
            exact s4 _ _ (s2 _ _ e)
          · have hno : st ∉ (withR rs ((nmsC rs rt).take i)).map (·.1) := fun z => by
              rw [withR_names] at z
              have z := (List.mem_filter.mp z).1
              obtain ⟨j, hj, e⟩ := List.mem_iff_getElem.mp z
              rw [List.length_take] at hj
              rw [List.getElem_take] at e
              have hi2 : i < (nmsC rs rt).length := (List.getElem?_eq_some_iff.mp hst).1
              have e2 : (nmsC rs rt)[i] = st := (List.getElem?_eq_some_iff.mp hst).2
              have := (List.getElem_inj (h₀ := by omega) (h₁ := hi2) hsn).mp (e.trans e2.symm)
              omega
            rw [upd_same, stp, decide_eq_true im, if_pos rfl, putK_new _ (valR_none hno), List.map_append]
            have : rKV (rowOf rs st) = (Sum.inr st, V.ref (rowOf rs st).2.1) := by
              unfold rKV
              rw [(rowOf_mem im).2]
            rw [List.map_cons, List.map_nil, this]
    · rintro H2 ⟨s2, hD2⟩
      rw [List.length_map, List.take_of_length_le (Nat.le_refl _), withR_all gnd] at hD2
      exact k D H2 (s1.trans s2) (s1.free hD) hD2
theorem ok_split_spans (T : Txt K mg base) : FnOk P w K mg base (L2.CX P w) 4 T.f_split_spans T.fd_split_spans ["spans", "name", "at", "left", "right"] (sp_split12 K T.C_NotInside) := by
  refine T.F_split_spans.okX sc_split_spans (fun vs H Q E h => ?_) (fun cdv A outer s H vs Q E hr h => ?_)
  · obtain ⟨d, rs, n, z, l, r, rfl, _⟩ := h
    rfl
  · obtain ⟨d, rs, n, z, l, r, rfl, hd, hok, hnd, hn, hlr, k1, k2⟩ := h
    refine ⟨_, (pss_cons (ps_asg (pe_dget (hu_of hr) (pv 0) (pv 1) (fun _ _ => rfl)) (pg_tup rfl (pgs_cons (pg_name (i := 5) sc_split_spans.nd rfl (Or.inl rfl)) (pgs_cons (pg_name (i := 6) sc_split_spans.nd rfl (Or.inl rfl)) pgs_nil))))
        (pss_cons (ps_if (PW.pt (pw_or (pt_not (pt_val (pe_call (ok_is_span T) hr rfl T.m_is_span T.F_is_span.kp T.b_is_span .nil pass0 (pa_cons (pe_tup (pa_cons (pv 5) (pa_cons (pv 2) pa_nil))) pa_nil)))) (pw_or1 (pt_not (pt_val (pe_call (ok_is_span T) hr rfl T.m_is_span T.F_is_span.kp T.b_is_span .nil pass0 (pa_cons (pe_tup (pa_cons (pv 2) (pa_cons (pv 6) pa_nil))) pa_nil))))))) (pss_one (ps_raise rfl (takes_of rfl rfl rfl rfl) (pmk_oex T.x_NotInside T.i_NotInside T.t_NotInside (ok_NotInside_init T) (hr.mono (by decide)) T.b_NotInside_init .nil pass0 rfl T.g_NotInside (pa_cons (pv 2) pa_nil)))) pss_nil)
        (pss_one (ps_ret (pe_disp (pps_cons (pv 3) (pe_tup (pa_cons (pv 5) (pa_cons (pv 2) pa_nil))) (pps_cons (pv 4) (pe_tup (pa_cons (pv 2) (pa_cons (pv 6) pa_nil))) pps_nil)) (by rfl) (by rfl) (fun z => by cases z) (by decide)))))), ?_⟩
    have r2s : (2 : Nat) ≤ sizeLine := by decide
    obtain ⟨hm1, hm2⟩ := rowOf_mem hn
    have hv := valR hn
    have es := spL_row hnd hn
    rw [es] at k1 k2
    obtain ⟨ha, hsp, _⟩ := hok _ hm1
    generalize rowOf rs n = rw0 at *
    obtain ⟨nm, a, lo, hi⟩ := rw0
    clear es hm1 hm2
    have ha : SqT K H a (spV (lo, hi)) := ha
    refine ⟨_, rfl, _, rfl, d, _, rfl, .inl ⟨rs.map rKV, .inr n, .of hd, rfl, hv.symm⟩, a, _, rfl, ha, rfl, _, _, rfl, _, _, rfl, rfl, ?_⟩
    refine ⟨_, rfl, _, rfl, r2s, fun p1 hp1 => ⟨_, some (spD (lo, some z)), rfl, vd_sp (SqT.of upd_same), fun H1 s1 => ⟨_, rfl, ?_⟩⟩⟩
    have s1 := (same_new (o := .tup [limV lo, .int z]) hp1).trans s1
    rw [spanO_ok]
    cases e1 : okS (lo, some z) with
    | false =>
      have ef : insB (lo, hi) z = false := by
        show (okS (lo, some z) && _) = false
        rw [e1]
        rfl
      exact iteT (iteT ⟨_, rfl, raise_x T.x_NotInside T.n_NotInside ((k1 ef).back s1)⟩)
    | true =>
      refine iteF ⟨_, rfl, _, rfl, r2s, fun p2 hp2 => ⟨_, some (spD (some z, hi)), rfl, vd_sp (SqT.of upd_same), fun H2 s2 => ⟨_, rfl, ?_⟩⟩⟩
      have s2 := s1.trans ((same_new (o := .tup [.int z, limV hi]) hp2).trans s2)
      rw [spanO_ok]
      cases e2 : okS (some z, hi) with
      | false =>
        have ef : insB (lo, hi) z = false := by
          show (okS (lo, some z) && okS (some z, hi)) = false
          rw [e1, e2]
          rfl
        exact iteT ⟨_, rfl, raise_x T.x_NotInside T.n_NotInside ((k1 ef).back s2)⟩
      | true =>
        have et : insB (lo, hi) z = true := by
          show (okS (lo, some z) && okS (some z, hi)) = true
          rw [e1, e2]
          rfl
        refine iteF fun p hp => ⟨_, rfl, _, rfl, _, rfl, r2s, fun x hx => ⟨_, rfl, _, rfl, _, rfl, r2s, fun y hy => ⟨?_, [(.inr l, .ref x), (.inr r, .ref y)], rfl, (by show 2 ≤ 15; decide), ?_⟩⟩⟩
        · rw [upd_ne (ne_of_none (by rw [upd_ne (ne_of_none upd_same hx)]; exact upd_same) hy), upd_ne (ne_of_none upd_same hx)]
          exact upd_same
        · have npx : p ≠ x := ne_of_none upd_same hx
          have npy : p ≠ y := ne_of_none (by rw [upd_ne npx]; exact upd_same) hy
          have nxy : x ≠ y := ne_of_none upd_same hy
          have hmk : mergeK [] [(Sum.inr l, V.ref x), (Sum.inr r, V.ref y)] = [(Sum.inr l, V.ref x), (Sum.inr r, V.ref y)] := mergeK_nod _ [] (by
            simp only [List.nil_append, List.map_cons, List.map_nil]
            exact List.nodup_cons.mpr ⟨fun z => hlr (Sum.inr.inj (List.mem_singleton.mp z)), List.nodup_cons.mpr ⟨List.not_mem_nil, .nil⟩⟩)
          rw [hmk]
          refine k2 et p x y _ (fun b o e => ?_) (s2.free hp) upd_same ?_ ?_
          · have e := s2 _ _ e
            have n1 : b ≠ p := ne_of_none e hp
            have n2 : b ≠ x := ne_of_none (by rw [upd_ne n1]; exact e) hx
            have n3 : b ≠ y := ne_of_none (by rw [upd_ne n2, upd_ne n1]; exact e) hy
            rw [upd_ne n1, upd_ne n3, upd_ne n2, upd_ne n1]
            exact e
          · rw [upd_ne npx.symm, upd_ne nxy, upd_same]
            rfl
          · rw [upd_ne npy.symm, upd_same]
            rfl
theorem ok_joined_spans (T : Txt K mg base) : FnOk P w K mg base (L2.CX P w) 3 T.f_joined_spans T.fd_joined_spans ["spans", "left", "right", "name"] (sp_join12 K T.C_NotNeighbours) := by
  refine T.F_joined_spans.okX sc_joined_spans (fun vs H Q E h => ?_) (fun cdv A outer s H vs Q E hr h => ?_)
  · obtain ⟨d, rs, l, r, n, rfl, _⟩ := h
    rfl
  · obtain ⟨d, rs, l, r, n, rfl, hd, hok, hnd, hl, hr', k1, k2⟩ := h
    refine ⟨_, (pss_cons (ps_asg (pe_dget (hu_of hr) (pv 0) (pv 1) (fun _ _ => rfl)) (pg_tup rfl (pgs_cons (pg_name (i := 4) sc_joined_spans.nd rfl (Or.inl rfl)) (pgs_cons (pg_name (i := 5) sc_joined_spans.nd rfl (Or.inl rfl)) pgs_nil))))
        (pss_cons (ps_asg (pe_dget (hu_of hr) (pv 0) (pv 2) (fun _ _ => rfl)) (pg_tup rfl (pgs_cons (pg_name (i := 6) sc_joined_spans.nd rfl (Or.inl rfl)) (pgs_cons (pg_name (i := 7) sc_joined_spans.nd rfl (Or.inl rfl)) pgs_nil))))
        (pss_cons (ps_if (PW.pt (pw_or (pt_cmpR op_isN (pv 5) pe_non (nomark _)) (pw_or1 (pt_cmpR op_ne (pv 5) (pv 6) (nomark _))))) (pss_one (ps_raise rfl (takes_of rfl rfl rfl rfl) (pmk_oex T.x_NotNeighbours T.i_NotNeighbours T.t_NotNeighbours (ok_NotNeighbours_init T) hr T.b_NotNeighbours_init .nil pass0 rfl T.g_NotNeighbours (pa_cons (pv 2) pa_nil)))) pss_nil)
        (pss_one (ps_ret (pe_disp (pps_cons (pv 3) (pe_tup (pa_cons (pv 4) (pa_cons (pv 7) pa_nil))) pps_nil) (by rfl) (by rfl) (fun z => by cases z) (by decide))))))), ?_⟩
    have r2s : (2 : Nat) ≤ sizeLine := by decide
    have hv1 := valR hl
    have hv2 := valR hr'
    rw [spL_row hnd hl, spL_row hnd hr'] at k1 k2
    obtain ⟨ha1, _, _⟩ := hok _ (rowOf_mem hl).1
    obtain ⟨ha2, _, _⟩ := hok _ (rowOf_mem hr').1
    generalize rowOf rs l = r1 at *
    generalize rowOf rs r = r2 at *
    obtain ⟨nm1, a1, lo, en⟩ := r1
    obtain ⟨nm2, a2, st, hi⟩ := r2
    have ha1 : SqT K H a1 (spV (lo, en)) := ha1
    have ha2 : SqT K H a2 (spV (st, hi)) := ha2
    refine ⟨_, rfl, _, rfl, d, _, rfl, .inl ⟨rs.map rKV, .inr l, .of hd, rfl, hv1.symm⟩, a1, _, rfl, ha1, rfl, _, _, rfl, _, _, rfl, rfl, ?_⟩
    refine ⟨_, rfl, _, rfl, d, _, rfl, .inl ⟨rs.map rKV, .inr r, .of hd, rfl, hv2.symm⟩, a2, _, rfl, ha2, rfl, _, _, rfl, _, _, rfl, rfl, ?_⟩
    have et : ∀ {b : Bool}, touchB (lo, en) (st, hi) = b → (b = false → Rz H E T.C_NotNeighbours "name" (.str r)) ∧ (b = true → ∀ p x, H p = none → p ≠ x → (upd H p (.dK [])) x = none → Q (.ref p) (upd (upd (upd H p (.dK [])) x (.tup [limV lo, limV hi])) p (.dK [(.inr n, .ref x)]))) := fun {b} e => by
      refine ⟨fun z => k1 (e.trans z), fun z p x hp npx hx => k2 (e.trans z) p x _ (fun b o e => ?_) hp upd_same (by rw [upd_ne npx.symm, upd_same]; rfl)⟩
      have n1 : b ≠ p := ne_of_none e hp
      have n2 : b ≠ x := ne_of_none (by rw [upd_ne n1]; exact e) hx
      rw [upd_ne n1, upd_ne n2, upd_ne n1]
      exact e
    refine ⟨_, rfl, rfl, _, rfl, ?_⟩
    cases en with
    | none => exact iteT (iteT ⟨_, rfl, raise_x T.x_NotNeighbours T.n_NotNeighbours ((et (b := false) rfl).1 rfl)⟩)
    | some m =>
      refine iteF ⟨_, rfl, _, rfl, by cases st <;> rfl, _, rfl, ?_⟩
      cases st with
      | none => exact iteT ⟨_, rfl, raise_x T.x_NotNeighbours T.n_NotNeighbours ((et (b := false) rfl).1 rfl)⟩
      | some m' =>
        by_cases q : m = m'
        · refine iteFe (by rw [q]; simp [limV]) fun p hp => ⟨_, rfl, _, rfl, _, rfl, r2s, fun x hx => ⟨?_, [(.inr n, .ref x)], rfl, (by show 1 ≤ 15; decide), ?_⟩⟩
          · rw [upd_ne (ne_of_none upd_same hx)]
            exact upd_same
          · exact (et (b := true) (decide_eq_true q)).2 rfl p x hp (ne_of_none upd_same hx) hx
        · refine iteTe (by simp [limV, q]) ⟨_, rfl, raise_x T.x_NotNeighbours T.n_NotNeighbours ((et (b := false) (decide_eq_false q)).1 rfl)⟩
theorem ok_new_spans (T : Txt K mg base) : FnOk P w K mg base (L2.CX P w) 8 T.f_new_spans T.fd_new_spans ["spans", "change"] (sp_nsp K (C12 T)) := by
  refine T.F_new_spans.okX sc_new_spans (fun vs H Q E h => ?_) (fun cdv A outer s H vs Q E hr h => ?_)
  · obtain ⟨d, w, rs, c, rfl, _⟩ := h
    rfl
  · obtain ⟨d, w, rs, c, rfl, hd, hok, hnd, hpw, hw, hc, ho, k1, k2⟩ := h
    refine ⟨_, (pss_cons (ps_asg (pv 1) (pg_tupS (n := 2) (i := 1) rfl (pgs_cons (pg_name (i := 2) sc_new_spans.nd rfl (Or.inl rfl)) (pgs_star (pg_name (i := 3) sc_new_spans.nd rfl (Or.inl rfl)) pgs_nil))))
        (pss_cons (ps_if (pt_cmpR op_eq (pv 2) pe_str (nomark _)) (pss_one (ps_ret pe_dnewK)) pss_nil)
        (pss_cons (ps_if (pt_cmpR op_eq (pv 2) pe_str (nomark _)) (pss_one (ps_ret (StX.pe_callS2 ((ok_split_spans T).raw T.b_split_spans .nil) (hr.mono (by decide)) T.F_split_spans.kp rfl T.m_split_spans (passC (takes_of rfl rfl rfl rfl)) (pa_cons (pv 0) (StX.pa_star (pv 3) pa_nil))))) pss_nil)
        (pss_cons (ps_if (pt_cmpR op_eq (pv 2) pe_str (nomark _)) (pss_one (ps_ret (StX.pe_callS2 ((ok_joined_spans T).raw T.b_joined_spans .nil) (hr.mono (by decide)) T.F_joined_spans.kp rfl T.m_joined_spans (passC (takes_of rfl rfl rfl rfl)) (pa_cons (pv 0) (StX.pa_star (pv 3) pa_nil))))) pss_nil)
        (pss_cons (ps_asg (pv 3) (pg_lst rfl (pgs_cons (pg_name (i := 4) sc_new_spans.nd rfl (Or.inl rfl)) (pgs_cons (pg_name (i := 5) sc_new_spans.nd rfl (Or.inl rfl)) pgs_nil))))
        (pss_cons (ps_set (i := 6) sc_new_spans.nd rfl (Or.inl rfl) (pe_call (ok_first_meeting T) hr rfl T.m_first_meeting T.F_first_meeting.kp T.b_first_meeting .nil (passC (takes_of rfl rfl rfl rfl)) (pa_cons (pv 0) (pa_cons (pv 5) pa_nil))))
        (pss_cons (ps_if (pt_cmpR op_notN (pv 6) pe_non (nomark _)) (pss_one (ps_raise rfl (takes_of rfl rfl rfl rfl) (pmk_oex T.x_Overlap T.i_Overlap T.t_Overlap (ok_Overlap_init T) (hr.mono (by decide)) T.b_Overlap_init .nil pass0 rfl T.g_Overlap (pa_cons (pv 6) pa_nil)))) pss_nil)
        (pss_one (ps_ret (pe_disp (pps_cons (pv 4) (pv 5) pps_nil) (by rfl) (by rfl) (fun z => by cases z) (by decide))))))))))), ?_⟩
    obtain ⟨wa, rfl, hT, hsp⟩ := hw
    cases c with
    | hang n a s =>
      have hT : SqT K H wa (.str "hang" :: [.str n, .ref a]) := hT
      have ha := hsp n a s rfl
      refine ⟨_, rfl, wa, _, rfl, hT, (by show 2 ≤ 4; decide), fun q hq => ?_⟩
      rw [(star1 (.str "hang") [.str n, .ref a] q).1, (star1 (.str "hang") [.str n, .ref a] q).2]
      have s1 := same_new (o := .lst [.str n, .ref a]) hq
      have hqq : (upd H q (.lst [.str n, .ref a])) q = some (.lst [.str n, .ref a]) := upd_same
      generalize upd H q (.lst [.str n, .ref a]) = H1 at s1 hqq
      refine ⟨_, _, rfl, _, _, rfl, rfl, _, rfl, rfl, _, rfl, iteFe (by decide +kernel) ⟨_, rfl, rfl, _, rfl, iteFe (by decide +kernel) ⟨_, rfl, rfl, _, rfl, iteFe (by decide +kernel) ?_⟩⟩⟩
      refine ⟨_, rfl, q, _, rfl, SqL.of hqq, rfl, _, _, rfl, _, _, rfl, rfl, ?_⟩
      refine ⟨_, rfl, _, rfl, d, a, rs, s, rfl, s1 _ _ hd, hok.mono s1, hnd, same_t s1 ha, hc.2, fun H2 s2 => ⟨_, rfl, rfl, _, rfl, ?_⟩⟩
      have s12 := s1.trans s2
      have ho := over12 (s := s) hpw (fun r hr' => (hok r hr').2.1) hc.2
      cases ef : rs.find? fun r => meetB r.2.2 s with
      | some r =>
        rw [ef] at ho
        have er : shE (rs.map nsr) (.hang n a s) = some (3, .str r.1) := by
          show (overL (rs.map nsr) s).head?.map _ = _
          rw [← ho]
          rfl
        exact iteT ⟨_, rfl, raise_x T.x_Overlap T.n_Overlap ((k1 _ er).back s12)⟩
      | none =>
        rw [ef] at ho
        have er : shE (rs.map nsr) (.hang n a s) = none := by
          show (overL (rs.map nsr) s).head?.map _ = _
          rw [← ho]
          rfl
        refine iteF fun p hp => ⟨_, rfl, _, rfl, upd_same, [(.inr n, .ref a)], rfl, (by show 1 ≤ 15; decide), ?_⟩
        rw [upd_upd]
        have s3 := s12.trans (same_new (o := .dK (mergeK [] [(Sum.inr n, V.ref a)])) hp)
        exact k2 er p [(n, a, s)] _ s3 (s12.free hp) upd_same (fun r hr' => by
          rw [List.mem_singleton.mp hr']
          exact ⟨same_t s3 ha, hc.2, hc.1⟩) rfl
    | take n =>
      have hT : SqT K H wa (.str "take" :: [.str n]) := hT
      refine ⟨_, rfl, wa, _, rfl, hT, (by show 2 ≤ 3; decide), fun q hq => ?_⟩
      rw [(star1 (.str "take") [.str n] q).1, (star1 (.str "take") [.str n] q).2]
      have s1 := same_new (o := .lst [.str n]) hq
      refine ⟨_, _, rfl, _, _, rfl, rfl, _, rfl, rfl, _, rfl, iteTe (by decide +kernel) fun p hp => ?_⟩
      exact k2 rfl p [] _ (s1.trans (same_new hp)) (s1.free hp) upd_same (fun r hr' => by cases hr') rfl
    | split n z l r =>
      have hT : SqT K H wa (.str "split" :: [.str n, .int z, .str l, .str r]) := hT
      refine ⟨_, rfl, wa, _, rfl, hT, (by show 2 ≤ 6; decide), fun q hq => ?_⟩
      rw [(star1 (.str "split") [.str n, .int z, .str l, .str r] q).1, (star1 (.str "split") [.str n, .int z, .str l, .str r] q).2]
      have s1 := same_new (o := .lst [.str n, .int z, .str l, .str r]) hq
      have hqq : (upd H q (.lst [.str n, .int z, .str l, .str r])) q = some (.lst [.str n, .int z, .str l, .str r]) := upd_same
      generalize upd H q (.lst [.str n, .int z, .str l, .str r]) = H1 at s1 hqq
      refine ⟨_, _, rfl, _, _, rfl, rfl, _, rfl, rfl, _, rfl, iteFe (by decide +kernel) ⟨_, rfl, rfl, _, rfl, iteTe (by decide +kernel) ?_⟩⟩
      refine ⟨_, rfl, _, rfl, q, _, rfl, .inr (SqL.of hqq), d, rs, n, z, l, r, rfl, s1 _ _ hd, hok.mono s1, hnd, ho n List.mem_cons_self, hc.2.2.2.2.2, fun e => ?_, fun e d' a b H' s' f1 f2 f3 f4 => ?_⟩
      · refine ((k1 (7, .int z) ?_)).back s1
        show (if insB (spL (rs.map nsr) n) z = true then none else some _) = _
        rw [if_neg (by rw [e]; exact Bool.false_ne_true)]
      · have er : shE (rs.map nsr) (.split n z l r) = none := by
          show (if insB (spL (rs.map nsr) n) z = true then none else some _) = _
          rw [if_pos e]
        have e' := e
        unfold insB at e'
        rw [Bool.and_eq_true] at e'
        refine k2 er d' [(l, a, ((spL (rs.map nsr) n).1, some z)), (r, b, (some z, (spL (rs.map nsr) n).2))] H' (s1.trans s') (s1.free f1) f2 (fun x hx => ?_) rfl
        rcases List.mem_cons.mp hx with rfl | hx
        · exact ⟨SqT.of f3, e'.1, hc.2.1⟩
        · rw [List.mem_singleton.mp hx]
          exact ⟨SqT.of f4, e'.2, hc.2.2.1⟩
    | join l r n =>
      have hT : SqT K H wa (.str "join" :: [.str l, .str r, .str n]) := hT
      refine ⟨_, rfl, wa, _, rfl, hT, (by show 2 ≤ 5; decide), fun q hq => ?_⟩
      rw [(star1 (.str "join") [.str l, .str r, .str n] q).1, (star1 (.str "join") [.str l, .str r, .str n] q).2]
      have s1 := same_new (o := .lst [.str l, .str r, .str n]) hq
      have hqq : (upd H q (.lst [.str l, .str r, .str n])) q = some (.lst [.str l, .str r, .str n]) := upd_same
      generalize upd H q (.lst [.str l, .str r, .str n]) = H1 at s1 hqq
      refine ⟨_, _, rfl, _, _, rfl, rfl, _, rfl, rfl, _, rfl, iteFe (by decide +kernel) ⟨_, rfl, rfl, _, rfl, iteFe (by decide +kernel) ⟨_, rfl, rfl, _, rfl, iteTe (by decide +kernel) ?_⟩⟩⟩
      have hl := ho l List.mem_cons_self
      have hr2 := ho r (List.mem_cons_of_mem _ List.mem_cons_self)
      refine ⟨_, rfl, _, rfl, q, _, rfl, .inr (SqL.of hqq), d, rs, l, r, n, rfl, s1 _ _ hd, hok.mono s1, hnd, hl, hr2, fun e => ?_, fun e d' a H' s' f1 f2 f3 => ?_⟩
      · refine ((k1 (8, .str r) ?_)).back s1
        show (if touchB (spL (rs.map nsr) l) (spL (rs.map nsr) r) = true then none else some _) = _
        rw [if_neg (by rw [e]; exact Bool.false_ne_true)]
      · have er : shE (rs.map nsr) (.join l r n) = none := by
          show (if touchB (spL (rs.map nsr) l) (spL (rs.map nsr) r) = true then none else some _) = _
          rw [if_pos e]
        refine k2 er d' [(n, a, ((spL (rs.map nsr) l).1, (spL (rs.map nsr) r).2))] H' (s1.trans s') (s1.free f1) f2 (fun x hx => ?_) rfl
        rw [List.mem_singleton.mp hx]
        refine ⟨SqT.of f3, ?_, hc.2.2.1⟩
        have g1 := (hok _ (rowOf_mem hl).1).2.1
        have g2 := (hok _ (rowOf_mem hr2).1).2.1
        rw [← spL_row hnd hl] at g1
        rw [← spL_row hnd hr2] at g2
        exact joined_ok g1 g2 e
theorem ok_changed (T : Txt K mg base) : FnOk P w K mg base (L2.CX P w) 11 T.f_changed T.fd_changed ["catalog", "change"] (sp_changed K T.C_Catalog (C12 T) T.pt_all_stretches) := by
  refine T.F_changed.okX sc_changed (fun vs H Q E h => ?_) (fun cdv A outer s H vs Q E hr h => ?_)
  · obtain ⟨v, w, cv, co, rfl, _⟩ := h
    rfl
  · obtain ⟨v, w, cv, co, rfl, hv, hw, hT, k1, k2⟩ := h
    refine ⟨_, (pss_cons (ps_expr (pe_call (ok_require_catalog T) (hr.mono (by decide)) rfl T.m_require_catalog T.F_require_catalog.kp T.b_require_catalog .nil (passC (takes_of rfl rfl rfl rfl)) (pa_cons (pv 0) pa_nil)))
        (pss_cons (ps_asg (pe_call (ok_roles T) (hr.mono (by decide)) rfl T.m_roles T.F_roles.kp T.b_roles .nil (passC (takes_of rfl rfl rfl rfl)) (pa_cons (pv 1) pa_nil)) (pg_tup rfl (pgs_cons (pg_name (i := 2) sc_changed.nd rfl (Or.inr rfl)) (pgs_cons (pg_name (i := 3) sc_changed.nd rfl (Or.inl rfl)) pgs_nil))))
        (pss_cons (ps_set (i := 4) sc_changed.nd rfl (Or.inr rfl) (pe_call (ok_spans_of T) (hr.mono (by decide)) rfl T.m_spans_of T.F_spans_of.kp T.b_spans_of .nil (passC (takes_of rfl rfl rfl rfl)) (pa_cons (pv 0) pa_nil)))
        (pss_cons (ps_for (passes_of rfl) rfl (pi_list (pv 2)) (pg_name (i := 5) sc_changed.nd rfl (Or.inl rfl))
          (pss_one (ps_if (pt_cmp (pc_dnotin (hu_of hr) (pv 5) (pv 4))) (pss_one (ps_raise rfl (takes_of rfl rfl rfl rfl) (pmk_oex T.x_UnknownPart T.i_UnknownPart T.t_UnknownPart (ok_UnknownPart_init T) (hr.mono (by decide)) T.b_UnknownPart_init .nil pass0 rfl T.g_UnknownPart (pa_cons (pv 5) pa_nil)))) pss_nil)))
        (pss_cons (ps_for (passes_of rfl) rfl (pi_list (pv 3)) (pg_name (i := 5) sc_changed.nd rfl (Or.inl rfl))
          (pss_one (ps_if (pt_cmpR (op_inI (ok_Catalog_contains T) (hr.mono (by decide)) T.b_Catalog_contains T.me_Catalog_contains.at_ T.me_Catalog_contains.fn pass0) (pv 5) (pv 0) (by rfl)) (pss_one (ps_raise rfl (takes_of rfl rfl rfl rfl) (pmk_oex T.x_NameTaken T.i_NameTaken T.t_NameTaken (ok_NameTaken_init T) (hr.mono (by decide)) T.b_NameTaken_init .nil pass0 rfl T.g_NameTaken (pa_cons (pv 5) pa_nil)))) pss_nil)))
        (pss_cons (ps_lock (ps_setDc (i := 6) (own := [("name", 5)]) (g := gName 5) rfl sc_changed.nd rfl rfl (sw_trueD rfl rfl rfl (by decide +kernel)) (pi_keys (pv 4)) (blkOk_by (own := [("name", 5)]) (N := ["catalog", "change", "old", "new", "spans", "name", "kept", "hung"]) (sc := defScope s_changed) (by decide +kernel)) (fun _ _ _ _ _ => (pg_name (i := 5) sc_changed.nd rfl (Or.inl rfl))) (fun _ _ _ _ _ => (pts_one (pt_cmpR (r := rIn K true) op_notIn_seq (pv 5) (pv 2) (by rfl)))) (fun _ _ _ _ _ => (pv 5)) (fun _ _ _ _ _ => (pe_dget (hu_of hr) (pv 4) (pv 5) (fun _ _ => rfl)))))
        (pss_cons (ps_set (i := 7) sc_changed.nd rfl (Or.inl rfl) (pe_call (ok_new_spans T) (hr.mono (by decide)) rfl T.m_new_spans T.F_new_spans.kp T.b_new_spans .nil (passC (takes_of rfl rfl rfl rfl)) (pa_cons (pv 4) (pa_cons (pv 1) pa_nil))))
        (pss_one (ps_ret (pe_makeKS T.mk_Catalog (ok_Catalog_init T) hr rfl T.g_Catalog T.kb_Catalog_init_2_rest (passAt_of (passC (takes_of rfl rfl rfl rfl))) (pa_cons (pe_dmerge (pv 6) (pv 7)) pa_nil) (pk_cons (pe_prop (pv 0) T.cl_Catalog T.pr_Catalog_rest (ok_Catalog_rest T) (hr.mono (by decide)) T.b_Catalog_rest .nil pass0 rfl) pk_nil))))))))))), ?_⟩
    refine ⟨_, rfl, v, cv, rfl, hv, fun e1 H1 s1 => ?_, fun e => ?_⟩
    rotate_left
    · subst e
      exact k1 (9, v) rfl
    obtain ⟨o, hvd, fw, hch, hds⟩ := hw.vd
    refine ⟨_, rfl, w, o, rfl, hvd.mono s1, fw, fun e2 => ?_, fun ds eo hcd => ?_⟩
    · rw [e2] at hch
      cases co with
      | some c => cases hch
      | none =>
        cases cv with
        | none => cases e1
        | some q => exact (k1 (10, w) rfl).back s1
    cases co with
    | none =>
      have : chO o = false := hch
      rw [eo] at this
      rw [show chO (some (.tuple ds)) = true from hcd] at this
      cases this
    | some c =>
    have e3 := hds c rfl
    rw [eo] at e3
    obtain rfl : ds = c.ds := by injection e3 with e3; injection e3
    rw [Chg.roleD]
    obtain ⟨hwc, hc⟩ : ChgAt K H w c ∧ c.ok := by
      cases hw with
      | chg a b => exact ⟨a, b⟩
    clear hds hch fw hvd eo hcd e3 hw
    cases hv with
    | no a => cases e1
    | cat hcat G hl =>
    rename_i x rs rt
    have hnd : (rs.map (·.1)).Nodup := by
      have := G.nd1
      rwa [nmsL_rows] at this
    have pL := sortR_nsr hnd
    have hchE := chE_perm pL G.nd1 rt c
    have G' := G.perm pL
    have kx : ∀ q, chE ((sortR rs).map nsr) rt c = some q → Ex12 H E (C12 T) q := fun q e => k1 q (hchE.trans e)
    have kn : chE ((sortR rs).map nsr) rt c = none → Made K T.C_Catalog T.pt_all_stretches H Q rs rt c := fun e => k2 rs rt c rfl rfl (hchE.trans e)
    clear k1 k2 e1
    have hsn : ((sortR rs).map (·.1)).Nodup := by
      rw [sortR_names]
      exact srt_nodup hnd
    have hl60 : (sortR rs).length ≤ 8 := by
      rw [sortR_len]
      rw [nmsL_rows, List.length_append, List.length_map] at hl
      omega
    have hnL : nmsL ((sortR rs).map nsr) = (sortR rs).map (·.1) := nmsL_rows _
    intro p l1 l2 H2 s2 hp0 hl10 hl20 hp hl1 hl2
    have hl1 : H2 l1 = some (.lst (c.old.map V.str)) := hl1
    have hl2 : H2 l2 = some (.lst (c.new.map V.str)) := hl2
    refine ⟨p, _, rfl, SqT.of hp, rfl, _, _, rfl, _, _, rfl, rfl, ?_⟩
    have s12 := s1.trans s2
    refine ⟨_, rfl, x, rs, rt, rfl, hcat.mono s12, G, hl, fun d H3 s3 hd0 hd => ?_⟩
    have s13 := s12.trans s3
    have hl13 := s3 _ _ hl1
    have hl23 := s3 _ _ hl2
    have hd0H : H d = none := s12.free hd0
    have hl1H : H l1 = none := s1.free hl10
    have hl2H : H l2 = none := s1.free hl20
    have hcat3 := hcat.mono s13
    have hwc3 := hwc.mono s13
    clear s2 s3 s12 hp hp0 hl1 hl2 hd0 hl10 hl20 s1
    generalize hH3 : H3 = HH at *
    clear hH3
    -- the old parts
    refine ⟨_, rfl, l1, rfl, ⟨_, SqL.of hl13⟩, for_list (K := K) (a := l1) (xs := c.old.map V.str) (fun i σ H' => ∃ v5, σ = [some (.ref x), some w, some (.ref l1), some (.ref l2), some (.ref d), v5, none, none] ∧ Same HH H' ∧ ∀ j, j < i → ∀ n, c.old[j]? = some n → n ∈ (sortR rs).map (·.1)) ⟨none, rfl, Same.refl _, fun j hj => absurd hj (Nat.not_lt_zero _)⟩ (fun i σ H' _ ⟨_, _, s, _⟩ => SqL.of (s _ _ hl13)) ?_ ?_⟩
    · rintro i y σ H4 hy ⟨v5, rfl, s4, hin⟩
      rw [List.getElem?_map] at hy
      obtain ⟨n, hn, rfl⟩ := Option.map_eq_some_iff.mp hy
      refine ⟨_, rfl, _, rfl, d, _, rfl, DGet.k (k := .inr n) (s4 _ _ hd), _, rfl, ?_⟩
      by_cases im : n ∈ (sortR rs).map (·.1)
      · rw [valR im]
        refine iteF ⟨_, rfl, s4, fun j hj m hm => ?_⟩
        rcases Nat.lt_succ_iff_lt_or_eq.mp hj with q | rfl
        · exact hin j q m hm
        · rw [hn] at hm
          cases hm
          exact im
      · rw [valR_none im]
        refine iteT ⟨_, rfl, raise_x T.x_UnknownPart T.n_UnknownPart ((kx (6, .str n) (chE_old ?_)).back (s13.trans s4))⟩
        exact find_first hn (by rw [hnL, decide_eq_false im]; rfl) fun j hj m hm => by rw [hnL, decide_eq_true (hin j hj m hm)]; rfl
    rintro σ H4 ⟨v5, rfl, s4, hin⟩
    rw [List.length_map] at hin
    have ho : oldE ((sortR rs).map nsr) c = none := find_no fun j hj m hm => by rw [hnL, decide_eq_true (hin j hj m hm)]; rfl
    -- the new parts
    have s14 := s13.trans s4
    have hl24 := s4 _ _ hl23
    refine ⟨_, rfl, l2, rfl, ⟨_, SqL.of hl24⟩, for_list (K := K) (a := l2) (xs := c.new.map V.str) (fun i σ H' => ∃ v5, σ = [some (.ref x), some w, some (.ref l1), some (.ref l2), some (.ref d), v5, none, none] ∧ Same H4 H' ∧ ∀ j, j < i → ∀ n, c.new[j]? = some n → n ∉ nmsC rs rt) ⟨_, rfl, Same.refl _, fun j hj => absurd hj (Nat.not_lt_zero _)⟩ (fun i σ H' _ ⟨_, _, s, _⟩ => SqL.of (s _ _ hl24)) ?_ ?_⟩
    · rintro i y σ H5 hy ⟨v5, rfl, s5, hin2⟩
      rw [List.getElem?_map] at hy
      obtain ⟨n, hn, rfl⟩ := Option.map_eq_some_iff.mp hy
      have hcat5 := hcat3.mono (s4.trans s5)
      obtain ⟨dx, d0, l0, p0, xs0, g1, g2⟩ := id hcat5
      have hnn := Chg.new_ok hc n (List.mem_of_getElem? hn)
      refine ⟨_, rfl, _, rfl, x, dx, _, rfl, g1, x, .str n, some (.str n), rs, rt, rfl, vd_key (k := .inr n) ⟨by have := nameC_len hnn; omega, nameC_ok hnn⟩, hcat5, G.nmsC, _, rfl, _, rfl, ?_⟩
      have hmem : n ∈ nmsC rs rt ↔ n ∈ nmsL ((sortR rs).map nsr) ++ rt.toList := by
        unfold nmsC
        rw [srt_mem, hnL, sortR_names, List.mem_append, List.mem_append, srt_mem]
      by_cases im : n ∈ nmsC rs rt
      · refine iteTe (show inO (nmsC rs rt) (some (.str n)) = true from decide_eq_true im) ⟨_, rfl, raise_x T.x_NameTaken T.n_NameTaken ((kx (4, .str n) (chE_new ho ?_)).back (s14.trans s5))⟩
        refine find_first hn (decide_eq_true (hmem.mp im)) fun j hj m hm => decide_eq_false fun z => hin2 j hj m hm ?_
        unfold nmsC
        rw [hnL, sortR_names, List.mem_append, srt_mem] at z
        rw [srt_mem, List.mem_append]
        exact z
      · refine iteFe (show inO (nmsC rs rt) (some (.str n)) = false from decide_eq_false im) ⟨_, rfl, s5, fun j hj m hm => ?_⟩
        rcases Nat.lt_succ_iff_lt_or_eq.mp hj with q | rfl
        · exact hin2 j q m hm
        · rw [hn] at hm
          cases hm
          exact im
    rintro σ H5 ⟨v5', rfl, s5, hin2⟩
    rw [List.length_map] at hin2
    have hne : newE ((sortR rs).map nsr) rt c = none := find_no fun j hj m hm => decide_eq_false fun z => hin2 j hj m hm (by
      unfold nmsC
      rw [hnL, sortR_names, List.mem_append, srt_mem] at z
      rw [srt_mem, List.mem_append]
      exact z)
    have s15 := s14.trans s5
    have s45 := s4.trans s5
    have hd5 := s45 _ _ hd
    have hl15 := s45 _ _ hl13
    have hcat5 := hcat3.mono s45
    have hwc5 := hwc3.mono s45
    clear hin hin2 s4 s5 s13 s14 hl23 hl24 hd hl13 hcat3 hwc3
    -- the parts that stay
    refine ⟨d, _, hd5, trivial, fun od => ⟨_, rfl, d, od, rfl, .inl ⟨_, upd_same, fun D hD => ?_⟩⟩⟩
    have ndD : d ≠ D := ne_of_none upd_same hD
    have hl1L : (upd H5 d (.frz od (.dK ((sortR rs).map rKV)))) l1 = some (.lst (c.old.map V.str)) := by
      rw [upd_ne (ne_of hl15 hd5 (by intro z; cases z))]
      exact hl15
    refine dc_it walk_keys (fun i H' => Same (upd H5 d (.frz od (.dK ((sortR rs).map rKV)))) H' ∧ H' D = some (.dK ((keptR ((sortR rs).take i) c).map rKV))) ⟨fun b o e => by rw [upd_ne (ne_of_none e hD)]; exact e, upd_same⟩ (fun i H' _ z => z.1 _ _ upd_same) ?_ ?_
    · rintro i y H6 H7 hi ⟨s6, hD6⟩ ⟨rfl, k0, v0, hk, rfl⟩
      rw [List.getElem?_map] at hk
      obtain ⟨r, hr1, e4⟩ := Option.map_eq_some_iff.mp hk
      have e4 : (Sum.inr r.1, V.ref r.2.1) = (k0, v0) := e4
      injection e4 with e4 e5
      subst e4 e5
      have hm := List.mem_of_getElem? hr1
      have stp := keptR_step (c := c) hr1
      refine ⟨rfl, _, rfl, _, rfl, l1, _, rfl, .inl (SqL.of (s6 _ _ hl1L)), rfl, flat_strs _, _, rfl, ?_⟩
      by_cases im : r.1 ∈ c.old
      · refine iteFe (by show (!inV (.str r.1) (c.old.map V.str)) = false; rw [in_strs, decide_eq_true im]; rfl) ⟨s6, ?_⟩
        rw [stp, decide_eq_true im, if_pos rfl, List.append_nil]
        exact hD6
      · refine iteTe (by show (!inV (.str r.1) (c.old.map V.str)) = true; rw [in_strs, decide_eq_false im]; rfl) ⟨_, rfl, _, rfl, _, rfl, d, .ref r.2.1, rfl, .inl ⟨(sortR rs).map rKV, .inr r.1, .inr ⟨od, s6 _ _ upd_same⟩, rfl, ?_⟩, (keptR ((sortR rs).take i) c).map rKV, .inr r.1, rfl, hD6, ?_, ?_, ?_⟩
        · rw [valR (List.mem_map.mpr ⟨r, hm, rfl⟩), rowOf_self hsn r hm]
        · rw [List.length_map]
          have h1 := (keptR_sub ((sortR rs).take i) c).length_le
          have h2 := List.length_take_le' i (sortR rs)
          exact Nat.lt_of_le_of_lt (show _ ≤ 8 by omega) (by decide)
        · intro b o e
          rw [upd_ne (ne_of_none e hD)]
          exact s6 _ _ e
        · rw [upd_same, stp, decide_eq_false im, if_neg Bool.false_ne_true, putK_new _ (valR_none fun z => nd_at hsn hr1 ?_), List.map_append]
          · rfl
          · obtain ⟨q, hq, e7⟩ := List.mem_map.mp z
            exact List.mem_map.mpr ⟨q, (keptR_sub _ _).subset hq, e7⟩
    rintro H6 ⟨s6, hD6⟩
    rw [List.length_map, List.take_of_length_le (Nat.le_refl _)] at hD6
    refine ⟨s6 _ _ upd_same, ?_⟩
    have s7 := unlock hd5 s6
    have hD7 : (upd H6 d (.dK ((sortR rs).map rKV))) D = some (.dK ((keptR (sortR rs) c).map rKV)) := by
      rw [upd_ne ndD.symm]
      exact hD6
    have hd7 : (upd H6 d (.dK ((sortR rs).map rKV))) d = some (.dK ((sortR rs).map rKV)) := upd_same
    generalize upd H6 d (.dK ((sortR rs).map rKV)) = H7 at s7 hD7 hd7
    have s17 := s15.trans s7
    have hcat7 := hcat5.mono s7
    have hwc7 := hwc5.mono s7
    have hok7 : RowsOk K H7 (sortR rs) := by
      obtain ⟨_, _, _, _, _, _, _, _, _, h5⟩ := hcat7
      exact sortR_ok h5
    clear s6 hD6 hl1L hl15 hd5 hD s15 hcat5 hwc5
    -- the new spans
    refine ⟨_, rfl, _, rfl, d, w, sortR rs, c, rfl, hd7, hok7, hsn, by rw [sortR_names]; exact srt_pw _, hwc7, hc, fun n hn => ?_, fun q e => ?_, fun e d' hs H8 s8 hd'0 hd' hok8 hnsr => ?_⟩
    · have := oldE_none ho n hn
      rwa [hnL] at this
    · exact (kx q (chE_sh ho hne e)).back s17
    have s18 := s17.trans s8
    have hD8 := s8 _ _ hD7
    have hcat8 := hcat7.mono s8
    have hokS := hok7.mono s8
    obtain ⟨dx, d0, l0, p0, xs0, g1, g2⟩ := id hcat8
    have nDd' : D ≠ d' := ne_of_none hD7 hd'0
    have hlk := (keptR_sub (sortR rs) c).length_le
    have hlh : hs.length ≤ 2 := by
      have h1 := congrArg List.length hnsr
      have h2 := congrArg List.length (hung_names ((sortR rs).map nsr) c)
      have h3 := new_len c
      unfold nmsL at h2
      rw [List.length_map] at h1 h2
      omega
    have eAll : (keptR (sortR rs) c ++ hs).map nsr = nextL ((sortR rs).map nsr) c := by
      rw [List.map_append, keptR_nsr, hnsr]
      rfl
    have GN := G'.next hc ho hne
    have hokN : RowsOk K H8 (keptR (sortR rs) c ++ hs) := fun r hr' => by
      rcases List.mem_append.mp hr' with hr' | hr'
      · exact hokS r ((keptR_sub _ _).subset hr')
      · exact hok8 r hr'
    have GN := GN e
    rw [← eAll] at GN
    have hndN : ((keptR (sortR rs) c ++ hs).map (·.1)).Nodup := by
      have := GN.nd1
      rwa [nmsL_rows] at this
    have hcatN := GN.cat
    have hmany := chE_many (rt := rt) ho hne e
    rw [← eAll, ← hcatN] at hmany
    have hndK : ∀ {l : List Row}, (l.map (·.1)).Nodup → ((l.map rKV).map (·.1)).Nodup := fun {l} h => by
      rw [List.map_map]
      unfold List.Nodup at h ⊢
      rw [List.pairwise_map] at h ⊢
      exact h.imp fun h e => h (Sum.inr.inj e)
    have hmk1 : mergeK [] ((keptR (sortR rs) c).map rKV) = (keptR (sortR rs) c).map rKV := mergeK_nod _ [] (by
      rw [List.nil_append]
      exact hndK (nodup_sub (keptR_sub _ _) hsn))
    have hmk2 : mergeK ((keptR (sortR rs) c).map rKV) (hs.map rKV) = (keptR (sortR rs) c ++ hs).map rKV := by
      rw [List.map_append]
      refine mergeK_nod _ _ ?_
      rw [← List.map_append]
      exact hndK hndN
    intro m hm
    have nDm : D ≠ m := ne_of_none hD8 hm
    have nd'm : d' ≠ m := ne_of_none hd' hm
    have s9 := same_new (o := .dK []) hm
    refine ⟨_, rfl, D, _, rfl, .of (s9 _ _ hD8), upd_same, nDm, (by rw [List.length_map]; omega), ?_⟩
    rw [hmk1, upd_upd]
    have s10 := same_new (o := .dK ((keptR (sortR rs) c).map rKV)) hm
    refine ⟨_, rfl, d', _, rfl, .of (s10 _ _ hd'), upd_same, nd'm, (by rw [List.length_map]; omega), ?_⟩
    rw [hmk2, upd_upd]
    have s11 := same_new (o := .dK ((keptR (sortR rs) c ++ hs).map rKV)) hm
    have hmm : (upd H8 m (.dK ((keptR (sortR rs) c ++ hs).map rKV))) m = some (.dK ((keptR (sortR rs) c ++ hs).map rKV)) := upd_same
    generalize upd H8 m (.dK ((keptR (sortR rs) c ++ hs).map rKV)) = H9 at s11 hmm
    have s19 := s18.trans s11
    have hcat9 := hcat8.mono s11
    have g9 := s11 _ _ g1
    refine ⟨_, rfl, x, dx, _, rfl, g9, x, rs, rt, rfl, hcat9, rfl, rfl, fun x2 dx2 hx2 hdx2 ne => ?_⟩
    have sM : Same H9 (upd (upd H9 dx2 (.own x2)) x2 (.ins T.C_Catalog dx2 [])) := fun b u e => by
      rw [upd_ne (ne_of_none e hx2), upd_ne (ne_of_none e hdx2)]
      exact e
    refine cinit_rowsR (rs := keptR (sortR rs) c ++ hs) sM hx2 upd_same (sM _ _ hmm) (hokN.mono (s11.trans sM)) hndN (by rw [List.length_append]; omega) (fun s e => GN.nms s (List.mem_append_right _ (by rw [e]; exact List.mem_cons_self))) (hT.ext (s19.trans sM)) (fun q e => ?_) fun e H' ex hT' hcn => ?_
    · have hq := kx q (hmany.trans e)
      have e5 : q = (5, .int 8) := by
        rw [hcatN] at e
        split at e
        · cases e; rfl
        · cases e
      subst e5
      exact RzX.same s19 (Rz.x hq)
    · have em := hmany.trans e
      refine kn em x2 _ H' (EX.trans (.same s19) ex) hT' (hcn.back s19) ?_
      rw [eAll]
      exact (nextL_perm pL G.nd1 c).symm
theorem ok_fits (T : Txt K mg base) : FnOk P w K mg base (L2.CX P w) 12 T.f_fits T.fd_fits ["catalog", "change"] (sp_fits K T.C_Catalog (C12 T) T.pt_all_stretches) := by
  refine T.F_fits.okX sc_fits (fun vs H Q E h => ?_) (fun cdv A outer s H vs Q E hr h => ?_)
  · obtain ⟨v, w, cv, co, rfl, _⟩ := h
    rfl
  · obtain ⟨v, w, cv, co, rfl, hv, hw, hT, k1, k2⟩ := h
    refine ⟨_, (pss_cons (ps_expr (pe_call (ok_require_catalog T) (hr.mono (by decide)) rfl T.m_require_catalog T.F_require_catalog.kp T.b_require_catalog .nil (passC (takes_of rfl rfl rfl rfl)) (pa_cons (pv 0) pa_nil)))
        (pss_cons (ps_expr (pe_call (ok_require_change T) (hr.mono (by decide)) rfl T.m_require_change T.F_require_change.kp T.b_require_change .nil (passC (takes_of rfl rfl rfl rfl)) (pa_cons (pv 1) pa_nil)))
        (pss_cons (ps_try_only rfl rfl ⟨rfl, by decide, Or.inl T.g_PartsError⟩ (takes_of rfl rfl rfl rfl) (fun W pn xe tk _ => by exact (pss_one (ps_expr (pe_callS (ok_changed T) hr rfl T.m_changed T.F_changed.kp T.b_changed (fun σ => passAt tk σ) (pa_cons (pv 0) (pa_cons (pv 1) pa_nil))))))
          (fun a oe cls d pn _ _ => by exact (pss_one (ps_ret pe_bl))))
        (pss_one (ps_ret pe_bl))))), ?_⟩
    refine ⟨_, rfl, v, cv, rfl, hv, fun e1 H1 s1 => ?_, fun e => ?_⟩
    rotate_left
    · subst e
      exact k1 (.inl rfl) (9, v) rfl
    obtain ⟨o, hvd, fw, hch, hds⟩ := hw.vd
    cases cv with
    | none => cases e1
    | some cq =>
    obtain ⟨rs, rt⟩ := cq
    refine ⟨_, rfl, w, o, rfl, hvd.mono s1, fw, fun e2 H2 s2 => ?_, fun e2 => ?_⟩
    rotate_left
    · rw [e2] at hch
      cases co with
      | some c => cases hch
      | none => exact (k1 (.inr rfl) (10, w) rfl).back s1
    rw [e2] at hch
    cases co with
    | none => cases hch
    | some c =>
    have s12 := s1.trans s2
    have k2 := k2 rs rt c rfl rfl
    refine ⟨_, rfl, _, rfl, v, w, some (rs, rt), some c, rfl, hv.mono s12, hw.mono s12, hT.ext s12, fun q e d H' nd hd sm => ?_, fun rs' rt' c' f1 f2 e x' rs2 H' ex hT' hcn hp => ?_⟩
    · obtain ⟨n, z⟩ := q
      have e : chE (rs.map nsr) rt c = some (n, z) := e
      refine ⟨true, exP T (chE_le e), fun _ a ha => ?_, fun z => nomatch z⟩
      have := k2 H' (.same (s12.trans sm)) (hT.ext (s12.trans sm))
      rw [e] at this
      exact this
    · cases f1
      cases f2
      have := k2 H' (EX.trans (.same s12) ex) hT'
      rw [e] at this
      exact this
theorem ok_reverse (T : Txt K mg base) : FnOk P w K mg base (L2.CX P w) 12 T.f_reverse T.fd_reverse ["catalog", "change"] (sp_rev12 K T.C_Catalog (C12 T) T.pt_all_stretches) := by
  refine T.F_reverse.okX sc_reverse (fun vs H Q E h => ?_) (fun cdv A outer s H vs Q E hr h => ?_)
  · obtain ⟨v, w, cv, co, q, rfl, _⟩ := h
    rfl
  · obtain ⟨v, w, cv, co, q, rfl, hv, hw, hT, er, kx⟩ := h
    refine ⟨_, (pss_cons (ps_expr (pe_call (ok_changed T) hr rfl T.m_changed T.F_changed.kp T.b_changed .nil (passC (takes_of rfl rfl rfl rfl)) (pa_cons (pv 0) (pa_cons (pv 1) pa_nil))))
        (pss_cons (ps_asg (pv 1) (pg_tupS (n := 2) (i := 1) rfl (pgs_cons (pg_name (i := 2) sc_reverse.nd rfl (Or.inl rfl)) (pgs_star (pg_name (i := 3) sc_reverse.nd rfl (Or.inl rfl)) pgs_nil))))
        (pss_cons (ps_if (pt_cmpR op_eq (pv 2) pe_str (nomark _)) (pss_one (ps_ret (pe_tup (pa_cons pe_str (pa_cons (pe_ix ix_list (pv 3) pe_int (fun _ _ => rfl)) pa_nil))))) pss_nil)
        (pss_cons (ps_if (pt_cmpR op_eq (pv 2) pe_str (nomark _)) (pss_one (ps_ret (pe_tup (pa_cons pe_str (pa_cons (pe_ix ix_list (pv 3) pe_int (fun _ _ => rfl)) (pa_cons (pe_meth (pv 0) T.cl_Catalog T.me_Catalog_span (ok_Catalog_span T) (hr.mono (by decide)) T.b_Catalog_span .nil (passC (takes_of rfl rfl rfl rfl)) (pa_cons (pe_ix ix_list (pv 3) pe_int (fun _ _ => rfl)) pa_nil)) pa_nil)))))) pss_nil)
        (pss_cons (ps_if (pt_cmpR op_eq (pv 2) pe_str (nomark _)) (pss_cons (ps_asg (pv 3) (pg_lst rfl (pgs_cons (pg_name (i := 4) sc_reverse.nd rfl (Or.inl rfl)) (pgs_cons (pg_name (i := 5) sc_reverse.nd rfl (Or.inl rfl)) (pgs_cons (pg_name (i := 6) sc_reverse.nd rfl (Or.inl rfl)) (pgs_cons (pg_name (i := 7) sc_reverse.nd rfl (Or.inl rfl)) pgs_nil))))))
        (pss_one (ps_ret (pe_tup (pa_cons pe_str (pa_cons (pv 6) (pa_cons (pv 7) (pa_cons (pv 4) pa_nil)))))))) pss_nil)
        (pss_cons (ps_asg (pv 3) (pg_lst rfl (pgs_cons (pg_name (i := 6) sc_reverse.nd rfl (Or.inl rfl)) (pgs_cons (pg_name (i := 7) sc_reverse.nd rfl (Or.inl rfl)) (pgs_cons (pg_name (i := 4) sc_reverse.nd rfl (Or.inl rfl)) pgs_nil)))))
        (pss_one (ps_ret (pe_tup (pa_cons pe_str (pa_cons (pv 4) (pa_cons (pe_ix ix_list (pe_meth (pv 0) T.cl_Catalog T.me_Catalog_span (ok_Catalog_span T) (hr.mono (by decide)) T.b_Catalog_span .nil (passC (takes_of rfl rfl rfl rfl)) (pa_cons (pv 7) pa_nil)) pe_int (fun _ _ => rfl)) (pa_cons (pv 6) (pa_cons (pv 7) pa_nil)))))))))))))), ?_⟩
    refine ⟨_, rfl, _, rfl, v, w, cv, co, rfl, hv, hw, hT, fun q' e => ?_, fun rs rt c e1 e2 e3 => ?_⟩
    · rw [er] at e
      cases e
      exact kx
    · subst e1 e2
      have : chE (rs.map nsr) rt c = some q := er
      rw [e3] at this
      cases this
theorem ok_law_told (T : Txt K mg base) : FnOk P w K mg base CX0 13 T.f_law_told T.fd_law_told ["_law_way", "_law_book", "_law_deed"] (sp_ltold12 K T.C_Catalog T.pt_all_stretches) := by
  refine T.F_law_told.ok sc_law_told (fun vs H Q E h => ?_) (fun cdv A outer s H vs Q E hr h => ?_)
  · obtain ⟨way, v, w, cv, co, rfl, _⟩ := h
    rfl
  · obtain ⟨way, v, w, cv, co, rfl, hv, hw, hT, hw0, hw3, k1, k2⟩ := h
    refine ⟨_, (pss_one (ps_try_manyAs (i := 3) (n := "e") rfl rfl sc_law_told.nd rfl rfl takes0 (fun W pn xe tk _ => by exact (pss_cons (ps_if (pt_cmpR op_eq (pv 0) pe_int (nomark _)) (pss_one (ps_ret (pe_lst (pa_cons pe_str (pa_cons (pe_callS (ok_changed T) (hr.mono (by decide)) rfl T.m_changed T.F_changed.kp T.b_changed (fun σ => passAt tk σ) (pa_cons (pv 1) (pa_cons (pv 2) pa_nil))) pa_nil))))) pss_nil)
        (pss_cons (ps_if (pt_cmpR op_eq (pv 0) pe_int (nomark _)) (pss_one (ps_ret (pe_lst (pa_cons pe_str (pa_cons (pe_kw0 (g := kwg_changed_0_change_catalog) (ok_changed T) (hr.mono (by decide)) rfl T.m_changed T.F_changed.kp T.k_changed_0_change_catalog (fun σ => passAt tk σ) (pk_cons (pv 2) (pk_cons (pv 1) pk_nil))) pa_nil))))) pss_nil)
        (pss_cons (ps_if (pt_cmpR op_eq (pv 0) pe_int (nomark _)) (pss_one (ps_ret (pe_lst (pa_cons pe_str (pa_cons (pe_callS (ok_reverse T) hr rfl T.m_reverse T.F_reverse.kp T.b_reverse (fun σ => passAt tk σ) (pa_cons (pv 1) (pa_cons (pv 2) pa_nil))) pa_nil))))) pss_nil)
        (pss_one (ps_ret (pe_lst (pa_cons pe_str (pa_cons (pe_callS (ok_fits T) hr rfl T.m_fits T.F_fits.kp T.b_fits (fun σ => passAt tk σ) (pa_cons (pv 1) (pa_cons (pv 2) pa_nil))) pa_nil)))))))))
          (HdsAs.cons ⟨rfl, by decide, Or.inl T.g_InvalidCatalog⟩ (fun a oe cls d pn hz hf => by exact (pss_one (ps_ret (pe_lst (pa_cons pe_str (pa_cons (pe_xf T.y_InvalidCatalog T.n_InvalidCatalog hz hf (pv 3)) pa_nil)))))) (HdsAs.cons ⟨rfl, by decide, Or.inl T.g_InvalidChange⟩ (fun a oe cls d pn hz hf => by exact (pss_one (ps_ret (pe_lst (pa_cons pe_str (pa_cons (pe_xf T.y_InvalidChange T.n_InvalidChange hz hf (pv 3)) pa_nil)))))) (HdsAs.cons ⟨rfl, by decide, Or.inl T.g_UnknownPart⟩ (fun a oe cls d pn hz hf => by exact (pss_one (ps_ret (pe_lst (pa_cons pe_str (pa_cons (pe_xf T.y_UnknownPart T.n_UnknownPart hz hf (pv 3)) pa_nil)))))) (HdsAs.cons ⟨rfl, by decide, Or.inl T.g_NameTaken⟩ (fun a oe cls d pn hz hf => by exact (pss_one (ps_ret (pe_lst (pa_cons pe_str (pa_cons (pe_xf T.y_NameTaken T.n_NameTaken hz hf (pv 3)) pa_nil)))))) (HdsAs.cons ⟨rfl, by decide, Or.inl T.g_Overlap⟩ (fun a oe cls d pn hz hf => by exact (pss_one (ps_ret (pe_lst (pa_cons pe_str (pa_cons (pe_xf T.y_Overlap T.n_Overlap hz hf (pv 3)) pa_nil)))))) (HdsAs.cons ⟨rfl, by decide, Or.inl T.g_NotInside⟩ (fun a oe cls d pn hz hf => by exact (pss_one (ps_ret (pe_lst (pa_cons pe_str (pa_cons (pe_xf T.y_NotInside T.n_NotInside hz hf (pv 3)) pa_nil)))))) (HdsAs.cons ⟨rfl, by decide, Or.inl T.g_NotNeighbours⟩ (fun a oe cls d pn hz hf => by exact (pss_one (ps_ret (pe_lst (pa_cons pe_str (pa_cons (pe_xf T.y_NotNeighbours T.n_NotNeighbours hz hf (pv 3)) pa_nil)))))) (HdsAs.cons ⟨rfl, by decide, Or.inl T.g_TooMany⟩ (fun a oe cls d pn hz hf => by exact (pss_one (ps_ret (pe_lst (pa_cons pe_str (pa_cons (pe_xf T.y_TooMany T.n_TooMany hz hf (pv 3)) pa_nil)))))) HdsAs.nil)))))))))), ?_⟩
    have r2s : (2 : Nat) ≤ sizeLine := by decide
    have lk : ∀ (f : Str) (w : V), List.lookup f [(f, w)] = some w := fun f w => by simp [List.lookup]
    have kx : ∀ {n : Nat} {z : V} {H' : Hp}, erC v w cv co = some (n, z) → Same H H' → ∀ p, H' p = none → Q (.ref p) (upd H' p (.lst [.str (w12 n), z])) := fun {n z H'} er sm p hp' => (k1 n z er).2 _ p (.same (sm.trans (same_new hp'))) (hT.ext (sm.trans (same_new hp'))) upd_same
    have exc : ∀ (σ : L2.St), σ.length = 4 → ∀ q : Nat × V, erC v w cv co = some q → Ex12 H (WE (wManyAs K 3 (fun _ _ _ _ => False) { nx := fun _ H' => Q V.non H', rt := Q } (toldHs12 T)) σ) (C12 T) q := fun σ hσ q er => by
      obtain ⟨n, z⟩ := q
      rcases erC_le er with e | e | e | e | e | e | e | e
      all_goals subst e
      · intro d H' nd hd sm
        exact ⟨false, T.e_Overlap_InvalidCatalog, (fun q => nomatch q), fun _ => ⟨false, T.e_Overlap_InvalidChange, (fun q => nomatch q), fun _ => ⟨false, T.e_Overlap_UnknownPart, (fun q => nomatch q), fun _ => ⟨false, T.e_Overlap_NameTaken, (fun q => nomatch q), fun _ => ⟨true, T.e_Overlap_Overlap, fun _ a ha => ⟨_, List.getElem?_set_self (by omega), rfl, rfl, d, _, z, rfl, hd, lk _ z, r2s, fun p hp => kx er sm p hp⟩, fun q => nomatch q⟩⟩⟩⟩⟩
      · intro d H' nd hd sm
        exact ⟨false, T.e_NameTaken_InvalidCatalog, (fun q => nomatch q), fun _ => ⟨false, T.e_NameTaken_InvalidChange, (fun q => nomatch q), fun _ => ⟨false, T.e_NameTaken_UnknownPart, (fun q => nomatch q), fun _ => ⟨true, T.e_NameTaken_NameTaken, fun _ a ha => ⟨_, List.getElem?_set_self (by omega), rfl, rfl, d, _, z, rfl, hd, lk _ z, r2s, fun p hp => kx er sm p hp⟩, fun q => nomatch q⟩⟩⟩⟩
      · intro d H' nd hd sm
        exact ⟨false, T.e_TooMany_InvalidCatalog, (fun q => nomatch q), fun _ => ⟨false, T.e_TooMany_InvalidChange, (fun q => nomatch q), fun _ => ⟨false, T.e_TooMany_UnknownPart, (fun q => nomatch q), fun _ => ⟨false, T.e_TooMany_NameTaken, (fun q => nomatch q), fun _ => ⟨false, T.e_TooMany_Overlap, (fun q => nomatch q), fun _ => ⟨false, T.e_TooMany_NotInside, (fun q => nomatch q), fun _ => ⟨false, T.e_TooMany_NotNeighbours, (fun q => nomatch q), fun _ => ⟨true, T.e_TooMany_TooMany, fun _ a ha => ⟨_, List.getElem?_set_self (by omega), rfl, rfl, d, _, z, rfl, hd, lk _ z, r2s, fun p hp => kx er sm p hp⟩, fun q => nomatch q⟩⟩⟩⟩⟩⟩⟩⟩
      · intro d H' nd hd sm
        exact ⟨false, T.e_UnknownPart_InvalidCatalog, (fun q => nomatch q), fun _ => ⟨false, T.e_UnknownPart_InvalidChange, (fun q => nomatch q), fun _ => ⟨true, T.e_UnknownPart_UnknownPart, fun _ a ha => ⟨_, List.getElem?_set_self (by omega), rfl, rfl, d, _, z, rfl, hd, lk _ z, r2s, fun p hp => kx er sm p hp⟩, fun q => nomatch q⟩⟩⟩
      · intro d H' nd hd sm
        exact ⟨false, T.e_NotInside_InvalidCatalog, (fun q => nomatch q), fun _ => ⟨false, T.e_NotInside_InvalidChange, (fun q => nomatch q), fun _ => ⟨false, T.e_NotInside_UnknownPart, (fun q => nomatch q), fun _ => ⟨false, T.e_NotInside_NameTaken, (fun q => nomatch q), fun _ => ⟨false, T.e_NotInside_Overlap, (fun q => nomatch q), fun _ => ⟨true, T.e_NotInside_NotInside, fun _ a ha => ⟨_, List.getElem?_set_self (by omega), rfl, rfl, d, _, z, rfl, hd, lk _ z, r2s, fun p hp => kx er sm p hp⟩, fun q => nomatch q⟩⟩⟩⟩⟩⟩
      · intro d H' nd hd sm
        exact ⟨false, T.e_NotNeighbours_InvalidCatalog, (fun q => nomatch q), fun _ => ⟨false, T.e_NotNeighbours_InvalidChange, (fun q => nomatch q), fun _ => ⟨false, T.e_NotNeighbours_UnknownPart, (fun q => nomatch q), fun _ => ⟨false, T.e_NotNeighbours_NameTaken, (fun q => nomatch q), fun _ => ⟨false, T.e_NotNeighbours_Overlap, (fun q => nomatch q), fun _ => ⟨false, T.e_NotNeighbours_NotInside, (fun q => nomatch q), fun _ => ⟨true, T.e_NotNeighbours_NotNeighbours, fun _ a ha => ⟨_, List.getElem?_set_self (by omega), rfl, rfl, d, _, z, rfl, hd, lk _ z, r2s, fun p hp => kx er sm p hp⟩, fun q => nomatch q⟩⟩⟩⟩⟩⟩⟩
      · intro d H' nd hd sm
        exact ⟨true, T.e_InvalidCatalog_InvalidCatalog, fun _ a ha => ⟨_, List.getElem?_set_self (by omega), rfl, rfl, d, _, z, rfl, hd, lk _ z, r2s, fun p hp => kx er sm p hp⟩, fun q => nomatch q⟩
      · intro d H' nd hd sm
        exact ⟨false, T.e_InvalidChange_InvalidCatalog, (fun q => nomatch q), fun _ => ⟨true, T.e_InvalidChange_InvalidChange, fun _ a ha => ⟨_, List.getElem?_set_self (by omega), rfl, rfl, d, _, z, rfl, hd, lk _ z, r2s, fun p hp => kx er sm p hp⟩, fun q => nomatch q⟩⟩
    have made : ∀ {x' : Addr} {H' : Hp} {rs rs' : List Row} {rt : Option Str} {c : Chg}, cv = some (rs, rt) → co = some c → chE (rs.map nsr) rt c = none → EX [] H H' → LamX.TabS H' T.pt_all_stretches lamQ → CatNew K T.C_Catalog H H' x' rs' rt → (rs'.map nsr).Perm (nextL (rs.map nsr) c) → ∀ p, H' p = none → Q (.ref p) (upd H' p (.lst [.str "made", .ref x'])) := fun {x' H' rs rs' rt c} e1 e2 e3 ex hT' hcn hp p hfr =>
      (k2 rs rt c e1 e2 e3).2 _ p x' rs' (ex.trans (.same (same_new hfr))) (hT'.ext (same_new hfr)) upd_same (hcn.mono (same_new hfr)) hp
    refine ⟨_, rfl, rfl, _, rfl, ite2 (fun _ => ?_) fun n0 => ⟨_, rfl, rfl, _, rfl, ite2 (fun _ => ?_) fun n1 => ⟨_, rfl, rfl, _, rfl, ite2 (fun n2 => ?_) fun n2 => ?_⟩⟩⟩
    · exact ⟨_, rfl, _, rfl, v, w, cv, co, rfl, hv, hw, hT, fun q e => exc _ rfl q e, fun rs rt c e1 e2 e3 x' rs' H' ex hT' hcn hp => ⟨r2s, fun p hfr => made e1 e2 e3 ex hT' hcn hp p hfr⟩⟩
    · exact ⟨_, rfl, _, rfl, rfl, rfl, v, w, cv, co, rfl, hv, hw, hT, fun q e => exc _ rfl q e, fun rs rt c e1 e2 e3 x' rs' H' ex hT' hcn hp => ⟨r2s, fun p hfr => made e1 e2 e3 ex hT' hcn hp p hfr⟩⟩
    · have m0 : way ≠ 0 := fun e => n0 (by rw [e]; exact decide_eq_true rfl)
      have m1 : way ≠ 1 := fun e => n1 (by rw [e]; exact decide_eq_true rfl)
      cases er : erC v w cv co with
      | some q => exact ⟨_, rfl, _, rfl, v, w, cv, co, q, rfl, hv, hw, hT, er, exc _ rfl q er⟩
      | none =>
        cases cv with
        | none => cases er
        | some cq =>
          obtain ⟨rs, rt⟩ := cq
          cases co with
          | none => cases er
          | some c =>
            have := (k2 rs rt c rfl rfl er).1
            omega
    · have m0 : way ≠ 0 := fun e => n0 (by rw [e]; exact decide_eq_true rfl)
      have m1 : way ≠ 1 := fun e => n1 (by rw [e]; exact decide_eq_true rfl)
      have m2 : way ≠ 2 := fun e => n2 (by rw [e]; exact decide_eq_true rfl)
      refine ⟨_, rfl, _, rfl, v, w, cv, co, rfl, hv, hw, hT, fun _ q e => exc _ rfl q e, fun rs rt c e1 e2 H' ex hT' => ?_⟩
      subst e1 e2
      cases er : chE (rs.map nsr) rt c with
      | none =>
        have := (k2 rs rt c rfl rfl er).1
        omega
      | some q =>
        rcases (k1 q.1 q.2 er).1 (by omega) with e | e <;> cases e
theorem ok_law_meet (T : Txt K mg base) : FnOk P w K mg base CX0 1 T.f_law_meet T.fd_law_meet ["_law_one", "_law_other"] (sp_lmeet K) := by
  refine T.F_law_meet.ok sc_law_meet (fun vs H Q E h => ?_) (fun cdv A outer s H vs Q E hr h => ?_)
  · obtain ⟨a, b, s, t, rfl, _⟩ := h
    rfl
  · obtain ⟨a, b, sp, t, rfl, ha, hb, k⟩ := h
    refine ⟨_, (pss_cons (ps_for PassesOwn.never rfl (pi_list (pe_lst (pa_cons (pe_tup (pa_cons (pe_ix ix_tup (pv 0) pe_int (fun _ _ => rfl)) (pa_cons (pe_ix ix_tup (pv 1) pe_int (fun _ _ => rfl)) pa_nil))) (pa_cons (pe_tup (pa_cons (pe_ix ix_tup (pv 1) pe_int (fun _ _ => rfl)) (pa_cons (pe_ix ix_tup (pv 0) pe_int (fun _ _ => rfl)) pa_nil))) pa_nil)))) (pg_tup rfl (pgs_cons (pg_name (i := 2) sc_law_meet.nd rfl (Or.inl rfl)) (pgs_cons (pg_name (i := 3) sc_law_meet.nd rfl (Or.inl rfl)) pgs_nil)))
          (pss_one (ps_if (PW.pt (pw_and (pt_cmpR op_notN (pv 2) pe_non (nomark _)) (pw_and (pt_cmpR op_notN (pv 3) pe_non (nomark _)) (pw_and1 (pt_cmpR op_ge (pv 2) (pv 3) (nomark _)))))) (pss_one (ps_ret pe_bl)) pss_nil)))
        (pss_one (ps_ret pe_bl))), ?_⟩
    refine ⟨_, rfl, a, _, 0, limV sp.1, rfl, rfl, ha, atI_nat (j := 0) rfl, _, rfl, b, _, 1, limV t.2, rfl, rfl, hb, atI_nat (j := 1) rfl, (by show 2 ≤ sizeLine; decide), fun t1 h1 => ?_⟩
    have s1 := same_new (o := .tup [limV sp.1, limV t.2]) h1
    refine ⟨_, rfl, b, _, 0, limV t.1, rfl, rfl, same_t s1 hb, atI_nat (j := 0) rfl, _, rfl, a, _, 1, limV sp.2, rfl, rfl, same_t s1 ha, atI_nat (j := 1) rfl, (by show 2 ≤ sizeLine; decide), fun t2 h2 => ⟨(by show 2 ≤ sizeLine; decide), fun l hl => ?_⟩⟩
    have s2 := same_new (o := .tup [limV t.1, limV sp.2]) h2
    have s3 := same_new (o := .lst [.ref t1, .ref t2]) hl
    have e1 := s3 _ _ (s2 _ _ (upd_same (H := H) (a := t1) (o := .tup [limV sp.1, limV t.2])))
    have e2 := s3 _ _ (upd_same (H := upd H t1 (.tup [limV sp.1, limV t.2])) (a := t2) (o := .tup [limV t.1, limV sp.2]))
    have sA := s1.trans (s2.trans s3)
    have el : (upd (upd (upd H t1 (.tup [limV sp.1, limV t.2])) t2 (.tup [limV t.1, limV sp.2])) l (.lst [.ref t1, .ref t2])) l = some (.lst [.ref t1, .ref t2]) := upd_same
    generalize upd (upd (upd H t1 (.tup [limV sp.1, limV t.2])) t2 (.tup [limV t.1, limV sp.2])) l (.lst [.ref t1, .ref t2]) = Hl at e1 e2 sA el
    clear s1 s2 s3
    refine ⟨l, rfl, ⟨_, SqL.of el⟩, for_list (K := K) (a := l) (xs := [.ref t1, .ref t2]) (fun i σ H' => ∃ v2 v3, σ = [some (.ref a), some (.ref b), v2, v3] ∧ Same Hl H' ∧ (1 ≤ i → ok2 sp.1 t.2 = true) ∧ (2 ≤ i → ok2 t.1 sp.2 = true))
      ⟨none, none, rfl, Same.refl _, (fun h => by omega), fun h => by omega⟩ (fun i σ H' _ ⟨_, _, _, s, _⟩ => SqL.of (s _ _ el)) ?_ ?_⟩
    · rintro i x σ H4 hx ⟨v2, v3, rfl, s4, g1, g2⟩
      obtain ⟨lo, hi, tt, rfl, htt, hw⟩ : ∃ lo hi tt, x = V.ref tt ∧ Hl tt = some (.tup [limV lo, limV hi]) ∧ ((i = 0 ∧ lo = sp.1 ∧ hi = t.2) ∨ (i = 1 ∧ lo = t.1 ∧ hi = sp.2)) := by
        match i, hx with
        | 0, hx => cases hx; exact ⟨_, _, _, rfl, e1, .inl ⟨rfl, rfl, rfl⟩⟩
        | 1, hx => cases hx; exact ⟨_, _, _, rfl, e2, .inr ⟨rfl, rfl, rfl⟩⟩
      refine ⟨tt, _, rfl, SqT.of (s4 _ _ htt), rfl, _, _, rfl, _, _, rfl, rfl, ?_⟩
      have no : ok2 lo hi = false → Q (.bl false) H4 := fun h => by
        have := k H4 (sA.trans s4)
        have e : meetL sp t = false := by
          unfold meetL
          rcases hw with ⟨_, rfl, rfl⟩ | ⟨_, rfl, rfl⟩
          · rw [h, Bool.false_and]
          · rw [h, Bool.and_false]
        rw [e] at this
        exact this
      have yes : ok2 lo hi = true → (1 ≤ i + 1 → ok2 sp.1 t.2 = true) ∧ (2 ≤ i + 1 → ok2 t.1 sp.2 = true) := fun h => by
        rcases hw with ⟨rfl, rfl, rfl⟩ | ⟨rfl, rfl, rfl⟩
        · exact ⟨fun _ => h, fun z => by omega⟩
        · exact ⟨fun _ => g1 (Nat.le_refl _), fun _ => h⟩
      cases lo with
      | none => exact ⟨_, rfl, rfl, _, rfl, iteF ⟨_, _, rfl, s4, yes rfl⟩⟩
      | some lo =>
        refine ⟨_, rfl, rfl, _, rfl, iteT ?_⟩
        cases hi with
        | none => exact ⟨_, rfl, rfl, _, rfl, iteF ⟨_, _, rfl, s4, yes rfl⟩⟩
        | some hi =>
          refine ⟨_, rfl, rfl, _, rfl, iteT ⟨_, rfl, _, rfl, _, _, rfl, rfl, _, rfl, ?_⟩⟩
          by_cases h : hi ≤ lo
          · rw [decide_eq_true h]
            exact iteT (no (decide_eq_false (by omega)))
          · rw [decide_eq_false h]
            exact iteF ⟨_, _, rfl, s4, yes (decide_eq_true (by omega))⟩
    · rintro σ H4 ⟨v2, v3, rfl, s4, g1, g2⟩
      have := k H4 (sA.trans s4)
      unfold meetL at this
      rw [g1 (by show 1 ≤ 2; decide), g2 (Nat.le_refl _)] at this
      exact this
theorem ok_law_model (T : Txt K mg base) : FnOk P w K mg base CX0 4 T.f_law_model T.fd_law_model ["_law_box_here", "_law_most"] sp_lmodel := by
  refine T.F_law_model.ok sc_law_model (fun vs H Q E h => ?_) (fun cdv A outer s H vs Q E hr h => ?_)
  · obtain ⟨H0, p, n, m, rfl, _⟩ := h
    rfl
  · obtain ⟨H0, p, n, m, rfl, B, hm, hn, k⟩ := h
    refine ⟨_, (pss_cons (ps_set (i := 2) sc_law_model.nd rfl (Or.inl rfl) (pe_call (ok_law_names T) hr rfl T.m_law_names T.F_law_names.kp T.b_law_names .nil pass0 (pa_cons (pv 0) (pa_cons (pe_op op_add (pv 1) pe_int) pa_nil))))
        (pss_cons (ps_set (i := 3) sc_law_model.nd rfl (Or.inl rfl) (pe_ix ix_list (pe_lst (pa_cons pe_int (pa_cons pe_int (pa_cons (pe_op op_pow pe_int pe_int) (pa_cons (pe_op op_pow pe_int pe_int) pa_nil))))) (pe_call (ok_law_take T) (hr.mono (by decide)) rfl T.m_law_take T.F_law_take.kp T.b_law_take .nil pass0 (pa_cons (pv 0) (pa_cons pe_int pa_nil))) (fun _ _ => rfl)))
        (pss_cons (ps_set (i := 4) sc_law_model.nd rfl (Or.inl rfl) (pe_op op_mul (pe_op op_sub (pe_call (ok_law_take T) (hr.mono (by decide)) rfl T.m_law_take T.F_law_take.kp T.b_law_take .nil pass0 (pa_cons (pv 0) (pa_cons pe_int pa_nil))) pe_int) (pv 3)))
        (pss_cons (ps_set (i := 5) sc_law_model.nd rfl (Or.inl rfl) (pe_lst pa_nil))
        (pss_cons (ps_for PassesOwn.never rfl (pi_range1 rfl T.z_range (pa_cons (pe_call (ok_law_take T) (hr.mono (by decide)) rfl T.m_law_take T.F_law_take.kp T.b_law_take .nil pass0 (pa_cons (pv 0) (pa_cons (pe_op op_add (pv 1) pe_int) pa_nil))) pa_nil)) (pg_name (i := 6) sc_law_model.nd rfl (Or.inl rfl))
          (pss_cons (ps_set (i := 7) sc_law_model.nd rfl (Or.inl rfl) (pe_op op_add (pv 4) (pe_op op_mul (pe_ix ix_list (pe_lst (pa_cons pe_int (pa_cons pe_int (pa_cons (pe_op op_add pe_int (pe_call (ok_law_take T) (hr.mono (by decide)) rfl T.m_law_take T.F_law_take.kp T.b_law_take .nil pass0 (pa_cons (pv 0) (pa_cons pe_int pa_nil)))) pa_nil)))) (pe_call (ok_law_take T) (hr.mono (by decide)) rfl T.m_law_take T.F_law_take.kp T.b_law_take .nil pass0 (pa_cons (pv 0) (pa_cons pe_int pa_nil))) (fun _ _ => rfl)) (pv 3))))
        (pss_cons (ps_set (i := 4) sc_law_model.nd rfl (Or.inl rfl) (pe_op op_add (pv 7) (pe_op op_mul (pe_op op_add pe_int (pe_call (ok_law_take T) (hr.mono (by decide)) rfl T.m_law_take T.F_law_take.kp T.b_law_take .nil pass0 (pa_cons (pv 0) (pa_cons pe_int pa_nil)))) (pv 3))))
        (pss_one (ps_expr (pe_bm PySem.F.plainAttrs_list PySem.F.slot_list_append PySem.F.type_list_append mt_append (pv 5) (pa_cons (pe_lst (pa_cons (pe_ix ix_list (pv 2) (pv 6) (fun _ _ => rfl)) (pa_cons (pe_tup (pa_cons (pv 7) (pa_cons (pv 4) pa_nil))) pa_nil))) pa_nil)))))))
        (C8.pss_cut (ps_if (PW.pt (pw_and (pt_cmpR (op_neD hr.units) (pv 5) (pe_lst pa_nil) (nomark _)) (pw_and1 (pt_cmpR op_eq (pe_call (ok_law_take T) (hr.mono (by decide)) rfl T.m_law_take T.F_law_take.kp T.b_law_take .nil pass0 (pa_cons (pv 0) (pa_cons pe_int pa_nil))) pe_int (nomark _))))) (pss_one (ps_asg (pe_tup (pa_cons pe_non (pa_cons (pe_ix ix_tup (pe_ix ix_list (pe_ix ix_list (pv 5) pe_int (fun _ _ => rfl)) pe_int (fun _ _ => rfl)) pe_int (fun _ _ => rfl)) pa_nil))) (pg_sub (pe_ix ix_list (pv 5) pe_int (fun _ _ => rfl)) pe_int set_list))) pss_nil)
        (C8.pss_cut (ps_if (PW.pt (pw_and (pt_cmpR (op_neD hr.units) (pv 5) (pe_lst pa_nil) (nomark _)) (pw_and1 (pt_cmpR op_eq (pe_call (ok_law_take T) (hr.mono (by decide)) rfl T.m_law_take T.F_law_take.kp T.b_law_take .nil pass0 (pa_cons (pv 0) (pa_cons pe_int pa_nil))) pe_int (nomark _))))) (pss_one (ps_asg (pe_tup (pa_cons (pe_ix ix_tup (pe_ix ix_list (pe_ix ix_list (pv 5) (pe_un un_neg pe_int) (fun _ _ => rfl)) pe_int (fun _ _ => rfl)) pe_int (fun _ _ => rfl)) (pa_cons pe_non pa_nil))) (pg_sub (pe_ix ix_list (pv 5) (pe_un un_neg pe_int) (fun _ _ => rfl)) pe_int set_list))) pss_nil)
        (pss_cons (ps_set (i := 8) sc_law_model.nd rfl (Or.inl rfl) (pe_ix ix_list (pe_lst (pa_cons pe_non (pa_cons (pe_ix ix_list (pv 2) (pe_callB (id := "len") call_len_seq (by rfl) T.z_len (by decide +kernel) (pa_cons (pv 5) pa_nil)) (fun _ _ => rfl)) pa_nil))) (pe_call (ok_law_take T) (hr.mono (by decide)) rfl T.m_law_take T.F_law_take.kp T.b_law_take .nil pass0 (pa_cons (pv 0) (pa_cons pe_int pa_nil))) (fun _ _ => rfl)))
        (pss_one (ps_ret (pe_lst (pa_cons (pv 5) (pa_cons (pv 8) (pa_cons (pe_slice sl_list (pv 2) (po_some (pe_op op_add (pe_callB (id := "len") call_len_seq (by rfl) T.z_len (by decide +kernel) (pa_cons (pv 5) pa_nil)) pe_int)) po_none) pa_nil)))))))))))))), ?_⟩
    refine ⟨_, rfl, _, rfl, _, _, rfl, rfl, H0, p, n, m + 4, rfl, B, by omega, by omega, fun q1 H1 ss s1 q10 q1p hq1 hssl _ hnm hnd B1 => ?_⟩
    have hnmS : ∀ s ∈ ss, nameS s = true := fun s hs => (hnm s hs).1
    -- the unit
    refine ⟨_, _, rfl, rfl, ⟨by decide, by decide, by decide⟩, _, _, rfl, rfl, ⟨by decide, by decide, by decide⟩, (by show 4 ≤ sizeLine; decide), fun l1 hl1 => ?_⟩
    have B2 := B1.keep (same_new (o := .lst [.int 1, .int 1, .int (10 ^ (9 : Int).toNat), .int (10 ^ (27 : Int).toNat)]) hl1)
    have l1p : l1 ≠ p := by
      obtain ⟨_, _, _, hp, _⟩ := B1.box
      exact (ne_of_none hp hl1).symm
    have hq2 := same_new (o := .lst [.int 1, .int 1, .int (10 ^ (9 : Int).toNat), .int (10 ^ (27 : Int).toNat)]) hl1 _ _ hq1
    refine ⟨_, rfl, _, p, _, 4, rfl, B2.all.1, by omega, by decide, by decide, fun z1 H2 z10 z11 B3 => ?_⟩
    obtain ⟨v, hv, hvm⟩ := atI_in (xs := [V.int 1, .int 1, .int (10 ^ (9 : Int).toNat), .int (10 ^ (27 : Int).toNat)]) z10 z11
    obtain ⟨g, rfl, hg, hg2⟩ : ∃ g : Int, v = .int g ∧ 0 < g ∧ g ≤ 10 ^ 27 := by
      simp only [List.mem_cons, List.not_mem_nil, or_false] at hvm
      rcases hvm with rfl | rfl | rfl | rfl
      all_goals exact ⟨_, rfl, by decide, by decide⟩
    have sx3 := sxB B3
    refine ⟨l1, _, z1, _, rfl, rfl, SqL.of (sx3 _ _ (by simpa using l1p) upd_same), hv, ?_⟩
    have hq3 := sx3 _ _ (by simpa using q1p) hq2
    have B4 := B3.low B2.all.2
    clear B1 B2 B3 hq1 hq2 sx3 hv hvm hl1
    -- the first place
    refine ⟨_, rfl, _, p, _, 19, rfl, B4.all.1, by omega, by decide, by decide, fun z2 H3 z20 z21 B5 => ⟨_, _, rfl, rfl, _, rfl, _, _, rfl, rfl, .inl ⟨by omega, by omega⟩, ?_⟩⟩
    have hq4 := sxB B5 _ _ (by simpa using q1p) hq3
    have B6 := B5.low B4.all.2
    refine ⟨Nat.zero_le _, fun lr hlr => ?_⟩
    have lrp : lr ≠ p := by
      obtain ⟨_, _, _, hp, _⟩ := B6.box
      exact (ne_of_none hp hlr).symm
    have s7 := same_new (o := .lst []) hlr
    have B7 := B6.keep s7
    have hl7 : (upd H3 lr (.lst [])) lr = some (.lst []) := upd_same
    have hq7 := s7 _ _ hq4
    have lr0 : H0 lr = none := B6.same.free hlr
    have ql : q1 ≠ lr := ne_of_none hq4 hlr
    generalize upd H3 lr (.lst []) = H4 at s7 B7 hl7 hq7
    refine ⟨_, rfl, _, rfl, _, _, rfl, rfl, _, p, _, (m : Int) + 1, rfl, B7.all.1, by omega, by omega, by omega, fun zk H5 z30 z31 B8 => ?_⟩
    obtain ⟨kk, rfl⟩ := Int.eq_ofNat_of_zero_le z30
    have M5 : MdIn H0 H5 p q1 lr ss [] := MdIn.sx (sxB B8) ⟨q1p, hq7, lrp, ql, lr0, hl7, fun r hr => (List.not_mem_nil hr).elim, List.nodup_nil, rfl⟩
    have B9 := B8.low B7.all.2
    clear B4 B5 B6 B7 B8 hq3 hq4 hq7 hl7 hlr s7
    refine ⟨_, rfl, by omega, by omega, for_range (fun i σ H' => ∃ (at_ : Int) (v6 v7 : Option V) (rr : List MRow), σ = [some (.ref p), some (.int m), some (.ref q1), some (.int g), some (.int at_), some (.ref lr), v6, v7, none] ∧ BoxIn H0 H' p (n + 43 + 3 * i) ∧ MdIn H0 H' p q1 lr ss rr ∧ rr.length = i ∧ Line (rr.map (·.2.2.2)) at_ ∧ LowB (rr.map (·.2.2.2)) ((z2 - 9) * g) ∧ (z2 - 9) * g ≤ at_ ∧ at_ ≤ (z2 - 9) * g + i * (14 * g))
      ⟨_, none, none, [], rfl, B9, M5, rfl, ⟨.nil, fun s hs => (List.not_mem_nil hs).elim⟩, (fun s hs => (List.not_mem_nil hs).elim), Int.le_refl _, by simp⟩ ?_ ?_⟩
    · rintro i σ H6 hi ⟨at_, v6, v7, rr, rfl, B10, M, hrl, hline, hlow, hat1, hat2⟩
      have hi : i < kk := by omega
      refine ⟨_, rfl, _, rfl, _, p, _, 5, rfl, B10.all.1, by omega, by decide, by decide, fun za H7 za0 za1 B11 => ⟨_, _, rfl, rfl, (by show 3 ≤ sizeLine; decide), fun l hl => ?_⟩⟩
      have M7 := M.sx (sxB B11)
      have B12 := B11.low B10.all.2
      have lp : l ≠ p := by
        obtain ⟨_, _, _, hp, _⟩ := B12.box
        exact (ne_of_none hp hl).symm
      have s8 := same_new (o := .lst [.int 0, .int 0, .int (1 + za)]) hl
      have M8 := M7.sx (.of s8)
      have B13 := B12.keep s8
      have hl8 : (upd H7 l (.lst [.int 0, .int 0, .int (1 + za)])) l = some (.lst [.int 0, .int 0, .int (1 + za)]) := upd_same
      generalize upd H7 l (.lst [.int 0, .int 0, .int (1 + za)]) = H8 at s8 M8 B13 hl8
      refine ⟨_, rfl, _, p, _, 3, rfl, B13.all.1, by omega, by decide, by decide, fun zb H9 zb0 zb1 B14 => ?_⟩
      obtain ⟨v, hv, hvm⟩ := atI_in (xs := [V.int 0, .int 0, .int (1 + za)]) zb0 zb1
      obtain ⟨u, rfl, hu0, hu5⟩ : ∃ u : Int, v = .int u ∧ 0 ≤ u ∧ u ≤ 5 := by
        simp only [List.mem_cons, List.not_mem_nil, or_false] at hvm
        rcases hvm with rfl | rfl | rfl
        · exact ⟨_, rfl, by omega, by omega⟩
        · exact ⟨_, rfl, by omega, by omega⟩
        · exact ⟨_, rfl, by omega, by omega⟩
      have M9 := M8.sx (sxB B14)
      have B15 := B14.low B13.all.2
      refine ⟨l, _, zb, _, rfl, rfl, SqL.of (sxB B14 _ _ (by simpa using lp) hl8), hv, _, rfl, _, _, rfl, rfl, .inl ⟨by omega, by omega⟩, _, _, rfl, rfl, ?_⟩
      have hug : 0 ≤ u * g := Int.mul_nonneg hu0 (Int.le_of_lt hg)
      have hug5 : u * g ≤ 5 * g := Int.mul_le_mul_of_nonneg_right hu5 (Int.le_of_lt hg)
      clear B10 B11 B12 B13 B14 M M7 M8 hl8 hv hvm s8 hl
      -- the high limit
      refine ⟨_, rfl, _, rfl, _, p, _, 9, rfl, B15.all.1, by omega, by decide, by decide, fun zc H10 zc0 zc1 B16 => ⟨_, _, rfl, rfl, _, rfl, _, _, rfl, rfl, .inl ⟨by omega, by omega⟩, _, _, rfl, rfl, ?_⟩⟩
      have hcg : 0 < (1 + zc) * g := Int.mul_pos (by omega) hg
      have hcg9 : (1 + zc) * g ≤ 9 * g := Int.mul_le_mul_of_nonneg_right (by omega) (Int.le_of_lt hg)
      have M10 := M9.sx (sxB B16)
      have B17 := B16.low B15.all.2
      clear B15 B16 M9
      obtain ⟨nm, hnmi⟩ : ∃ nm, ss[i]? = some nm := ⟨_, List.getElem?_eq_getElem (by omega)⟩
      have hni : atI (ss.map V.str) (0 + (i : Int)) = some (V.str nm) := by
        rw [Int.zero_add]
        exact atI_nat (by rw [List.getElem?_map, hnmi]; rfl)
      refine ⟨_, rfl, .inl ⟨rfl, _, .inl (.inl M10.lst)⟩, _, rfl, _, rfl, q1, _, _, _, rfl, rfl, SqL.of M10.nm, hni, _, rfl, _, rfl, (by show 2 ≤ sizeLine; decide), fun t ht => ?_⟩
      have s11 := same_new (o := .tup [.int (at_ + u * g), .int (at_ + u * g + (1 + zc) * g)]) ht
      have tp : t ≠ p := by
        obtain ⟨_, _, _, hp, _⟩ := B17.box
        exact (ne_of_none hp ht).symm
      have M11 := M10.sx (.of s11)
      have B18 := B17.keep s11
      have ht11 : (upd H10 t (.tup [.int (at_ + u * g), .int (at_ + u * g + (1 + zc) * g)])) t = some (.tup [.int (at_ + u * g), .int (at_ + u * g + (1 + zc) * g)]) := upd_same
      generalize upd H10 t (.tup [.int (at_ + u * g), .int (at_ + u * g + (1 + zc) * g)]) = H11 at s11 M11 B18 ht11
      refine ⟨(by show 2 ≤ sizeLine; decide), fun r hr' => ?_⟩
      have s12 := same_new (o := .lst [.str nm, .ref t]) hr'
      have rp : r ≠ p := by
        obtain ⟨_, _, _, hp, _⟩ := B18.box
        exact (ne_of_none hp hr').symm
      have r0 : H0 r = none := B18.same.free hr'
      have rlr : r ≠ lr := (ne_of_none M11.lst hr').symm
      have rq : r ≠ q1 := (ne_of_none M11.nm hr').symm
      have rnew : ∀ x ∈ rr, x.1 ≠ r := fun x hx => ne_of_none (M11.rows x hx).1.1 hr'
      have M12 := M11.sx (.of s12)
      have B19 := B18.keep s12
      have ht12 := s12 _ _ ht11
      have hr12 : (upd H11 r (.lst [.str nm, .ref t])) r = some (.lst [.str nm, .ref t]) := upd_same
      generalize upd H11 r (.lst [.str nm, .ref t]) = H12 at s12 M12 B19 ht12 hr12
      refine ⟨lr, _, _, rfl, rfl, M12.lst, ?_, at_ + u * g + (1 + zc) * g, _, _, rr ++ [(r, nm, t, (some (at_ + u * g), some (at_ + u * g + (1 + zc) * g)))], rfl, (B19.mut lrp lr0).mono (by omega), ?_, by rw [List.length_append, List.length_singleton, hrl], ?_, ?_, by omega, ?_⟩
      · rw [List.length_map]
        exact Nat.lt_of_le_of_lt (show rr.length ≤ 100 by omega) (by decide)
      · have up : ∀ {b : Addr} {o : HO}, b ≠ lr → H12 b = some o → (upd H12 lr (.lst (rr.map (fun r => V.ref r.1) ++ [.ref r]))) b = some o := fun n e => by
          rw [upd_ne n]
          exact e
        refine ⟨M12.qp, up M12.ql M12.nm, M12.lp, M12.ql, M12.l0, by rw [upd_same, List.map_append]; rfl, fun x hx => ?_, ?_, ?_⟩
        · rcases List.mem_append.mp hx with hx | hx
          · obtain ⟨⟨a1, a2⟩, a3, a4, a5, a6, a7⟩ := M12.rows x hx
            exact ⟨⟨up a5 a1, up (ne_of a2 M12.lst (by intro z; cases z)) a2⟩, a3, a4, a5, a6, a7⟩
          · rw [List.mem_singleton.mp hx]
            exact ⟨⟨up rlr hr12, up (ne_of ht12 M12.lst (by intro z; cases z)) ht12⟩, rp, r0, rlr, tp, rq⟩
        · rw [List.map_append]
          refine List.nodup_append.mpr ⟨M12.nd, List.nodup_cons.mpr ⟨List.not_mem_nil, List.nodup_nil⟩, fun a ha b hb => ?_⟩
          obtain ⟨x, hx, rfl⟩ := List.mem_map.mp ha
          have hb : b = r := List.mem_singleton.mp hb
          rw [hb]
          exact rnew x hx
        · rw [List.map_append, List.length_append, List.length_singleton, M12.eq, List.take_add_one, hrl, hnmi]
          rfl
      · rw [List.map_append]
        exact hline.snoc (by omega) (by omega)
      · rw [List.map_append]
        intro s hs
        rcases List.mem_append.mp hs with hs | hs
        · exact hlow s hs
        · rw [List.mem_singleton.mp hs]
          exact ⟨_, rfl, by omega⟩
      · have e : ((i + 1 : Nat) : Int) * (14 * g) = (i : Int) * (14 * g) + 14 * g := by
          rw [Int.natCast_add, Int.add_mul]
          omega
        rw [e]
        omega
    · rintro σ H6 ⟨at_, v6, v7, rr, rfl, B10, M, hrl, hline, hlow, hat1, hat2⟩
      have hrl : rr.length = kk := by omega
      have hkk : (kk : Int).toNat = kk := by omega
      rw [hkk] at hat2
      have hok : SmL (rr.map (·.2.2.2)) := fun s hs => by
        obtain ⟨a, b, rfl, h1, h2⟩ := hline.2 s hs
        obtain ⟨a', e, h3⟩ := hlow _ hs
        cases e
        have k9 : kk ≤ 9 := by omega
        exact ⟨decide_eq_true h1, small_at hg hg2 z20 z21 k9 h3 (by omega), small_at hg hg2 z20 z21 k9 (by omega) (by omega)⟩
      have hch := hline.1
      have B10 := B10.mono (show n + 43 + 3 * (kk : Int).toNat ≤ n + 70 by omega)
      refine ⟨fun σ H' => ∃ (rr' : List MRow), σ = [some (.ref p), some (.int m), some (.ref q1), some (.int g), some (.int at_), some (.ref lr), v6, v7, none] ∧ BoxIn H0 H' p (n + 71) ∧ MdIn H0 H' p q1 lr ss rr' ∧ rr'.length = kk ∧ SmL (rr'.map (·.2.2.2)) ∧ Chain (rr'.map (·.2.2.2)), ⟨_, rfl, Nat.zero_le _, fun e0 he0 => ?_⟩, ?_⟩
      · have s7 := same_new (o := .lst []) he0
        have M7 := M.sx (.of s7)
        have B11 := B10.keep s7
        refine ⟨_, _, .lst (SqL.of M7.lst) (md_dp fun r hr => (M7.rows r hr).1), .lst (SqL.of upd_same) .nil, md_sh (md_names M hnmS), shaped_nil, _, rfl, ?_⟩
        rw [eqv_nil, List.isEmpty_map]
        generalize upd H6 e0 (.lst []) = H7 at s7 M7 B11
        clear s7 M B10 he0
        match rr, hrl, hok, hch, M7 with
        | [], hrl, hok, hch, M7 => exact iteF (iteF ⟨[], rfl, B11.mono (by omega), M7, hrl, hok, hch⟩)
        | r0 :: rest, hrl, hok, hch, M7 =>
          refine iteT ⟨_, rfl, _, p, _, 3, rfl, B11.all.1, by omega, by decide, by decide, fun z H8 z0 z1' B12 => ⟨rfl, _, rfl, ?_⟩⟩
          have M8 := M7.sx (sxB B12)
          have B13 := B12.low B11.all.2
          refine ite2 (fun _ => ?_) fun _ => ⟨_, rfl, B13, M8, hrl, hok, hch⟩
          obtain ⟨⟨a1, a2⟩, a3, a4, a5, a6, a7⟩ := M8.rows r0 List.mem_cons_self
          refine ⟨_, rfl, lr, _, 0, .ref r0.1, rfl, rfl, SqL.of M8.lst, atI_nat (j := 0) rfl, r0.1, _, 1, .ref r0.2.2.1, rfl, rfl, SqL.of a1, atI_nat (j := 1) rfl, r0.2.2.1, _, 1, limV r0.2.2.2.2, rfl, rfl, SqT.of a2, atI_nat (j := 1) rfl, (by show 2 ≤ sizeLine; decide), fun t ht => ?_⟩
          have tp : t ≠ p := by
            obtain ⟨_, _, _, hp, _⟩ := B13.box
            exact (ne_of_none hp ht).symm
          have s9 := same_new (o := .tup (spV (none, r0.2.2.2.2))) ht
          have M9 := M8.sx (.of s9)
          have B14 := B13.keep s9
          have MR := MdIn.rep (pre := []) (s' := (none, r0.2.2.2.2)) M8 ht tp
          refine ⟨_, rfl, lr, _, 0, .ref r0.1, rfl, rfl, SqL.of M9.lst, atI_nat (j := 0) rfl, r0.1, _, 1, 1, rfl, rfl, s9 _ _ a1, rfl, (r0.1, r0.2.1, t, (none, r0.2.2.2.2)) :: rest, rfl, B14.mut a3 a4, MR, hrl, fun s hs => ?_, chain_head hch rfl⟩
          rcases List.mem_cons.mp hs with hs | hs
          · rw [hs]
            exact ⟨rfl, trivial, (hok _ List.mem_cons_self).2.2⟩
          · exact hok s (List.mem_cons_of_mem _ hs)
      rintro σ H7 ⟨rr1, rfl, B11, M7, hrl1, hok1, hch1⟩
      clear B10 M hrl hline hok hch B9 M5
      refine ⟨fun σ H' => ∃ (rr' : List MRow), σ = [some (.ref p), some (.int m), some (.ref q1), some (.int g), some (.int at_), some (.ref lr), v6, v7, none] ∧ BoxIn H0 H' p (n + 72) ∧ MdIn H0 H' p q1 lr ss rr' ∧ rr'.length = kk ∧ SmL (rr'.map (·.2.2.2)) ∧ Chain (rr'.map (·.2.2.2)), ⟨_, rfl, Nat.zero_le _, fun e0 he0 => ?_⟩, ?_⟩
      · have s7 := same_new (o := .lst []) he0
        have M8 := M7.sx (.of s7)
        have B12 := B11.keep s7
        refine ⟨_, _, .lst (SqL.of M8.lst) (md_dp fun r hr => (M8.rows r hr).1), .lst (SqL.of upd_same) .nil, md_sh (md_names M7 hnmS), shaped_nil, _, rfl, ?_⟩
        rw [eqv_nil, List.isEmpty_map]
        generalize upd H7 e0 (.lst []) = H8 at s7 M8 B12
        clear s7 M7 B11 he0
        rcases List.eq_nil_or_concat rr1 with rfl | ⟨rest, r0, rfl⟩
        · exact iteF (iteF ⟨[], rfl, B12.mono (by omega), M8, hrl1, hok1, hch1⟩)
        · rw [List.concat_eq_append] at hrl1 hok1 hch1 M8 ⊢
          have hne : (rest ++ [r0]).isEmpty = false := by cases rest <;> rfl
          rw [hne]
          refine iteT ⟨_, rfl, _, p, _, 3, rfl, B12.all.1, by omega, by decide, by decide, fun z H9 z0 z1' B13 => ⟨rfl, _, rfl, ?_⟩⟩
          have M9 := M8.sx (sxB B13)
          have B14 := B13.low B12.all.2
          refine ite2 (fun _ => ?_) fun _ => ⟨_, rfl, B14, M9, hrl1, hok1, hch1⟩
          obtain ⟨⟨a1, a2⟩, a3, a4, a5, a6, a7⟩ := M9.rows r0 (List.mem_append_right _ List.mem_cons_self)
          have hlast : ∀ {H' : Hp}, atI ((rest ++ [r0]).map fun r => V.ref r.1) (-1) = some (V.ref r0.1) := by
            rw [List.map_append]
            exact atI_last _ _
          refine ⟨_, rfl, _, rfl, lr, _, _, .ref r0.1, rfl, rfl, SqL.of M9.lst, hlast (H' := H9), r0.1, _, 1, .ref r0.2.2.1, rfl, rfl, SqL.of a1, atI_nat (j := 1) rfl, r0.2.2.1, _, 0, limV r0.2.2.2.1, rfl, rfl, SqT.of a2, atI_nat (j := 0) rfl, (by show 2 ≤ sizeLine; decide), fun t ht => ?_⟩
          have tp : t ≠ p := by
            obtain ⟨_, _, _, hp, _⟩ := B14.box
            exact (ne_of_none hp ht).symm
          have s9 := same_new (o := .tup (spV (r0.2.2.2.1, none))) ht
          have M10 := M9.sx (.of s9)
          have B15 := B14.keep s9
          have MR := MdIn.rep (pre := rest) (post := []) (s' := (r0.2.2.2.1, none)) M9 ht tp
          refine ⟨_, rfl, _, rfl, lr, _, _, .ref r0.1, rfl, rfl, SqL.of M10.lst, hlast (H' := H9), r0.1, _, 1, 1, rfl, rfl, s9 _ _ a1, rfl, rest ++ [(r0.1, r0.2.1, t, (r0.2.2.2.1, none))], rfl, B15.mut a3 a4, MR, ?_, fun s hs => ?_, ?_⟩
          · rw [List.length_append, List.length_singleton] at hrl1 ⊢
            exact hrl1
          · rw [List.map_append] at hs hok1
            rcases List.mem_append.mp hs with hs | hs
            · exact hok1 s (List.mem_append_left _ hs)
            · rw [List.mem_singleton.mp hs]
              refine ⟨?_, (hok1 _ (List.mem_append_right _ List.mem_cons_self)).2.1, trivial⟩
              show okS (r0.2.2.2.1, none) = true
              cases r0.2.2.2.1 <;> rfl
          · rw [List.map_append] at hch1 ⊢
            exact chain_last hch1 rfl
      rintro σ H8 ⟨rr2, rfl, B12, M8, hrl2, hok2, hch2⟩
      clear B11 M7 hrl1 hok1 hch1
      obtain ⟨nm, hnmi⟩ : ∃ nm, ss[kk]? = some nm := ⟨_, List.getElem?_eq_getElem (by omega)⟩
      have hkl : kk < ss.length := (List.getElem?_eq_some_iff.mp hnmi).1
      have lpM := M8.lp
      have hnk : atI (ss.map V.str) (kk : Int) = some (V.str nm) := atI_nat (by rw [List.getElem?_map, hnmi]; rfl)
      refine ⟨_, rfl, _, rfl, lr, _, rfl, .inl (SqL.of M8.lst), q1, _, _, .str nm, rfl, rfl, SqL.of M8.nm, ?_, (by show 2 ≤ sizeLine; decide), fun l hl => ?_⟩
      · rw [List.length_map, hrl2]
        exact hnk
      have lp : l ≠ p := by
        obtain ⟨_, _, _, hp, _⟩ := B12.box
        exact (ne_of_none hp hl).symm
      have s8 := same_new (o := .lst [V.non, .str nm]) hl
      have M9 := M8.sx (.of s8)
      have B13 := B12.keep s8
      have hl8 : (upd H8 l (.lst [V.non, .str nm])) l = some (.lst [V.non, .str nm]) := upd_same
      generalize upd H8 l (.lst [V.non, .str nm]) = H9 at s8 M9 B13 hl8
      refine ⟨_, rfl, _, p, _, 2, rfl, B13.all.1, by omega, by decide, by decide, fun z H10 z0 z1' B14 => ?_⟩
      obtain ⟨v, hv, hvm⟩ := atI_in (xs := [V.non, .str nm]) z0 z1'
      obtain ⟨rt, rfl, hrt⟩ : ∃ rt : Option Str, v = rvO rt ∧ (rt = none ∨ rt = some nm) := by
        simp only [List.mem_cons, List.not_mem_nil, or_false] at hvm
        rcases hvm with rfl | rfl
        · exact ⟨none, rfl, .inl rfl⟩
        · exact ⟨some nm, rfl, .inr rfl⟩
      have M10 := M9.sx (sxB B14)
      have B15 := B14.low B13.all.2
      refine ⟨l, _, z, _, rfl, rfl, SqL.of (sxB B14 _ _ (by simpa using lp) hl8), hv, _, rfl, _, rfl, _, rfl, _, rfl, lr, _, rfl, .inl (SqL.of M10.lst), _, _, rfl, rfl, _, rfl, q1, _, rfl, SqL.of M10.nm, fun ll hll => ?_⟩
      have ecut : cutV (ss.map V.str) (some (((rr2.map fun r => V.ref r.1).length : Int) + 1)) none = (ss.drop (kk + 1)).map V.str := by
        rw [List.length_map, hrl2]
        have := cut_dropV (ss.map V.str) (i := kk + 1) (by rw [List.length_map]; omega)
        rw [List.map_drop, ← this]
        rfl
      rw [ecut]
      have s11 := same_new (o := .lst ((ss.drop (kk + 1)).map V.str)) hll
      have M11 := M10.sx (.of s11)
      have B16 := B15.keep s11
      have hll1 : (upd H10 ll (.lst ((ss.drop (kk + 1)).map V.str))) ll = some (.lst ((ss.drop (kk + 1)).map V.str)) := upd_same
      have llp : ll ≠ p := by
        obtain ⟨_, _, _, hp, _⟩ := B15.box
        exact (ne_of_none hp hll).symm
      generalize upd H10 ll (.lst ((ss.drop (kk + 1)).map V.str)) = H11 at s11 M11 B16 hll1
      refine ⟨(by show 3 ≤ sizeLine; decide), fun q hq => ?_⟩
      have s12 := same_new (o := .lst [.ref lr, rvO rt, .ref ll]) hq
      have M12 := M11.sx (.of s12)
      have B17 := B16.keep s12
      have qp : q ≠ p := by
        obtain ⟨_, _, _, hp, _⟩ := B16.box
        exact (ne_of_none hp hq).symm
      have hq1 : (upd H11 q (.lst [.ref lr, rvO rt, .ref ll])) q = some (.lst [.ref lr, rvO rt, .ref ll]) := upd_same
      have hll2 := s12 _ _ hll1
      generalize upd H11 q (.lst [.ref lr, rvO rt, .ref ll]) = H12 at s12 M12 B17 hq1 hll2
      have hspl : ss = ss.take kk ++ (nm :: ss.drop (kk + 1)) := by
        conv => lhs; rw [← List.take_append_drop kk ss, List.drop_eq_getElem_cons hkl]
        rw [(List.getElem?_eq_some_iff.mp hnmi).2]
      have hsub : (rr2.map (·.2.1) ++ (rt.toList ++ ss.drop (kk + 1))).Sublist ss := by
        rw [M12.eq, hrl2]
        conv => rhs; rw [hspl]
        refine List.Sublist.append (List.Sublist.refl _) ?_
        rcases hrt with rfl | rfl
        · exact List.sublist_cons_self _ _
        · exact List.Sublist.refl _
      refine k (but H12 p) H12 q rr2 rt (ss.drop (kk + 1)) B17.all.2 (B17.all.1.mono (by omega)) ⟨⟨lr, ll, ?_, ?_, ?_⟩, fun r hr => ?_, fun r hr => ?_, hch2, fun s hs => hnmS s (hsub.subset hs), hnd.sublist hsub⟩ (by omega) ?_ ⟨hok2, fun s hs => (hnm s (hsub.subset hs)).2.2⟩
      · rw [but_ne qp]; exact hq1
      · rw [but_ne lpM]; exact M12.lst
      · rw [but_ne llp]; exact hll2
      · obtain ⟨⟨a1, a2⟩, a3, a4, a5, a6, a7⟩ := M12.rows r hr
        exact ⟨by rw [but_ne a3]; exact a1, by rw [but_ne a6]; exact a2⟩
      · exact (hok2 _ (List.mem_map.mpr ⟨r, hr, rfl⟩)).1
      · rw [List.length_drop]
        omega
theorem ok_law_all_names (T : Txt K mg base) : FnOk P w K mg base CX0 1 T.f_law_all_names T.fd_law_all_names ["_law_model_here"] sp_lall6 := by
  refine T.F_law_all_names.ok sc_law_all_names (fun vs H Q E h => ?_) (fun cdv A outer s H vs Q E hr h => ?_)
  · obtain ⟨q, rr, rt, rfl, _⟩ := h
    rfl
  · obtain ⟨q, rr, rt, rfl, M, hl, k⟩ := h
    refine ⟨_, (pss_one (ps_ret (pe_callB (id := "sorted") cr_sortedS (by rfl) T.z_sorted (by decide +kernel) (pa_cons (pe_op op_cat (pe_lc (own := [("_law_name", 1), ("_law_span", 2)]) (g := gLst K 2 (gCons (gName 1) (gCons (gName 2) gNil))) (tt := tYes) rfl sc_law_all_names.nd (pi_list (pe_ix ix_list (pv 0) pe_int (fun _ _ => rfl))) (blkOk_by (own := [("_law_name", 1), ("_law_span", 2)]) (N := ["_law_model_here", "_law_name", "_law_span"]) (sc := defScope s_law_all_names) (by decide +kernel)) (fun _ _ _ _ _ => (pg_lst rfl (pgs_cons (pg_name (i := 1) sc_law_all_names.nd rfl (Or.inl rfl)) (pgs_cons (pg_name (i := 2) sc_law_all_names.nd rfl (Or.inl rfl)) pgs_nil)))) (fun _ _ _ _ _ => pts_nil) (fun _ _ _ _ _ => (pv 1))) (pe_lc (own := [("_law_name", 1)]) (g := gName 1) rfl sc_law_all_names.nd (pi_list (pe_lst (pa_cons (pe_ix ix_list (pv 0) pe_int (fun _ _ => rfl)) pa_nil))) (blkOk_by (own := [("_law_name", 1)]) (N := ["_law_model_here", "_law_name", "_law_span"]) (sc := defScope s_law_all_names) (by decide +kernel)) (fun _ _ _ _ _ => (pg_name (i := 1) sc_law_all_names.nd rfl (Or.inl rfl))) (fun _ _ _ _ _ => (pts_one (pt_cmpR op_notN (pv 1) pe_non (nomark _)))) (fun _ _ _ _ _ => (pv 1)))) pa_nil)))), ?_⟩
    obtain ⟨⟨lr, ys, hq, hlr⟩, hrows⟩ := M
    refine ⟨_, rfl, q, _, 0, .ref lr, rfl, rfl, SqL.of hq, atI_nat (j := 0) rfl, lr, rfl, ⟨_, SqL.of hlr⟩, fun D hD => ?_⟩
    refine lc_acc walk_list hD (fun H' s => SqL.of (s _ _ hlr)) (fun j => (rr.take j).map fun r => V.str r.2.1) rfl (fun j _ => ?_) ?_ ?_
    · rw [List.length_map]
      exact Nat.lt_of_le_of_lt (Nat.le_trans (List.length_take_le' _ _) hl) (by decide)
    · rintro j x H1 hj hx s1 R S r1 r2
      rw [List.getElem?_map] at hx
      obtain ⟨r, hr1, rfl⟩ := Option.map_eq_some_iff.mp hx
      have hr2 := s1 _ _ (hrows r (List.mem_of_getElem? hr1)).1
      refine ⟨r.1, _, rfl, SqL.of hr2, rfl, _, _, rfl, _, _, rfl, rfl, ?_⟩
      exact ⟨rfl, tyes (te := tVar 1) ⟨_, rfl, r1 _ _ (by rw [List.take_add_one, hr1]; simp) (Same.refl _)⟩⟩
    · intro H1 s1 hD1
      have hD1 : H1 D = some (.lst (rr.map fun r => V.str r.2.1)) := by
        rw [hD1, List.length_map, List.take_of_length_le (Nat.le_refl _)]
      refine ⟨_, rfl, q, _, 1, rvO rt, rfl, rfl, SqL.of (s1 _ _ hq), atI_nat (j := 1) rfl, (by show 1 ≤ sizeLine; decide), fun g hg => ⟨g, rfl, ⟨_, SqL.of upd_same⟩, fun D2 hD2 => ?_⟩⟩
      have s2 := same_new (o := .lst [rvO rt]) hg
      refine lc_acc walk_list hD2 (fun H' s => SqL.of (s _ _ upd_same)) (fun j => ([rvO rt].take j).filter fun v => !decide (v = V.non)) rfl (fun j _ => ?_) ?_ ?_
      · refine Nat.lt_of_le_of_lt (List.length_filter_le _ _) (Nat.lt_of_le_of_lt (by rw [List.length_take]; exact Nat.min_le_right _ _) (by show 1 < sizeLine; decide))
      · rintro j x H8 hj hx s9 R S r1 r2
        have hx : [rvO rt][j]? = some x := hx
        refine ⟨rfl, _, rfl, rfl, _, rfl, ?_⟩
        cases e : decide (x = V.non) with
        | true => exact iteF (r2 _ (by rw [List.take_add_one, hx]; simp [e]) (Same.refl _))
        | false => exact iteT ⟨_, rfl, r1 _ _ (by rw [List.take_add_one, hx]; simp [e]) (Same.refl _)⟩
      · intro H8 s9 hl8
        have el : (([rvO rt].take 1).filter fun v => !decide (v = V.non)) = rt.toList.map V.str := by
          cases rt <;> rfl
        have hl8 : H8 D2 = some (.lst (rt.toList.map V.str)) := by
          rw [← el]
          exact hl8
        have s10 := s2.trans s9
        have sH := s1.trans s10
        have hlen2 : (rr.map fun r => V.str r.2.1).length + (rt.toList.map V.str).length ≤ 51 := by
          rw [List.length_map, List.length_map]
          cases rt <;> simp <;> omega
        refine ⟨D, D2, _, _, rfl, rfl, s10 _ _ hD1, hl8, Nat.le_trans hlen2 (by decide), fun g2 hg2 => ?_⟩
        have e2 : (rr.map fun r => V.str r.2.1) ++ rt.toList.map V.str = (namesM rr rt).map V.str := by
          unfold namesM
          rw [List.map_append, List.map_map]
          rfl
        rw [e2]
        have s11 := same_new (o := .lst ((namesM rr rt).map V.str)) hg2
        refine ⟨g2, namesM rr rt, rfl, SqL.of upd_same, ?_, fun ys p hperm hs hp => ?_⟩
        · unfold namesM
          rw [List.length_map, List.length_map] at hlen2
          rw [List.length_append, List.length_map]
          omega
        · obtain rfl := srt_eq hperm hs
          exact k _ p (sH.trans (s11.trans (same_new hp))) ((sH.trans s11).free hp) upd_same
theorem ok_law_catalog (T : Txt K mg base) : FnOk P w K mg base CX0 11 T.f_law_catalog T.fd_law_catalog ["_law_box_here", "_law_model_here"] (sp_lcatG K T.C_Catalog T.pt_all_stretches) := by
  refine T.F_law_catalog.ok sc_law_catalog (fun vs H Q E h => ?_) (fun cdv A outer s H vs Q E hr h => ?_)
  · obtain ⟨p, n, q, rr, rt, rfl, _⟩ := h
    rfl
  · obtain ⟨p, n, q, rr, rt, rfl, S, M, G, hn, k⟩ := h
    refine ⟨_, (pss_one (ps_ret (pe_makeKS T.mk_Catalog (ok_Catalog_init T) hr rfl T.g_Catalog T.kb_Catalog_init_2_rest (passAt_of passL) (pa_cons (pe_callTy (T := "dict") (call_dictP rfl) (by rfl) T.z_dict (by decide +kernel) (pa_cons (pe_call (ok_law_mixed T) (hr.mono (by decide)) rfl T.m_law_mixed T.F_law_mixed.kp T.b_law_mixed .nil pass0 (pa_cons (pv 0) (pa_cons (pe_lc (own := [("_law_row", 2)]) (g := gName 2) (tt := tYes) rfl sc_law_catalog.nd (pi_list (pe_ix ix_list (pv 1) pe_int (fun _ _ => rfl))) (blkOk_by (own := [("_law_row", 2)]) (N := ["_law_box_here", "_law_model_here", "_law_row"]) (sc := defScope s_law_catalog) (by decide +kernel)) (fun _ _ _ _ _ => (pg_name (i := 2) sc_law_catalog.nd rfl (Or.inl rfl))) (fun _ _ _ _ _ => pts_nil) (fun _ _ _ _ _ => (pe_callTy (T := "tuple") (r := rTupOfN K) call_tuple_of (by rfl) T.z_tuple (by decide +kernel) (pa_cons (pv 2) pa_nil)))) pa_nil))) pa_nil)) pa_nil) (pk_cons (pe_ix ix_list (pv 1) pe_int (fun _ _ => rfl)) pk_nil)))), ?_⟩
    obtain ⟨⟨lr, yy, hq, hlr⟩, hrows⟩ := id M
    have hl := rr_len G.len
    have le := nb_le H p
    have hq1 := le _ _ hq
    have hlr1 := le _ _ hlr
    have hnd1 := G.ndM
    refine ⟨_, rfl, _, rfl, q, _, 0, .ref lr, rfl, rfl, SqL.of hq1, atI_nat (j := 0) rfl, lr, rfl, ⟨_, SqL.of hlr1⟩, fun D hD => ?_⟩
    have Dp_ : D ≠ p := S.ne hD
    refine lc_it walk_list (fun j H' => ∃ ts : List Addr, Same H H' ∧ H' D = some (.lst (ts.map V.ref)) ∧ ts.length = j ∧ PySem.Paired (fun a (r : Row) => H' a = some (.tup [.str r.1, .ref r.2.1])) ts ((rowsM rr).take j)) ⟨[], same_new hD, upd_same, rfl, .nil⟩ (fun j H' _ ⟨ts, s, _⟩ => SqL.of (s _ _ hlr1)) ?_ ?_
    · rintro j x H1 H2 hj ⟨ts, s1, hD1, htl, hts⟩ hy
      obtain ⟨rfl, hx⟩ := hy
      have hx : (rr.map fun r => V.ref r.1)[j]? = some x := hx
      rw [List.getElem?_map] at hx
      obtain ⟨r, hr', rfl⟩ := Option.map_eq_some_iff.mp hx
      have hrm : r ∈ rr := List.mem_of_getElem? hr'
      obtain ⟨hr1, hr2⟩ := hrows r hrm
      have hri : (rowsM rr)[j]? = some (r.2.1, r.2.2.1, r.2.2.2) := by
        unfold rowsM
        rw [List.getElem?_map, hr']
        rfl
      refine ⟨rfl, tyes ⟨_, rfl, r.1, _, rfl, .inl ⟨SqL.of (s1 _ _ (le _ _ hr1)), fun t ht => ?_⟩⟩⟩
      have ntD : t ≠ D := (ne_of_none hD1 ht).symm
      have s2 := same_new (o := .tup [.str r.2.1, .ref r.2.2.1]) ht
      refine ⟨_, by rw [upd_ne ntD.symm]; exact hD1, ?_, ts ++ [t], fun b o e => ?_, by rw [upd_same, List.map_append]; rfl, by rw [List.length_append, htl]; rfl, ?_⟩
      · have hj : j < (rr.map fun r => V.ref r.1).length := hj
        rw [List.length_map] at hj ⊢
        exact Nat.lt_of_le_of_lt (show ts.length ≤ 100 by omega) (by decide)
      · rw [upd_ne (ne_of_none e hD)]
        exact s2 _ _ (s1 _ _ e)
      · rw [List.take_add_one, hri]
        refine paired_snoc (by rw [upd_ne ntD, upd_same]) (paired_imp (fun a r e => ?_) hts)
        rw [upd_ne (ne_of e hD1 (by intro z; cases z))]
        exact s2 _ _ e
    · rintro H1 ⟨ts, s1, hD1, htl, hts⟩
      rw [List.length_map] at htl hts
      have hts : PySem.Paired (fun a (r : Row) => H1 a = some (.tup [.str r.1, .ref r.2.1])) ts (rowsM rr) := by
        rw [List.take_of_length_le (by unfold rowsM; rw [List.length_map]; exact Nat.le_refl _)] at hts
        exact hts
      have S1 := S.keep s1
      have B1 := S1.box.in_
      refine ⟨but H1 p, p, D, n, _, rfl, B1, hD1, by rw [List.length_map]; omega, by rw [List.length_map]; omega, fun q2 H2 ys s2 hq20 hq2p hq2 hperm B2 => ?_⟩
      rw [List.length_map] at B2
      have S2 := S1.after B2
      have ex2 := ex_of B2
      have hys : ys = (ys.map refA).map V.ref := by
        rw [List.map_map]
        refine ((List.map_congr_left fun y hy => ?_).trans (List.map_id _)).symm
        obtain ⟨a, _, rfl⟩ := List.mem_map.mp (hperm.mem_iff.mp hy)
        rfl
      have hpA : (ys.map refA).Perm ts := by
        refine (hperm.map refA).trans (List.Perm.of_eq ?_)
        rw [List.map_map]
        exact List.map_id _
      generalize ys.map refA = ts2 at hys hpA
      subst hys
      have boxH1 := S1.box
      have hts2 : PySem.Paired (fun a (r : Row) => H2 a = some (.tup [.str r.1, .ref r.2.1])) ts (rowsM rr) := paired_imp (fun a r e => by
        obtain ⟨_, _, _, hp, _⟩ := boxH1
        exact ex2 _ _ (by simpa using ne_of e hp (by intro z; cases z)) e fun ps z => by cases z) hts
      obtain ⟨rs, hprs, hpm⟩ := paired_perm hpA hts2
      have hnd2 : (rs.map (·.1)).Nodup := (hpm.map _).nodup_iff.mpr hnd1
      have hpp : PySem.Paired (fun (a : Addr) (kv : Key × V) => SqT K H2 a [kV kv.1, kv.2]) ts2 (rs.map rKV) := by
        clear hpA hpm hnd2 hperm hq2
        induction hprs with
        | nil => exact .nil
        | cons a _ ih => exact .cons (SqT.of a) ih
      have hmk : mergeK [] (rs.map rKV) = rs.map rKV := by
        refine mergeK_nod _ [] ?_
        rw [List.nil_append, List.map_map]
        unfold List.Nodup at hnd2 ⊢
        rw [List.pairwise_map] at hnd2 ⊢
        exact hnd2.imp fun h e => h (Sum.inr.inj e)
      refine ⟨q2, ts2, rs.map rKV, rfl, SqL.of hq2, hpp, fun d hd => ?_⟩
      rw [hmk]
      have s3 := same_new (o := .dK (rs.map rKV)) hd
      have S3 := S2.keep s3
      have hd3 : (upd H2 d (.dK (rs.map rKV))) d = some (.dK (rs.map rKV)) := upd_same
      have exA : EX [p] H (upd H2 d (.dK (rs.map rKV))) := fun b o nb' e t => s3 _ _ (ex2 b o nb' (s1 _ _ e) t)
      generalize upd H2 d (.dK (rs.map rKV)) = H3 at s3 S3 hd3 exA
      have sn := nb_ex exA
      have M3 := M.mono sn
      have le3 := nb_le H3 p
      clear hts hts2 hprs hpp hmk hq2 hperm B2 B1 S1 S2 ex2 s1 s3 hD1
      obtain ⟨⟨lr', yy', hq3, _⟩, hrows3⟩ := id M3
      refine ⟨_, rfl, q, _, 1, rvO rt, rfl, rfl, SqL.of (le3 _ _ hq3), atI_nat (j := 1) rfl, rfl, rfl, fun x dx hx hdx ne => ?_⟩
      have sM : Same H3 (upd (upd H3 dx (.own x)) x (.ins T.C_Catalog dx [])) := fun b u e => by
        rw [upd_ne (ne_of_none e hx), upd_ne (ne_of_none e hdx)]
        exact e
      have hp3 : ∃ o, H3 p = some o := by
        obtain ⟨_, _, _, hp, _⟩ := S3.box
        exact ⟨_, hp⟩
      have hlenR : rs.length = rr.length := by
        rw [hpm.length_eq]
        unfold rowsM
        rw [List.length_map]
      refine cinit_rowsR sM hx upd_same (sM _ _ hd3) (fun r hr' => ?_) hnd2 (by omega) (fun s e => (G.rest s e).1) (S3.tab.ext sM) (fun z er => ?_) fun er H4 ex4 hT4 hcn => ?_
      · obtain ⟨m, hm, rfl⟩ := List.mem_map.mp (hpm.mem_iff.mp hr')
        exact ⟨SqT.of (sM _ _ (le3 _ _ (hrows3 m hm).2)), G.ok m hm, G.nms _ (List.mem_append_left _ (List.mem_map.mpr ⟨m, hm, rfl⟩))⟩
      · rw [catP hpm G] at er
        cases er
      · have nd4 := EX.nil0 ex4
        have box4 : BoxAt H4 p (n + 20) := (S3.box.mono (show n + ts.length ≤ n + 20 by omega)).nd nd4
        exact k H4 x rs (exA.trans (ex4.mono (by simp))) ⟨box4, hT4⟩ (hcn.nbC box4 hp3) hpm
theorem ok_law_span_of (T : Txt K mg base) : FnOk P w K mg base CX0 1 T.f_law_span_of T.fd_law_span_of ["_law_model_here", "_law_name"] sp_lspanof := by
  refine T.F_law_span_of.ok sc_law_span_of (fun vs H Q E h => ?_) (fun cdv A outer s H vs Q E hr h => ?_)
  · obtain ⟨q, rr, rt, n, rfl, _⟩ := h
    rfl
  · obtain ⟨q, rr, rt, n, rfl, M, hnd, hn, hl, k⟩ := h
    refine ⟨_, (pss_one (ps_ret (pe_ix ix_list (pe_lc (own := [("_law_own", 2), ("_law_span", 3)]) (g := gLst K 2 (gCons (gName 2) (gCons (gName 3) gNil))) rfl sc_law_span_of.nd (pi_list (pe_ix ix_list (pv 0) pe_int (fun _ _ => rfl))) (blkOk_by (own := [("_law_own", 2), ("_law_span", 3)]) (N := ["_law_model_here", "_law_name", "_law_own", "_law_span"]) (sc := defScope s_law_span_of) (by decide +kernel)) (fun _ _ _ _ _ => (pg_lst rfl (pgs_cons (pg_name (i := 2) sc_law_span_of.nd rfl (Or.inl rfl)) (pgs_cons (pg_name (i := 3) sc_law_span_of.nd rfl (Or.inl rfl)) pgs_nil)))) (fun _ _ _ _ _ => (pts_one (pt_cmpR op_eq (pv 2) (pv 1) (nomark _)))) (fun _ _ _ _ _ => (pv 3))) pe_int (fun _ _ => rfl)))), ?_⟩
    obtain ⟨⟨lr, ys, hq, hlr⟩, hrows⟩ := M
    refine ⟨_, rfl, q, _, 0, .ref lr, rfl, rfl, SqL.of hq, atI_nat (j := 0) rfl, lr, rfl, ⟨_, SqL.of hlr⟩, fun D hD => ?_⟩
    refine lc_acc walk_list hD (fun H' s => SqL.of (s _ _ hlr)) (fun j => ((rr.take j).filter fun r => decide (r.2.1 = n)).map fun r => V.ref r.2.2.1) rfl (fun j _ => ?_) ?_ ?_
    · rw [List.length_map]
      exact Nat.lt_of_le_of_lt (Nat.le_trans (List.length_filter_le _ _) (Nat.le_trans (List.length_take_le' _ _) hl)) (by decide)
    · rintro j x H1 hj hx s1 R S r1 r2
      rw [List.getElem?_map] at hx
      obtain ⟨r, hr1, rfl⟩ := Option.map_eq_some_iff.mp hx
      have hr2 := s1 _ _ (hrows r (List.mem_of_getElem? hr1)).1
      have stp : (rr.take (j + 1)).filter (fun r => decide (r.2.1 = n)) = (rr.take j).filter (fun r => decide (r.2.1 = n)) ++ [r].filter fun r => decide (r.2.1 = n) := by
        rw [List.take_add_one, hr1, List.filter_append]
        rfl
      refine ⟨r.1, _, rfl, SqL.of hr2, rfl, _, _, rfl, _, _, rfl, rfl, rfl, _, rfl, _, rfl, rfl, _, rfl, ?_⟩
      by_cases e : r.2.1 = n
      · exact iteTe (by rw [e]; simp) ⟨_, rfl, r1 _ _ (by rw [stp, List.map_append]; simp [e]) (Same.refl _)⟩
      · exact iteFe (by simp [e]) (r2 _ (by rw [stp, List.map_append]; simp [e]) (Same.refl _))
    · intro H1 s1 hD1
      rw [List.length_map, List.take_of_length_le (Nat.le_refl _)] at hD1
      obtain ⟨r, hr, rfl⟩ := List.mem_map.mp hn
      have hm : r ∈ rr.filter fun x => decide (x.2.1 = r.2.1) := List.mem_filter.mpr ⟨hr, decide_eq_true rfl⟩
      cases ef : rr.filter fun x => decide (x.2.1 = r.2.1) with
      | nil => rw [ef] at hm; cases hm
      | cons x t =>
        rw [ef] at hD1
        have hx : x ∈ rr.filter fun x => decide (x.2.1 = r.2.1) := by rw [ef]; exact List.mem_cons_self
        obtain ⟨hx1, hx2⟩ := List.mem_filter.mp hx
        have hx2 : x.2.1 = r.2.1 := of_decide_eq_true hx2
        have es : spL (rr.map nsp) r.2.1 = x.2.2.2 := by
          refine spL_of (by rw [nmsL_rr]; exact hnd) (List.mem_map.mpr ⟨x, hx1, ?_⟩)
          unfold nsp
          rw [hx2]
        refine ⟨D, _, 0, .ref x.2.2.1, rfl, rfl, SqL.of hD1, atI_nat (j := 0) rfl, k H1 _ s1 ?_⟩
        rw [es]
        exact s1 _ _ (hrows x hx1).2
theorem ok_law_limits (T : Txt K mg base) : FnOk P w K mg base CX0 1 T.f_law_limits T.fd_law_limits ["_law_model_here"] sp_llimits := by
  refine T.F_law_limits.ok sc_law_limits (fun vs H Q E h => ?_) (fun cdv A outer s H vs Q E hr h => ?_)
  · obtain ⟨q, rr, rt, rfl, _⟩ := h
    rfl
  · obtain ⟨q, rr, rt, rfl, M, hl, k⟩ := h
    refine ⟨_, (pss_cons (ps_set (i := 1) sc_law_limits.nd rfl (Or.inl rfl) (pe_lst (pa_cons (pe_un un_neg (pe_op op_pow pe_int pe_int)) (pa_cons pe_int (pa_cons (pe_op op_pow pe_int pe_int) pa_nil)))))
        (pss_cons (ps_for PassesOwn.never rfl (pi_list (pe_ix ix_list (pv 0) pe_int (fun _ _ => rfl))) (pg_lst rfl (pgs_cons (pg_name (i := 2) sc_law_limits.nd rfl (Or.inl rfl)) (pgs_cons (pg_name (i := 3) sc_law_limits.nd rfl (Or.inl rfl)) pgs_nil)))
          (pss_one (ps_set (i := 1) sc_law_limits.nd rfl (Or.inl rfl) (pe_op op_cat (pv 1) (pe_lc (own := [("_law_limit", 4)]) (g := gName 4) rfl sc_law_limits.nd (pi_tup (pv 3)) (blkOk_by (own := [("_law_limit", 4)]) (N := ["_law_model_here", "_law_found", "_law_name", "_law_span", "_law_limit"]) (sc := defScope s_law_limits) (by decide +kernel)) (fun _ _ _ _ _ => (pg_name (i := 4) sc_law_limits.nd rfl (Or.inl rfl))) (fun _ _ _ _ _ => (pts_one (pt_cmpR op_notN (pv 4) pe_non (nomark _)))) (fun _ _ _ _ _ => (pv 4)))))))
        (pss_one (ps_ret (pe_callB (id := "sorted") cr_sorted (by rfl) T.z_sorted (by decide +kernel) (pa_cons (pv 1) pa_nil)))))), ?_⟩
    obtain ⟨⟨lr, ys, hq, hlr⟩, hrows⟩ := M
    refine ⟨_, _, rfl, rfl, ⟨by decide, by decide, by decide⟩, _, rfl, _, _, rfl, rfl, ⟨by decide, by decide, by decide⟩, (by show 3 ≤ sizeLine; decide), fun l0 hl0 => ?_⟩
    have s0 := same_new (o := .lst [.int (-(10 ^ (29 : Int).toNat)), .int 0, .int (10 ^ (29 : Int).toNat)]) hl0
    have hl1 : (upd H l0 (.lst [.int (-(10 ^ (29 : Int).toNat)), .int 0, .int (10 ^ (29 : Int).toNat)])) l0 = some (.lst ([-(10 ^ (29 : Int).toNat), 0, 10 ^ (29 : Int).toNat].map V.int)) := upd_same
    generalize upd H l0 (.lst [.int (-(10 ^ (29 : Int).toNat)), .int 0, .int (10 ^ (29 : Int).toNat)]) = H2 at s0 hl1 ⊢
    have hq2 := s0 _ _ hq
    have hlr2 := s0 _ _ hlr
    have rows2 : ∀ r ∈ rr, rowAt H2 r := fun r hr' => ⟨s0 _ _ (hrows r hr').1, s0 _ _ (hrows r hr').2⟩
    refine ⟨_, rfl, q, _, 0, .ref lr, rfl, rfl, SqL.of hq2, atI_nat (j := 0) rfl, lr, rfl, ⟨_, SqL.of hlr2⟩, for_list (K := K) (a := lr) (xs := rr.map fun r => V.ref r.1) (fun i σ H' => ∃ (v4 v5 : Option V) (l : Addr) (L : List Int), σ = [some (.ref q), some (.ref l), v4, v5, none] ∧ Same H2 H' ∧ H' l = some (.lst (L.map V.int)) ∧ 3 ≤ L.length ∧ L.length ≤ 3 + 2 * i)
      ⟨none, none, l0, _, rfl, Same.refl _, hl1, by simp, by simp⟩ (fun i σ H' _ ⟨_, _, _, _, _, s, _⟩ => SqL.of (s _ _ hlr2)) ?_ ?_⟩
    · rintro i x σ H3 hx ⟨v4, v5, l, L, rfl, s3, hL, hL1, hL2⟩
      rw [List.getElem?_map] at hx
      obtain ⟨r, hr1, rfl⟩ := Option.map_eq_some_iff.mp hx
      have hi : i < rr.length := (List.getElem?_eq_some_iff.mp hr1).1
      obtain ⟨ra, rb⟩ := rows2 r (List.mem_of_getElem? hr1)
      refine ⟨r.1, _, rfl, SqL.of (s3 _ _ ra), rfl, _, _, rfl, _, _, rfl, rfl, _, rfl, _, rfl, r.2.2.1, rfl, ⟨_, SqT.of (s3 _ _ rb)⟩, fun D hD => ?_⟩
      refine lc_acc walk_tup hD (fun H' s => SqT.of (s _ _ (s3 _ _ rb))) (fun j => ((spV r.2.2.2).take j).filter fun v => !decide (v = V.non)) rfl (fun j _ => ?_) ?_ ?_
      · refine Nat.lt_of_le_of_lt (List.length_filter_le _ _) (Nat.lt_of_le_of_lt (List.length_take_le' _ _) (by show 2 < sizeLine; decide))
      · rintro j y H4 hj hy s4 R S r1 r2
        have hy : (spV r.2.2.2)[j]? = some y := hy
        refine ⟨rfl, _, rfl, rfl, _, rfl, ?_⟩
        cases e : decide (y = V.non) with
        | true => exact iteF (r2 _ (by rw [List.take_add_one, hy]; simp [e]) (Same.refl _))
        | false => exact iteT ⟨_, rfl, r1 _ _ (by rw [List.take_add_one, hy]; simp [e]) (Same.refl _)⟩
      · intro H4 s4 hD4
        have hD4 : H4 D = some (.lst ((limsS r.2.2.2).map V.int)) := by
          rw [hD4, List.take_of_length_le (Nat.le_refl _), limsS_V]
        have hl2 := limsS_len r.2.2.2
        refine ⟨l, D, _, _, rfl, rfl, s4 _ _ hL, hD4, ?_, fun l' hl' => ?_⟩
        · rw [List.length_map, List.length_map]
          exact Nat.le_trans (show _ ≤ 100 by omega) (by decide)
        have s5 := same_new (o := .lst (L.map V.int ++ (limsS r.2.2.2).map V.int)) hl'
        exact ⟨_, _, l', L ++ limsS r.2.2.2, rfl, s3.trans (s4.trans s5), by rw [upd_same, List.map_append], by rw [List.length_append]; omega, by rw [List.length_append]; omega⟩
    · rintro σ H3 ⟨v4, v5, l, L, rfl, s3, hL, hL1, hL2⟩
      rw [List.length_map] at hL2
      exact ⟨_, rfl, l, L, rfl, SqL.of hL, by omega, fun ns' p hp _ hfr => k _ p ns' (s0.trans (s3.trans (same_new hfr))) ((s0.trans s3).free hfr) upd_same (by rw [hp.length_eq]; omega) (by rw [hp.length_eq]; omega)⟩
theorem ok_law_spare (T : Txt K mg base) : FnOk P w K mg base CX0 3 T.f_law_spare T.fd_law_spare ["_law_box_here", "_law_model_here"] sp_lspare := by
  refine T.F_law_spare.ok sc_law_spare (fun vs H Q E h => ?_) (fun cdv A outer s H vs Q E hr h => ?_)
  · obtain ⟨H0, p, q, n, rr, rt, rfl, _⟩ := h
    rfl
  · obtain ⟨H0, p, q, n, rr, rt, rfl, B, M, G, hn, k⟩ := h
    refine ⟨_, (pss_cons (ps_set (i := 2) sc_law_spare.nd rfl (Or.inl rfl) (pe_lst (pa_cons pe_str (pa_cons pe_str (pa_cons pe_str (pa_cons pe_str (pa_cons pe_str (pa_cons pe_str (pa_cons pe_str (pa_cons pe_str (pa_cons pe_str (pa_cons pe_str (pa_cons pe_str (pa_cons pe_str pa_nil))))))))))))))
        (pss_one (ps_ret (pe_slice sl_list (pe_call (ok_law_mixed T) hr rfl T.m_law_mixed T.F_law_mixed.kp T.b_law_mixed .nil pass0 (pa_cons (pv 0) (pa_cons (pe_lc (own := [("_law_name", 3)]) (g := gName 3) rfl sc_law_spare.nd (pi_list (pv 2)) (blkOk_by (own := [("_law_name", 3)]) (N := ["_law_box_here", "_law_model_here", "_law_pool", "_law_name"]) (sc := defScope s_law_spare) (by decide +kernel)) (fun _ _ _ _ _ => (pg_name (i := 3) sc_law_spare.nd rfl (Or.inl rfl))) (fun _ _ _ _ _ => (pts_one (pt_cmpR (r := rIn K true) op_notIn_seq (pv 3) (pe_call (ok_law_all_names T) (hr.mono (by decide)) rfl T.m_law_all_names T.F_law_all_names.kp T.b_law_all_names .nil pass0 (pa_cons (pv 1) pa_nil)) (by rfl)))) (fun _ _ _ _ _ => (pv 3))) pa_nil))) po_none (po_some pe_int))))), ?_⟩
    refine ⟨(by show 12 ≤ sizeLine; decide), fun pl hpl => ?_⟩
    have B1 := B.keep (same_new (o := .lst [.str "pqa", .str "pqb", .str "pqc", .str "pqd", .str "pqe", .str "pqf", .str "pqg", .str "pqh", .str "pqi", .str "pqj", .str "pqk", .str "pql"]) hpl)
    have hpl1 : (upd H pl (.lst [.str "pqa", .str "pqb", .str "pqc", .str "pqd", .str "pqe", .str "pqf", .str "pqg", .str "pqh", .str "pqi", .str "pqj", .str "pqk", .str "pql"])) pl = some (.lst (poolL.map V.str)) := upd_same
    have np := B.ne hpl
    generalize upd H pl (.lst [.str "pqa", .str "pqb", .str "pqc", .str "pqd", .str "pqe", .str "pqf", .str "pqg", .str "pqh", .str "pqi", .str "pqj", .str "pqk", .str "pql"]) = H1 at B1 hpl1 ⊢
    have hl8 := rr_len G.len
    refine ⟨_, rfl, _, rfl, pl, rfl, ⟨_, SqL.of hpl1⟩, fun D hD => ?_⟩
    refine lc_acc walk_list hD (fun H' s => SqL.of (s _ _ hpl1)) (fun j => ((poolL.take j).filter fun s => !decide (s ∈ namesM rr rt)).map V.str) rfl (fun j _ => ?_) ?_ ?_
    · rw [List.length_map]
      exact Nat.lt_of_le_of_lt (Nat.le_trans (List.length_filter_le _ _) (List.length_take_le' _ _)) (by show 12 < sizeLine; decide)
    · rintro j y H2 hj hy s2 R S r1 r2
      rw [List.getElem?_map] at hy
      obtain ⟨s, hs, rfl⟩ := Option.map_eq_some_iff.mp hy
      have stp : (poolL.take (j + 1)).filter (fun s => !decide (s ∈ namesM rr rt)) = (poolL.take j).filter (fun s => !decide (s ∈ namesM rr rt)) ++ [s].filter fun s => !decide (s ∈ namesM rr rt) := by
        rw [List.take_add_one, hs, List.filter_append]
        rfl
      refine ⟨rfl, _, rfl, _, rfl, q, rr, rt, rfl, (M.mono (B1.same.trans s2)), by omega, fun H3 g s3 hg0 hg => ⟨g, _, rfl, .inl (SqL.of hg), rfl, flat_strs _, _, rfl, ?_⟩⟩
      have e0 : (!inV (.str s) ((srtS (namesM rr rt)).map V.str)) = !decide (s ∈ namesM rr rt) := by
        rw [inV_srt, in_rows]
      by_cases e : s ∈ namesM rr rt
      · exact iteFe (by show (!inV (.str s) ((srtS (namesM rr rt)).map V.str)) = false; rw [e0, decide_eq_true e]; rfl) (r2 _ (by rw [stp, List.map_append]; simp [e]) s3)
      · exact iteTe (by show (!inV (.str s) ((srtS (namesM rr rt)).map V.str)) = true; rw [e0, decide_eq_false e]; rfl) ⟨_, rfl, r1 _ _ (by rw [stp, List.map_append]; simp [e]) s3⟩
    intro H2 s2 hD2
    have hD2 : H2 D = some (.lst ((poolL.filter fun s => !decide (s ∈ namesM rr rt)).map V.str)) := hD2
    have B2 := B1.keep s2
    have hfl : (poolL.filter fun s => !decide (s ∈ namesM rr rt)).length ≤ 12 := List.length_filter_le _ _
    have hf4 := pool_left (ns := namesM rr rt) G.len
    obtain ⟨PL, ePL⟩ : ∃ PL, PL = poolL.filter fun s => !decide (s ∈ namesM rr rt) := ⟨_, rfl⟩
    have hPL : ∀ s ∈ PL, s ∈ poolL ∧ s ∉ namesM rr rt := fun s hs => by
      rw [ePL] at hs
      obtain ⟨h1, h2⟩ := List.mem_filter.mp hs
      exact ⟨h1, by simpa using h2⟩
    have ndPL : PL.Nodup := by
      rw [ePL]
      exact poolL_ok.2.sublist List.filter_sublist
    rw [← ePL] at hD2 hfl hf4
    have nD := B1.ne hD
    obtain ⟨B3, s3⟩ := B2.all
    refine ⟨but H2 p, p, D, _, PL.map V.str, rfl, B3, hD2, by rw [List.length_map]; omega, by rw [List.length_map]; omega, fun g H3 ys s4 hg0 hgp hg hperm B4 => ?_⟩
    obtain ⟨ss, rfl, hss⟩ := strs_of (xs := ys) (W := PL) fun y hy => by
      obtain ⟨s, hs, e⟩ := List.mem_map.mp (hperm.mem_iff.mp hy)
      exact ⟨s, hs, e.symm⟩
    have nds : ss.Nodup := nodup_of_map (hperm.nodup_iff.mpr (nodup_map ndPL))
    have hlen : ss.length = PL.length := by
      have := hperm.length_eq
      rw [List.length_map, List.length_map] at this
      exact this
    refine ⟨2, rfl, g, _, rfl, SqL.of hg, fun sl hsl => ?_⟩
    have ecut : cutV (ss.map V.str) none (some (2 : Int)) = (ss.map V.str).take 2 := cut_takeV _ (i := 2) (by rw [List.length_map]; omega)
    rw [ecut]
    match ss, hlen, nds, hss with
    | [], hlen, _, _ => exact absurd hlen (by simp; omega)
    | [_], hlen, _, _ => exact absurd hlen (by simp; omega)
    | a :: b :: t, hlen, nds, hss =>
      have ha := hPL a (hss a List.mem_cons_self)
      have hb := hPL b (hss b (List.mem_cons_of_mem _ List.mem_cons_self))
      have s5 := same_new (o := .lst (((a :: b :: t).map V.str).take 2)) hsl
      have nsl : sl ≠ p := B4.ne hsl
      obtain ⟨B6, s6⟩ := (B4.keep s5).all
      refine k _ _ sl a b (s3.trans s6) (B6.mono (by rw [List.length_map]; omega)) (by rw [but_ne nsl, upd_same]; rfl) ⟨?_, (poolL_ok.1 a ha.1).1, (poolL_ok.1 b hb.1).1, ha.2, hb.2, fun z hz => ⟨(poolL_ok.1 a ha.1).2 z hz, (poolL_ok.1 b hb.1).2 z hz⟩⟩
      · exact fun e => (List.nodup_cons.mp nds).1 (by rw [e]; exact List.mem_cons_self)
theorem ok_law_after (T : Txt K mg base) : FnOk P w K mg base CX0 2 T.f_law_after T.fd_law_after ["_law_model_here", "_law_deed"] (sp_lafter K) := by
  refine T.F_law_after.ok sc_law_after (fun vs H Q E h => ?_) (fun cdv A outer s H vs Q E hr h => ?_)
  · obtain ⟨q, w, rr, rt, c, rfl, _⟩ := h
    rfl
  · obtain ⟨q, w, rr, rt, c, rfl, M, G, hw, htp, hc, k⟩ := h
    refine ⟨_, (pss_cons (ps_par (i := 2) (j := 3) (by rfl) sc_law_after.nd rfl rfl (by decide) rfl rfl (pa_cons (pe_ix ix_tup (pv 1) pe_int (fun _ _ => rfl)) (pa_cons (pe_lc (own := [("_law_own", 13), ("_law_span", 14)]) (g := gLst K 2 (gCons (gName 13) (gCons (gName 14) gNil))) (tt := tYes) rfl sc_law_after.nd (pi_list (pe_ix ix_list (pv 0) pe_int (fun _ _ => rfl))) (blkOk_by (own := [("_law_own", 13), ("_law_span", 14)]) (N := ["_law_model_here", "_law_deed", "_law_kind", "_law_spans", "_law_old", "_law_new", "_law_name", "_law_left", "_law_over", "_law_low", "_law_high", "_law_one", "_law_other", "_law_own", "_law_span", "_law_row"]) (sc := defScope s_law_after) (by decide +kernel)) (fun _ _ _ _ _ => (pg_lst rfl (pgs_cons (pg_name (i := 13) sc_law_after.nd rfl (Or.inl rfl)) (pgs_cons (pg_name (i := 14) sc_law_after.nd rfl (Or.inl rfl)) pgs_nil)))) (fun _ _ _ _ _ => pts_nil) (fun _ _ _ _ _ => (pv 13))) pa_nil)) (by rfl))
        (pss_cons (ps_set (i := 4) sc_law_after.nd rfl (Or.inr rfl) (pe_dget (hu_of hr) (pe_disp (pps_cons pe_str (pe_lst pa_nil) (pps_cons pe_str (pe_lst (pa_cons (pe_ix ix_tup (pv 1) pe_int (fun _ _ => rfl)) pa_nil)) (pps_cons pe_str (pe_lst (pa_cons (pe_ix ix_tup (pv 1) pe_int (fun _ _ => rfl)) pa_nil)) (pps_cons pe_str (pe_callTy (T := "list") call_list_of (by rfl) T.z_list (by decide +kernel) (pa_cons (pe_slice sl_tup (pv 1) (po_some pe_int) (po_some pe_int)) pa_nil)) pps_nil)))) (by rfl) (by rfl) (fun z => by cases z) (by decide)) (pv 2) (fun _ _ => rfl)))
        (pss_cons (ps_set (i := 5) sc_law_after.nd rfl (Or.inl rfl) (pe_dget (hu_of hr) (pe_disp (pps_cons pe_str (pe_lst (pa_cons (pe_ix ix_tup (pv 1) pe_int (fun _ _ => rfl)) pa_nil)) (pps_cons pe_str (pe_lst pa_nil) (pps_cons pe_str (pe_callTy (T := "list") call_list_of (by rfl) T.z_list (by decide +kernel) (pa_cons (pe_slice sl_tup (pv 1) (po_some pe_int) (po_some pe_int)) pa_nil)) (pps_cons pe_str (pe_lst (pa_cons (pe_ix ix_tup (pv 1) (pe_un un_neg pe_int) (fun _ _ => rfl)) pa_nil)) pps_nil)))) (by rfl) (by rfl) (fun z => by cases z) (by decide)) (pv 2) (fun _ _ => rfl)))
        (pss_cons (ps_for PassesOwn.never rfl (pi_list (pv 4)) (pg_name (i := 6) sc_law_after.nd rfl (Or.inl rfl))
          (pss_one (ps_if (pt_cmpR op_notIn_seq (pv 6) (pv 3) (by rfl)) (pss_one (ps_ret (pe_lst (pa_cons pe_str (pa_cons (pv 6) pa_nil))))) pss_nil)))
        (pss_cons (ps_for PassesOwn.never rfl (pi_list (pv 5)) (pg_name (i := 6) sc_law_after.nd rfl (Or.inl rfl))
          (pss_one (ps_if (pt_cmpR op_in_seq (pv 6) (pe_op op_cat (pv 3) (pe_lst (pa_cons (pe_ix ix_list (pv 0) pe_int (fun _ _ => rfl)) pa_nil))) (by rfl)) (pss_one (ps_ret (pe_lst (pa_cons pe_str (pa_cons (pv 6) pa_nil))))) pss_nil)))
        (pss_cons (ps_setLc (i := 7) (own := [("_law_row", 15)]) (g := gName 15) rfl sc_law_after.nd rfl rfl (sw_true rfl rfl rfl (by decide +kernel)) (pi_list (pe_ix ix_list (pv 0) pe_int (fun _ _ => rfl))) (blkOk_by (own := [("_law_row", 15)]) (N := ["_law_model_here", "_law_deed", "_law_kind", "_law_spans", "_law_old", "_law_new", "_law_name", "_law_left", "_law_over", "_law_low", "_law_high", "_law_one", "_law_other", "_law_own", "_law_span", "_law_row"]) (sc := defScope s_law_after) (by decide +kernel)) (fun _ _ _ _ _ => (pg_name (i := 15) sc_law_after.nd rfl (Or.inl rfl))) (fun _ _ _ _ _ => (pts_one (pt_cmpR (r := rIn K true) op_notIn_seq (pe_ix (r := rIxL K) ix_list (pv 15) pe_int (fun _ _ => rfl)) (pv 4) (by rfl)))) (fun _ _ _ _ _ => (pv 15)))
        (C8.pss_cut (ps_if (pt_cmpR op_eq (pv 2) pe_str (nomark _)) (pss_cons (ps_set (i := 8) sc_law_after.nd rfl (Or.inl rfl) (pe_callB (id := "sorted") cr_sortedS (by rfl) T.z_sorted (by decide +kernel) (pa_cons (pe_lc (own := [("_law_own", 13), ("_law_span", 14)]) (g := gLst K 2 (gCons (gName 13) (gCons (gName 14) gNil))) rfl sc_law_after.nd (pi_list (pe_ix ix_list (pv 0) pe_int (fun _ _ => rfl))) (blkOk_by (own := [("_law_own", 13), ("_law_span", 14)]) (N := ["_law_model_here", "_law_deed", "_law_kind", "_law_spans", "_law_old", "_law_new", "_law_name", "_law_left", "_law_over", "_law_low", "_law_high", "_law_one", "_law_other", "_law_own", "_law_span", "_law_row"]) (sc := defScope s_law_after) (by decide +kernel)) (fun _ _ _ _ _ => (pg_lst rfl (pgs_cons (pg_name (i := 13) sc_law_after.nd rfl (Or.inl rfl)) (pgs_cons (pg_name (i := 14) sc_law_after.nd rfl (Or.inl rfl)) pgs_nil)))) (fun _ _ _ _ _ => (pts_one (pt_val (pe_call (ok_law_meet T) hr rfl T.m_law_meet T.F_law_meet.kp T.b_law_meet .nil pass0 (pa_cons (pv 14) (pa_cons (pe_ix (r := rIxT K) ix_tup (pv 1) pe_int (fun _ _ => rfl)) pa_nil)))))) (fun _ _ _ _ _ => (pv 13))) pa_nil)))
        (pss_cons (ps_if (pt_cmpR (op_neD hr.units) (pv 8) (pe_lst pa_nil) (nomark _)) (pss_one (ps_ret (pe_lst (pa_cons pe_str (pa_cons (pe_ix ix_list (pv 8) pe_int (fun _ _ => rfl)) pa_nil))))) pss_nil)
        (pss_one (ps_set (i := 7) sc_law_after.nd rfl (Or.inl rfl) (pe_op op_cat (pv 7) (pe_lst (pa_cons (pe_lst (pa_cons (pe_ix ix_tup (pv 1) pe_int (fun _ _ => rfl)) (pa_cons (pe_ix ix_tup (pv 1) pe_int (fun _ _ => rfl)) pa_nil))) pa_nil))))))) pss_nil)
        (C8.pss_cut (ps_if (pt_cmpR op_eq (pv 2) pe_str (nomark _)) (pss_cons (ps_asg (pe_call (ok_law_span_of T) hr rfl T.m_law_span_of T.F_law_span_of.kp T.b_law_span_of .nil pass0 (pa_cons (pv 0) (pa_cons (pe_ix ix_tup (pv 1) pe_int (fun _ _ => rfl)) pa_nil))) (pg_tup rfl (pgs_cons (pg_name (i := 9) sc_law_after.nd rfl (Or.inl rfl)) (pgs_cons (pg_name (i := 10) sc_law_after.nd rfl (Or.inl rfl)) pgs_nil))))
        (pss_cons (ps_if (PW.pt (pw_or (PW.pt (pw_and (pt_cmpR op_notN (pv 9) pe_non (nomark _)) (pw_and1 (pt_cmpR op_le (pe_ix ix_tup (pv 1) pe_int (fun _ _ => rfl)) (pv 9) (nomark _))))) (pw_or1 (PW.pt (pw_and (pt_cmpR op_notN (pv 10) pe_non (nomark _)) (pw_and1 (pt_cmpR op_ge (pe_ix ix_tup (pv 1) pe_int (fun _ _ => rfl)) (pv 10) (nomark _)))))))) (pss_one (ps_ret (pe_lst (pa_cons pe_str (pa_cons (pe_ix ix_tup (pv 1) pe_int (fun _ _ => rfl)) pa_nil))))) pss_nil)
        (pss_one (ps_set (i := 7) sc_law_after.nd rfl (Or.inl rfl) (pe_op op_cat (pv 7) (pe_lst (pa_cons (pe_lst (pa_cons (pe_ix ix_tup (pv 1) pe_int (fun _ _ => rfl)) (pa_cons (pe_tup (pa_cons (pv 9) (pa_cons (pe_ix ix_tup (pv 1) pe_int (fun _ _ => rfl)) pa_nil))) pa_nil))) (pa_cons (pe_lst (pa_cons (pe_ix ix_tup (pv 1) pe_int (fun _ _ => rfl)) (pa_cons (pe_tup (pa_cons (pe_ix ix_tup (pv 1) pe_int (fun _ _ => rfl)) (pa_cons (pv 10) pa_nil))) pa_nil))) pa_nil)))))))) pss_nil)
        (C8.pss_cut (ps_if (pt_cmpR op_eq (pv 2) pe_str (nomark _)) (pss_cons (ps_par (i := 11) (j := 12) (by rfl) sc_law_after.nd rfl rfl (by decide) rfl rfl (pa_cons (pe_call (ok_law_span_of T) hr rfl T.m_law_span_of T.F_law_span_of.kp T.b_law_span_of .nil pass0 (pa_cons (pv 0) (pa_cons (pe_ix ix_tup (pv 1) pe_int (fun _ _ => rfl)) pa_nil))) (pa_cons (pe_call (ok_law_span_of T) hr rfl T.m_law_span_of T.F_law_span_of.kp T.b_law_span_of .nil pass0 (pa_cons (pv 0) (pa_cons (pe_ix ix_tup (pv 1) pe_int (fun _ _ => rfl)) pa_nil))) pa_nil)) (by rfl))
        (pss_cons (ps_if (PW.pt (pw_or (pt_cmpR op_isN (pe_ix ix_tup (pv 11) pe_int (fun _ _ => rfl)) pe_non (nomark _)) (pw_or1 (pt_cmpR op_ne (pe_ix ix_tup (pv 11) pe_int (fun _ _ => rfl)) (pe_ix ix_tup (pv 12) pe_int (fun _ _ => rfl)) (nomark _))))) (pss_one (ps_ret (pe_lst (pa_cons pe_str (pa_cons (pe_ix ix_tup (pv 1) pe_int (fun _ _ => rfl)) pa_nil))))) pss_nil)
        (pss_one (ps_set (i := 7) sc_law_after.nd rfl (Or.inl rfl) (pe_op op_cat (pv 7) (pe_lst (pa_cons (pe_lst (pa_cons (pe_ix ix_tup (pv 1) pe_int (fun _ _ => rfl)) (pa_cons (pe_tup (pa_cons (pe_ix ix_tup (pv 11) pe_int (fun _ _ => rfl)) (pa_cons (pe_ix ix_tup (pv 12) pe_int (fun _ _ => rfl)) pa_nil))) pa_nil))) pa_nil))))))) pss_nil)
        (pss_cons (ps_if (pt_cmpR op_gt (pe_op op_add (pe_callB (id := "len") call_len_seq (by rfl) T.z_len (by decide +kernel) (pa_cons (pv 7) pa_nil)) (pe_callTy (T := "int") call_int1 (by rfl) T.z_int (by decide +kernel) (pa_cons (pe_cmpR op_notN (pe_ix ix_list (pv 0) pe_int (fun _ _ => rfl)) pe_non (nomark _)) pa_nil))) pe_int (nomark _)) (pss_one (ps_ret (pe_lst (pa_cons pe_str (pa_cons pe_int pa_nil))))) pss_nil)
        (pss_one (ps_ret (pe_lst (pa_cons pe_str (pa_cons (pe_lst (pa_cons (pv 7) (pa_cons (pe_ix ix_list (pv 0) pe_int (fun _ _ => rfl)) (pa_cons (pe_ix ix_list (pv 0) pe_int (fun _ _ => rfl)) pa_nil)))) pa_nil))))))))))))))), ?_⟩
    obtain ⟨wa, rfl, hT, hsp⟩ := hw
    obtain ⟨⟨lr, z, hq, hlr⟩, hrows⟩ := id M
    have hl8 := rr_len G.len
    have r2s : (2 : Nat) ≤ sizeLine := by decide
    have h0 : atI c.vals 0 = some (.str c.kind) := by cases c <;> rfl
    refine ⟨_, rfl, wa, _, 0, .str c.kind, rfl, rfl, hT, h0, _, rfl, q, _, 0, .ref lr, rfl, rfl, SqL.of hq, atI_nat (j := 0) rfl, lr, rfl, ⟨_, SqL.of hlr⟩, fun D hD => ?_⟩
    refine lc_acc walk_list hD (fun H' s => SqL.of (s _ _ hlr)) (fun j => (rr.take j).map fun r => V.str r.2.1) rfl (fun j _ => ?_) ?_ ?_
    · rw [List.length_map]
      exact Nat.lt_of_le_of_lt (Nat.le_trans (List.length_take_le' _ _) hl8) (by decide)
    · rintro j x H1 hj hx s1 R S r1 r2
      rw [List.getElem?_map] at hx
      obtain ⟨r, hr1, rfl⟩ := Option.map_eq_some_iff.mp hx
      have hr2 := s1 _ _ (hrows r (List.mem_of_getElem? hr1)).1
      refine ⟨r.1, _, rfl, SqL.of hr2, rfl, _, _, rfl, _, _, rfl, rfl, ?_⟩
      exact ⟨rfl, tyes (te := tVar 13) ⟨_, rfl, r1 _ _ (by rw [List.take_add_one, hr1]; simp) (Same.refl _)⟩⟩
    intro H1 s1 hD1
    have hD1 : H1 D = some (.lst ((rr.map (·.2.1)).map V.str)) := by
      rw [hD1, List.length_map, List.take_of_length_le (Nat.le_refl _), List.map_map]
      rfl
    have hT1 := same_t s1 hT
    have x1 : ∃ v1, atI c.vals 1 = some v1 ∧ pick4 c.kind [] [v1] [v1] (cutV c.vals (some ((1 : Nat) : Int)) (some ((3 : Nat) : Int))) = c.old.map V.str := by
      cases c with
      | hang n a s => exact ⟨_, rfl, by unfold pick4; rw [if_pos (show (Chg.hang n a s).kind = "hang" from rfl)]; rfl⟩
      | take n => exact ⟨_, rfl, by unfold pick4; rw [if_neg (by show ¬ ("take" : Str) = "hang"; decide +kernel), if_pos (show (Chg.take n).kind = "take" from rfl)]; rfl⟩
      | split n z l r => exact ⟨_, rfl, by unfold pick4; rw [if_neg (by show ¬ ("split" : Str) = "hang"; decide +kernel), if_neg (by show ¬ ("split" : Str) = "take"; decide +kernel), if_pos (show (Chg.split n z l r).kind = "split" from rfl)]; rfl⟩
      | join l r n => exact ⟨_, rfl, by unfold pick4; rw [if_neg (by show ¬ ("join" : Str) = "hang"; decide +kernel), if_neg (by show ¬ ("join" : Str) = "take"; decide +kernel), if_neg (by show ¬ ("join" : Str) = "split"; decide +kernel)]; rfl⟩
    have x2 : ∃ v1 v2, atI c.vals 1 = some v1 ∧ atI c.vals (-1) = some v2 ∧ pick4 c.kind [v1] [] (cutV c.vals (some ((3 : Nat) : Int)) (some ((5 : Nat) : Int))) [v2] = c.new.map V.str := by
      cases c with
      | hang n a s => exact ⟨_, _, rfl, rfl, by unfold pick4; rw [if_pos (show (Chg.hang n a s).kind = "hang" from rfl)]; rfl⟩
      | take n => exact ⟨_, _, rfl, rfl, by unfold pick4; rw [if_neg (by show ¬ ("take" : Str) = "hang"; decide +kernel), if_pos (show (Chg.take n).kind = "take" from rfl)]; rfl⟩
      | split n z l r => exact ⟨_, _, rfl, rfl, by unfold pick4; rw [if_neg (by show ¬ ("split" : Str) = "hang"; decide +kernel), if_neg (by show ¬ ("split" : Str) = "take"; decide +kernel), if_pos (show (Chg.split n z l r).kind = "split" from rfl)]; rfl⟩
      | join l r n => exact ⟨_, _, rfl, rfl, by unfold pick4; rw [if_neg (by show ¬ ("join" : Str) = "hang"; decide +kernel), if_neg (by show ¬ ("join" : Str) = "take"; decide +kernel), if_neg (by show ¬ ("join" : Str) = "split"; decide +kernel)]; rfl⟩
    have hlv : 0 < c.vals.length := by cases c <;> simp [Chg.vals]
    obtain ⟨v1, e1, p1⟩ := x1
    obtain ⟨v1', v2, e1', e2, p2⟩ := x2
    have gm : ∀ H H', Same H H' → SqT K H wa c.vals → SqT K H' wa c.vals := fun H H' s h => same_t s h
    refine ⟨_, _, rfl, disp4 gm rfl c.kind_in newL_nil (newL_ix rfl e1) (newL_ix rfl e1) (newL_sl (i := 1) (j := 3) rfl (by decide) hlv) hT1 fun l1 H2 s2 hl10 hl1 => ?_⟩
    rw [p1] at hl1
    refine disp4 gm rfl c.kind_in (newL_ix rfl e1') newL_nil (newL_sl (i := 3) (j := 5) rfl (by decide) hlv) (newL_last rfl e2) (same_t s2 hT1) fun l2 H3 s3 hl20 hl2 => ?_
    rw [p2] at hl2
    have s13 := s1.trans (s2.trans s3)
    have hT3 := same_t s13 hT
    have M3 := M.mono s13
    have hD3 := (s2.trans s3) _ _ hD1
    have hl13 := s3 _ _ hl1
    clear p1 p2 e1 e1' e2 hT1 hD1 hl1 s2 s3 s1 hl10 hl20 hD
    have hnL := nmsL_rr rr
    have err : ∀ {n : Nat} {v : V} {H2 : Hp}, Same H3 H2 → chE (rr.map nsp) rt c = some (n, v) → ∀ p, H2 p = none → Q (.ref p) (upd H2 p (.lst [.str (w12 n), v])) := fun {n v H2} s2 e p hp => k _ p (s13.trans (s2.trans (same_new hp))) ((s13.trans s2).free hp) (by
      unfold DA
      rw [e]
      exact upd_same)
    have hwa3 : ∀ n a s, c = .hang n a s → SqT K H3 a (spV s) := fun n a s e => same_t s13 (hsp n a s e)
    obtain ⟨⟨lr3, z3, hq3, hlr3⟩, hrows3⟩ := id M3
    clear hT hsp hq hlr hrows M h0
    -- the old parts
    refine ⟨_, rfl, l1, rfl, ⟨_, SqL.of hl13⟩, for_list (K := K) (a := l1) (xs := c.old.map V.str) (fun i σ H' => ∃ v6, σ = [some (.ref q), some (.ref wa), some (.str c.kind), some (.ref D), some (.ref l1), some (.ref l2), v6, none, none, none, none, none, none, none, none, none] ∧ H' = H3 ∧ ∀ j, j < i → ∀ n, c.old[j]? = some n → n ∈ rr.map (·.2.1)) ⟨none, rfl, rfl, fun j hj => absurd hj (Nat.not_lt_zero _)⟩ (fun i σ H' _ ⟨_, _, e, _⟩ => by rw [e]; exact SqL.of hl13) ?_ ?_⟩
    · rintro i y σ H4 hy ⟨v6, rfl, rfl, hin⟩
      rw [List.getElem?_map] at hy
      obtain ⟨n, hn, rfl⟩ := Option.map_eq_some_iff.mp hy
      refine ⟨_, rfl, _, rfl, D, _, rfl, .inl (SqL.of hD3), rfl, flat_strs _, _, rfl, ?_⟩
      by_cases im : n ∈ rr.map (·.2.1)
      · refine iteFe (by show (!inV (.str n) ((rr.map (·.2.1)).map V.str)) = false; rw [in_strs, decide_eq_true im]; rfl) ⟨_, rfl, rfl, fun j hj m hm => ?_⟩
        rcases Nat.lt_succ_iff_lt_or_eq.mp hj with z | rfl
        · exact hin j z m hm
        · rw [hn] at hm
          cases hm
          exact im
      · refine iteTe (by show (!inV (.str n) ((rr.map (·.2.1)).map V.str)) = true; rw [in_strs, decide_eq_false im]; rfl) ⟨_, rfl, r2s, fun p hp => err (n := 6) (v := .str n) (Same.refl _) (chE_old (find_first hn (by rw [hnL, decide_eq_false im]; rfl) fun j hj m hm => by rw [hnL, decide_eq_true (hin j hj m hm)]; rfl)) p hp⟩
    rintro σ H4 ⟨v6, rfl, rfl, hin⟩
    rw [List.length_map] at hin
    have ho : oldE (rr.map nsp) c = none := find_no fun j hj m hm => by rw [hnL, decide_eq_true (hin j hj m hm)]; rfl
    -- the new parts
    refine ⟨_, rfl, l2, rfl, ⟨_, SqL.of hl2⟩, for_list (K := K) (a := l2) (xs := c.new.map V.str) (fun i σ H' => ∃ v6, σ = [some (.ref q), some (.ref wa), some (.str c.kind), some (.ref D), some (.ref l1), some (.ref l2), v6, none, none, none, none, none, none, none, none, none] ∧ Same H4 H' ∧ ∀ j, j < i → ∀ n, c.new[j]? = some n → n ∉ rr.map (·.2.1) ++ rt.toList) ⟨_, rfl, Same.refl _, fun j hj => absurd hj (Nat.not_lt_zero _)⟩ (fun i σ H' _ ⟨_, _, s, _⟩ => SqL.of (s _ _ hl2)) ?_ ?_⟩
    · rintro i y σ H5 hy ⟨v6, rfl, s5, hin2⟩
      rw [List.getElem?_map] at hy
      obtain ⟨n, hn, rfl⟩ := Option.map_eq_some_iff.mp hy
      refine ⟨_, rfl, _, rfl, _, rfl, q, _, 1, rvO rt, rfl, rfl, SqL.of (s5 _ _ hq3), atI_nat (j := 1) rfl, (by show 1 ≤ sizeLine; decide), fun g hg => ?_⟩
      have s6 := same_new (o := .lst [rvO rt]) hg
      refine ⟨D, g, _, _, rfl, rfl, s6 _ _ (s5 _ _ hD3), upd_same, ?_, fun g2 hg2 => ⟨g2, _, rfl, .inl (SqL.of upd_same), rfl, flat_names_rt _ _, _, rfl, ?_⟩⟩
      · rw [List.length_map, List.length_map]
        exact Nat.le_trans (show _ ≤ 100 by simp only [List.length_cons, List.length_nil]; omega) (by decide)
      have s7 := s5.trans (s6.trans (same_new (o := .lst ((rr.map (·.2.1)).map V.str ++ [rvO rt])) hg2))
      by_cases im : n ∈ rr.map (·.2.1) ++ rt.toList
      · refine iteTe (by show inV (.str n) ((rr.map (·.2.1)).map V.str ++ [rvO rt]) = true; rw [in_names_rt]; exact decide_eq_true im) ⟨_, rfl, r2s, fun p hp => err (n := 4) (v := .str n) s7 (chE_new ho (find_first hn (by rw [hnL]; exact decide_eq_true im) fun j hj m hm => by rw [hnL]; exact decide_eq_false (hin2 j hj m hm))) p hp⟩
      · refine iteFe (by show inV (.str n) ((rr.map (·.2.1)).map V.str ++ [rvO rt]) = false; rw [in_names_rt]; exact decide_eq_false im) ⟨_, rfl, s7, fun j hj m hm => ?_⟩
        rcases Nat.lt_succ_iff_lt_or_eq.mp hj with z | rfl
        · exact hin2 j z m hm
        · rw [hn] at hm
          cases hm
          exact im
    rintro σ H5 ⟨v6', rfl, s5, hin2⟩
    rw [List.length_map] at hin2
    have hne : newE (rr.map nsp) rt c = none := find_no fun j hj m hm => by rw [hnL]; exact decide_eq_false (hin2 j hj m hm)
    clear hin hin2
    -- the rows that stay
    refine ⟨_, rfl, q, _, 0, .ref lr3, rfl, rfl, SqL.of (s5 _ _ hq3), atI_nat (j := 0) rfl, lr3, rfl, ⟨_, SqL.of (s5 _ _ hlr3)⟩, fun D7 hD7 => ?_⟩
    refine lc_acc walk_list hD7 (fun H' s => SqL.of (s _ _ (s5 _ _ hlr3))) (fun j => (rowsK (rr.take j) c).map fun r => V.ref r.1) rfl (fun j _ => ?_) ?_ ?_
    · rw [List.length_map]
      exact Nat.lt_of_le_of_lt (Nat.le_trans (rowsK_sub _ _).length_le (Nat.le_trans (List.length_take_le' _ _) hl8)) (by decide)
    · rintro j x H6 hj hx s6 R S r1 r2
      rw [List.getElem?_map] at hx
      obtain ⟨r, hr1, rfl⟩ := Option.map_eq_some_iff.mp hx
      have hr2 := s6 _ _ (s5 _ _ (hrows3 r (List.mem_of_getElem? hr1)).1)
      have stp := rowsK_step (c := c) hr1
      refine ⟨rfl, _, rfl, r.1, _, 0, .str r.2.1, rfl, rfl, SqL.of hr2, atI_nat (j := 0) rfl, _, rfl, l1, _, rfl, .inl (SqL.of (s6 _ _ (s5 _ _ hl13))), rfl, flat_strs _, _, rfl, ?_⟩
      by_cases im : r.2.1 ∈ c.old
      · exact iteFe (by show (!inV (.str r.2.1) (c.old.map V.str)) = false; rw [in_strs, decide_eq_true im]; rfl) (r2 _ (by rw [stp, decide_eq_true im, if_pos rfl, List.append_nil]) (Same.refl _))
      · exact iteTe (by show (!inV (.str r.2.1) (c.old.map V.str)) = true; rw [in_strs, decide_eq_false im]; rfl) ⟨_, rfl, r1 _ _ (by rw [stp, decide_eq_false im, if_neg Bool.false_ne_true, List.map_append]; rfl) (Same.refl _)⟩
    intro H6 s6 hl7
    rw [List.length_map, List.take_of_length_le (Nat.le_refl _)] at hl7
    have s36 := s5.trans s6
    have left0 : LeftAt H4 H6 0 rr c D7 (rowsK rr c) := ⟨s36, hl7, fun r hr' => ⟨s36 _ _ (hrows3 r ((rowsK_sub _ _).subset hr')).1, s36 _ _ (hrows3 r ((rowsK_sub _ _).subset hr')).2⟩, LeftP.zero rr c⟩
    clear s5 s6 hl7 hD7 s36
    have hkl : (rowsK rr c).length ≤ 8 := Nat.le_trans (rowsK_sub _ _).length_le hl8
    -- a part is hung in
    refine ⟨fun σ H' => ∃ v8 lf rr7, σ = [some (.ref q), some (.ref wa), some (.str c.kind), some (.ref D), some (.ref l1), some (.ref l2), v6', some (.ref lf), v8, none, none, none, none, none, none, none] ∧ LeftAt H4 H' 1 rr c lf rr7, ⟨_, rfl, rfl, _, rfl, ?_⟩, ?_⟩
    · by_cases ek : c.kind = "hang"
      · obtain ⟨n, a, sp, rfl⟩ : ∃ n a sp, c = .hang n a sp := by
          cases c with
          | hang n a s => exact ⟨n, a, s, rfl⟩
          | take n => exact absurd ek (by show ¬ ("take" : Str) = "hang"; decide +kernel)
          | split n z l r => exact absurd ek (by show ¬ ("split" : Str) = "hang"; decide +kernel)
          | join l r n => exact absurd ek (by show ¬ ("join" : Str) = "hang"; decide +kernel)
        refine iteTe (by rw [ek]; simp) ?_
        obtain ⟨u1, u2, u3, _⟩ := left0
        have hT6 := same_t u1 hT3
        have ha6 := same_t u1 (hwa3 n a sp rfl)
        have hlr6 := u1 _ _ hlr3
        refine ⟨_, rfl, q, _, 0, .ref lr3, rfl, rfl, SqL.of (u1 _ _ hq3), atI_nat (j := 0) rfl, lr3, rfl, ⟨_, SqL.of hlr6⟩, fun D8 hD8 => ?_⟩
        refine lc_acc walk_list hD8 (fun H' s => SqL.of (s _ _ hlr6)) (fun j => ((rr.take j).filter fun r => meetL r.2.2.2 sp).map fun r => V.str r.2.1) rfl (fun j _ => ?_) ?_ ?_
        · rw [List.length_map]
          exact Nat.lt_of_le_of_lt (Nat.le_trans (List.length_filter_le _ _) (Nat.le_trans (List.length_take_le' _ _) hl8)) (by decide)
        · rintro j x H7 hj hx s7 R S r1 r2
          rw [List.getElem?_map] at hx
          obtain ⟨r, hr1, rfl⟩ := Option.map_eq_some_iff.mp hx
          obtain ⟨ra, rb⟩ := hrows3 r (List.mem_of_getElem? hr1)
          have s17 := u1.trans s7
          refine ⟨r.1, _, rfl, SqL.of (s17 _ _ ra), rfl, _, _, rfl, _, _, rfl, rfl, rfl, _, rfl, _, rfl, wa, _, 2, .ref a, rfl, rfl, same_t s7 hT6, atI_nat (j := 2) rfl, r.2.2.1, a, r.2.2.2, sp, rfl, SqT.of (s17 _ _ rb), same_t s7 ha6, fun H8 s8 => ⟨_, rfl, ?_⟩⟩
          have stp : (rr.take (j + 1)).filter (fun r => meetL r.2.2.2 sp) = (rr.take j).filter (fun r => meetL r.2.2.2 sp) ++ [r].filter fun r => meetL r.2.2.2 sp := by
            rw [List.take_add_one, hr1, List.filter_append]
            rfl
          cases e4 : meetL r.2.2.2 sp with
          | true => exact iteT ⟨_, rfl, r1 _ _ (by rw [stp, List.map_append]; simp [e4]) s8⟩
          | false => exact iteF (r2 _ (by rw [stp, List.map_append]; simp [e4]) s8)
        intro H7 s7 hD7
        have hD7 : H7 D8 = some (.lst (((rr.filter fun r => meetL r.2.2.2 sp).map (·.2.1)).map V.str)) := by
          rw [hD7, List.length_map, List.take_of_length_le (Nat.le_refl _), List.map_map]
          rfl
        refine ⟨D8, _, rfl, SqL.of hD7, ?_, fun ys l5 hperm hs hl5 => ?_⟩
        · rw [List.length_map]
          have := List.length_filter_le (fun r : MRow => meetL r.2.2.2 sp) rr
          omega
        have ey : ys = overL (rr.map nsp) sp := by
          unfold overL
          rw [List.filter_map, List.map_map]
          exact srt_eq hperm hs
        subst ey
        have s8 := same_new (o := .lst ((overL (rr.map nsp) sp).map V.str)) hl5
        have hl8' : (upd H7 l5 (.lst ((overL (rr.map nsp) sp).map V.str))) l5 = some (.lst ((overL (rr.map nsp) sp).map V.str)) := upd_same
        have s18 := u1.trans (s7.trans s8)
        generalize upd H7 l5 (.lst ((overL (rr.map nsp) sp).map V.str)) = H8 at s18 hl8' s8 ⊢
        have s68 := s7.trans s8
        refine ⟨_, rfl, Nat.zero_le _, fun e0 he0 => ?_⟩
        have s9 := same_new (o := .lst []) he0
        have hl9 := s9 _ _ hl8'
        have hnm : ∀ s ∈ overL (rr.map nsp) sp, nameS s = true := fun s hs' => by
          obtain ⟨e, he, rfl⟩ := List.mem_map.mp (srt_mem.mp hs')
          obtain ⟨r, hr', rfl⟩ := List.mem_map.mp (List.mem_filter.mp he).1
          exact G.nms _ (List.mem_append_left _ (List.mem_map.mpr ⟨r, hr', rfl⟩))
        refine ⟨_, _, .lst (SqL.of hl9) (dpAll_strs _), .lst (SqL.of upd_same) .nil, strsC_sh hnm, shaped_nil, _, rfl, ?_⟩
        have s19 := s18.trans s9
        have s69 := s68.trans s9
        generalize upd H8 e0 (.lst []) = H9 at s19 hl9 s69 ⊢
        rw [eqv_nil]
        cases e5 : overL (rr.map nsp) sp with
        | cons y t =>
          rw [e5] at hl9
          refine iteT ⟨_, rfl, l5, _, 0, .str y, rfl, rfl, SqL.of hl9, atI_nat (j := 0) rfl, r2s, fun p hp => err (n := 3) (v := .str y) s19 (chE_sh ho hne ?_) p hp⟩
          show (overL (rr.map nsp) sp).head?.map _ = _
          rw [e5]
          rfl
        | nil =>
          have esh : shE (rr.map nsp) (.hang n a sp) = none := by
            show (overL (rr.map nsp) sp).head?.map _ = _
            rw [e5]
            rfl
          refine iteF ?_
          have hT9 := same_t s69 hT6
          refine ⟨_, rfl, _, rfl, wa, _, 1, .str n, rfl, rfl, hT9, atI_nat (j := 1) rfl, _, rfl, wa, _, 2, .ref a, rfl, rfl, hT9, atI_nat (j := 2) rfl, r2s, fun g1 hg1 => ⟨(by show 1 ≤ sizeLine; decide), fun g2 hg2 => ?_⟩⟩
          have t1 := same_new (o := .lst [.str n, .ref a]) hg1
          have t2 := same_new (o := .lst [.ref g1]) hg2
          refine ⟨_, g2, _, _, rfl, rfl, t2 _ _ (t1 _ _ (s69 _ _ u2)), upd_same, ?_, fun lf hlf => ?_⟩
          · rw [List.length_map]
            exact Nat.le_trans (show _ ≤ 100 by simp only [List.length_cons, List.length_nil]; omega) (by decide)
          have t3 := same_new (o := .lst ((rowsK rr (.hang n a sp)).map (fun r => V.ref r.1) ++ [.ref g1])) hlf
          have t13 := t1.trans (t2.trans t3)
          refine ⟨_, lf, rowsK rr (.hang n a sp) ++ [(g1, n, a, sp)], rfl, s19.trans t13, by rw [List.map_append]; exact upd_same, fun r hr' => ?_, ?_⟩
          · rcases List.mem_append.mp hr' with hr' | hr'
            · exact ⟨t13 _ _ (s69 _ _ (u3 r hr').1), t13 _ _ (s69 _ _ (u3 r hr').2)⟩
            · rw [List.mem_singleton.mp hr']
              exact ⟨t3 _ _ (t2 _ _ upd_same), t13 _ _ (s19 _ _ (s13 _ _ (htp n a sp rfl)))⟩
          · refine (if_pos (by simp [stg])).mpr ⟨esh, ?_⟩
            rw [List.map_append, rowsK_nsp]
            rfl
      · exact iteFe (by simp [ek]) (by
          obtain ⟨u1, u2, u3, u4⟩ := left0
          exact ⟨_, D7, _, rfl, u1, u2, u3, u4.up (by cases c <;> first | rfl | exact absurd rfl ek)⟩)
    clear left0
    rintro σ H7 ⟨v8, lf, rr7, rfl, left1⟩
    -- a part is split
    have hgnd : (rr.map (·.2.1)).Nodup := (List.nodup_append.mp G.nd).1
    refine ⟨fun σ H' => ∃ v8 v9 v10 lf rr7, σ = [some (.ref q), some (.ref wa), some (.str c.kind), some (.ref D), some (.ref l1), some (.ref l2), v6', some (.ref lf), v8, v9, v10, none, none, none, none, none] ∧ LeftAt H4 H' 2 rr c lf rr7, ⟨_, rfl, rfl, _, rfl, ?_⟩, ?_⟩
    · by_cases ek : c.kind = "split"
      · obtain ⟨n, z0, l, r, rfl⟩ : ∃ n z l r, c = .split n z l r := by
          cases c with
          | hang n a s => exact absurd ek (by show ¬ ("hang" : Str) = "split"; decide +kernel)
          | take n => exact absurd ek (by show ¬ ("take" : Str) = "split"; decide +kernel)
          | split n z l r => exact ⟨n, z, l, r, rfl⟩
          | join l r n => exact absurd ek (by show ¬ ("join" : Str) = "split"; decide +kernel)
        refine iteTe (by rw [ek]; simp) ?_
        obtain ⟨u1, u2, u3, u4⟩ := left1
        have e7 : rr7 = rowsK rr (.split n z0 l r) := (if_neg (by simp [stg])).mp u4
        have hT7 := same_t u1 hT3
        have hin : n ∈ rr.map (·.2.1) := by
          have := oldE_none ho n List.mem_cons_self
          rwa [hnL] at this
        refine ⟨_, rfl, _, rfl, wa, _, 1, .str n, rfl, rfl, hT7, atI_nat (j := 1) rfl, q, rr, rt, n, rfl, (M3.mono u1).mg, hgnd, hin, by omega, fun H8 a s8 ha => ?_⟩
        have esh : shE (rr.map nsp) (.split n z0 l r) = if insB (spL (rr.map nsp) n) z0 = true then none else some (7, .int z0) := rfl
        have ehg : hungL (rr.map nsp) (.split n z0 l r) = [(l, ((spL (rr.map nsp) n).1, some z0)), (r, (some z0, (spL (rr.map nsp) n).2))] := rfl
        generalize spL (rr.map nsp) n = sp at ha esh ehg
        obtain ⟨lo, hi⟩ := sp
        have s48 := u1.trans s8
        have hT8 := same_t s8 hT7
        refine ⟨a, _, rfl, SqT.of ha, rfl, _, _, rfl, _, _, rfl, rfl, ?_⟩
        refine inside_test (lo := lo) (hi := hi) rfl rfl rfl hT8 (atI_nat (j := 2) rfl) ?_
        cases ei : insB (lo, hi) z0 with
        | false => exact iteT ⟨_, rfl, wa, _, 2, .int z0, rfl, rfl, hT8, atI_nat (j := 2) rfl, r2s, fun p hp => err (n := 7) (v := .int z0) s48 (chE_sh ho hne (by rw [esh, if_neg (by rw [ei]; exact Bool.false_ne_true)])) p hp⟩
        | true =>
          refine iteF ?_
          refine ⟨_, rfl, _, rfl, wa, _, 3, .str l, rfl, rfl, hT8, atI_nat (j := 3) rfl, _, rfl, _, rfl, wa, _, 2, .int z0, rfl, rfl, hT8, atI_nat (j := 2) rfl, r2s, fun t1 ht1 => ⟨r2s, fun g1 hg1 => ?_⟩⟩
          have w1 := same_new (o := .tup [limV lo, .int z0]) ht1
          have w2 := same_new (o := .lst [.str l, .ref t1]) hg1
          have x1 := w2 _ _ (upd_same (H := H8) (a := t1) (o := .tup [limV lo, .int z0]))
          have y1 : (upd (upd H8 t1 (.tup [limV lo, .int z0])) g1 (.lst [.str l, .ref t1])) g1 = some (.lst [.str l, .ref t1]) := upd_same
          have w12 := w1.trans w2
          generalize upd (upd H8 t1 (.tup [limV lo, .int z0])) g1 (.lst [.str l, .ref t1]) = H9 at w12 x1 y1 ⊢
          clear w1 w2
          have hT9 := same_t w12 hT8
          refine ⟨_, rfl, wa, _, 4, .str r, rfl, rfl, hT9, atI_nat (j := 4) rfl, _, rfl, wa, _, 2, .int z0, rfl, rfl, hT9, atI_nat (j := 2) rfl, _, rfl, r2s, fun t2 ht2 => ⟨r2s, fun g2 hg2 => ⟨r2s, fun g3 hg3 => ?_⟩⟩⟩
          have v1 := same_new (o := .tup [.int z0, limV hi]) ht2
          have v2 := same_new (o := .lst [.str r, .ref t2]) hg2
          have v3 := same_new (o := .lst [.ref g1, .ref g2]) hg3
          have x2 := v3 _ _ (v2 _ _ (upd_same (H := H9) (a := t2) (o := .tup [.int z0, limV hi])))
          have y2 := v3 _ _ (upd_same (H := upd H9 t2 (.tup [.int z0, limV hi])) (a := g2) (o := .lst [.str r, .ref t2]))
          have y3 : (upd (upd (upd H9 t2 (.tup [.int z0, limV hi])) g2 (.lst [.str r, .ref t2])) g3 (.lst [.ref g1, .ref g2])) g3 = some (.lst [.ref g1, .ref g2]) := upd_same
          have v13 := v1.trans (v2.trans v3)
          generalize upd (upd (upd H9 t2 (.tup [.int z0, limV hi])) g2 (.lst [.str r, .ref t2])) g3 (.lst [.ref g1, .ref g2]) = H10 at v13 x2 y2 y3 ⊢
          clear v1 v2 v3
          have s7A := s8.trans (w12.trans v13)
          refine ⟨lf, g3, _, _, rfl, rfl, s7A _ _ u2, y3, ?_, fun lf2 hlf2 => ?_⟩
          · rw [List.length_map, e7]
            exact Nat.le_trans (show _ ≤ 100 by simp only [List.length_cons, List.length_nil]; omega) (by decide)
          have q1 := same_new (o := .lst (rr7.map (fun r => V.ref r.1) ++ [.ref g1, .ref g2])) hlf2
          have s7B := s7A.trans q1
          refine ⟨_, _, _, lf2, rr7 ++ [(g1, l, t1, (lo, some z0)), (g2, r, t2, (some z0, hi))], rfl, u1.trans s7B, by rw [List.map_append]; exact upd_same, fun x hx => ?_, ?_⟩
          · rcases List.mem_append.mp hx with hx | hx
            · exact ⟨s7B _ _ (u3 x hx).1, s7B _ _ (u3 x hx).2⟩
            · rcases List.mem_cons.mp hx with rfl | hx
              · exact ⟨q1 _ _ (v13 _ _ y1), q1 _ _ (v13 _ _ x1)⟩
              · rw [List.mem_singleton.mp hx]
                exact ⟨q1 _ _ y2, q1 _ _ x2⟩
          · refine (if_pos (by simp [stg])).mpr ⟨by rw [esh, if_pos ei], ?_⟩
            rw [List.map_append, e7, rowsK_nsp]
            unfold nextL
            rw [ehg]
            rfl
      · exact iteFe (by simp [ek]) (by
          obtain ⟨u1, u2, u3, u4⟩ := left1
          exact ⟨_, _, _, lf, _, rfl, u1, u2, u3, u4.up (by cases c <;> first | rfl | exact absurd rfl ek)⟩)
    clear left1
    rintro σ H8 ⟨v8', v9, v10, lf', rr8, rfl, left2⟩
    -- two parts are joined
    refine ⟨fun σ H' => ∃ v8 v9 v10 v11 v12 lf rr7, σ = [some (.ref q), some (.ref wa), some (.str c.kind), some (.ref D), some (.ref l1), some (.ref l2), v6', some (.ref lf), v8, v9, v10, v11, v12, none, none, none] ∧ LeftAt H4 H' 3 rr c lf rr7, ⟨_, rfl, rfl, _, rfl, ?_⟩, ?_⟩
    · by_cases ek : c.kind = "join"
      · obtain ⟨l, r, n, rfl⟩ : ∃ l r n, c = .join l r n := by
          cases c with
          | hang n a s => exact absurd ek (by show ¬ ("hang" : Str) = "join"; decide +kernel)
          | take n => exact absurd ek (by show ¬ ("take" : Str) = "join"; decide +kernel)
          | split n z l r => exact absurd ek (by show ¬ ("split" : Str) = "join"; decide +kernel)
          | join l r n => exact ⟨l, r, n, rfl⟩
        refine iteTe (by rw [ek]; simp) ?_
        obtain ⟨u1, u2, u3, u4⟩ := left2
        have e7 : rr8 = rowsK rr (.join l r n) := (if_neg (by simp [stg])).mp u4
        have hT7 := same_t u1 hT3
        have hin1 : l ∈ rr.map (·.2.1) := by
          have := oldE_none ho l List.mem_cons_self
          rwa [hnL] at this
        have hin2 : r ∈ rr.map (·.2.1) := by
          have := oldE_none ho r (List.mem_cons_of_mem _ List.mem_cons_self)
          rwa [hnL] at this
        have esh : shE (rr.map nsp) (.join l r n) = if touchB (spL (rr.map nsp) l) (spL (rr.map nsp) r) = true then none else some (8, .str r) := rfl
        have ehg : hungL (rr.map nsp) (.join l r n) = [(n, ((spL (rr.map nsp) l).1, (spL (rr.map nsp) r).2))] := rfl
        refine ⟨_, rfl, _, rfl, wa, _, 1, .str l, rfl, rfl, hT7, atI_nat (j := 1) rfl, q, rr, rt, l, rfl, (M3.mono u1).mg, hgnd, hin1, by omega, fun H9 a s9 ha => ?_⟩
        have hT9 := same_t s9 hT7
        refine ⟨_, rfl, _, rfl, wa, _, 2, .str r, rfl, rfl, hT9, atI_nat (j := 2) rfl, q, rr, rt, r, rfl, (M3.mono (u1.trans s9)).mg, hgnd, hin2, by omega, fun H10 b s10 hb => ⟨_, _, rfl, ?_⟩⟩
        have ha10 := s10 _ _ ha
        have hT10 := same_t s10 hT9
        have s810 := s9.trans s10
        generalize spL (rr.map nsp) l = sp1 at ha ha10 esh ehg
        generalize spL (rr.map nsp) r = sp2 at hb esh ehg
        refine touch_test rfl rfl ha10 hb ?_
        cases ei : touchB sp1 sp2 with
        | false => exact iteT ⟨_, rfl, wa, _, 2, .str r, rfl, rfl, hT10, atI_nat (j := 2) rfl, r2s, fun p hp => err (n := 8) (v := .str r) (u1.trans s810) (chE_sh ho hne (by rw [esh, if_neg (by rw [ei]; exact Bool.false_ne_true)])) p hp⟩
        | true =>
          refine iteF ?_
          refine ⟨_, rfl, _, rfl, wa, _, 3, .str n, rfl, rfl, hT10, atI_nat (j := 3) rfl, _, rfl, a, _, 0, limV sp1.1, rfl, rfl, SqT.of ha10, atI_nat (j := 0) rfl, _, rfl, b, _, 1, limV sp2.2, rfl, rfl, SqT.of hb, atI_nat (j := 1) rfl, r2s, fun t1 ht1 => ⟨r2s, fun g1 hg1 => ⟨(by show 1 ≤ sizeLine; decide), fun g3 hg3 => ?_⟩⟩⟩
          have v1 := same_new (o := .tup [limV sp1.1, limV sp2.2]) ht1
          have v2 := same_new (o := .lst [.str n, .ref t1]) hg1
          have v3 := same_new (o := .lst [.ref g1]) hg3
          have x2 := v3 _ _ (v2 _ _ (upd_same (H := H10) (a := t1) (o := .tup [limV sp1.1, limV sp2.2])))
          have y2 := v3 _ _ (upd_same (H := upd H10 t1 (.tup [limV sp1.1, limV sp2.2])) (a := g1) (o := .lst [.str n, .ref t1]))
          have y3 : (upd (upd (upd H10 t1 (.tup [limV sp1.1, limV sp2.2])) g1 (.lst [.str n, .ref t1])) g3 (.lst [.ref g1])) g3 = some (.lst [.ref g1]) := upd_same
          have v13 := v1.trans (v2.trans v3)
          generalize upd (upd (upd H10 t1 (.tup [limV sp1.1, limV sp2.2])) g1 (.lst [.str n, .ref t1])) g3 (.lst [.ref g1]) = H11 at v13 x2 y2 y3 ⊢
          clear v1 v2 v3
          have s7A := s810.trans v13
          refine ⟨lf', g3, _, _, rfl, rfl, s7A _ _ u2, y3, ?_, fun lf2 hlf2 => ?_⟩
          · rw [List.length_map, e7]
            exact Nat.le_trans (show _ ≤ 100 by simp only [List.length_cons, List.length_nil]; omega) (by decide)
          have q1 := same_new (o := .lst (rr8.map (fun r => V.ref r.1) ++ [.ref g1])) hlf2
          have s7B := s7A.trans q1
          refine ⟨_, _, _, _, _, lf2, rr8 ++ [(g1, n, t1, (sp1.1, sp2.2))], rfl, u1.trans s7B, by rw [List.map_append]; exact upd_same, fun x hx => ?_, ?_⟩
          · rcases List.mem_append.mp hx with hx | hx
            · exact ⟨s7B _ _ (u3 x hx).1, s7B _ _ (u3 x hx).2⟩
            · rw [List.mem_singleton.mp hx]
              exact ⟨q1 _ _ y2, q1 _ _ x2⟩
          · refine (if_pos (by simp [stg])).mpr ⟨by rw [esh, if_pos ei], ?_⟩
            rw [List.map_append, e7, rowsK_nsp]
            unfold nextL
            rw [ehg]
            rfl
      · exact iteFe (by simp [ek]) (by
          obtain ⟨u1, u2, u3, u4⟩ := left2
          exact ⟨_, _, _, _, _, lf', _, rfl, u1, u2, u3, u4.up (by cases c <;> first | rfl | exact absurd rfl ek)⟩)
    clear left2
    rintro σ H9 ⟨v8'', v9', v10', v11, v12, lf'', rr9, rfl, u1, u2, u3, u4⟩
    have efin : shE (rr.map nsp) c = none ∧ rr9.map nsp = nextL (rr.map nsp) c := by
      unfold LeftP at u4
      cases c with
      | take n =>
        have u4 : rr9 = rowsK rr (.take n) := (if_neg (by simp [stg])).mp u4
        refine ⟨rfl, ?_⟩
        rw [u4, rowsK_nsp]
        exact (List.append_nil _).symm
      | _ => exact (if_pos (by simp [stg])).mp u4
    obtain ⟨esh, enx⟩ := efin
    have hmany := chE_many (rt := rt) ho hne esh
    have hlen9 : rr9.length ≤ 10 := by
      have h1 := congrArg List.length enx
      have h2 := congrArg List.length (nextL_names (rr.map nsp) c)
      have h3 := new_len c
      have h4 := (keptL_sub (rr.map nsp) c).length_le
      unfold nmsL at h2
      rw [List.length_append, List.length_map, List.length_map] at h2
      rw [List.length_map] at h1 h4
      omega
    have elen : (nmsL (nextL (rr.map nsp) c) ++ rt.toList).length = rr9.length + rt.toList.length := by
      rw [← enx, nmsL_rr, List.length_append, List.length_map]
    refine ⟨_, rfl, lf'', _, rfl, .inl (SqL.of u2), _, rfl, q, _, 1, rvO rt, rfl, rfl, SqL.of (u1 _ _ hq3), atI_nat (j := 1) rfl, ?_⟩
    have eint : (if (!decide (rvO rt = V.non)) = true then (1 : Int) else 0) = (rt.toList.length : Nat) := by
      cases rt <;> rfl
    refine ⟨rfl, .inr ⟨_, rfl, _, _, rfl, rfl, _, _, rfl, rfl, _, rfl, ?_⟩⟩
    rw [eint, List.length_map]
    have hq9 := u1 _ _ hq3
    have s9 := s13.trans u1
    by_cases e8 : 8 < rr9.length + rt.toList.length
    · refine iteTe (decide_eq_true (by omega)) ⟨r2s, fun p hp => err (n := 5) (v := .int 8) u1 (by rw [hmany, elen, if_pos e8]) p hp⟩
    · refine iteFe (decide_eq_false (by omega)) ⟨_, rfl, _, rfl, q, _, 1, rvO rt, rfl, rfl, SqL.of hq9, atI_nat (j := 1) rfl, _, rfl, q, _, 2, z3, rfl, rfl, SqL.of hq9, atI_nat (j := 2) rfl, (by show 3 ≤ sizeLine; decide), fun q' hq' => ⟨r2s, fun p hp => ?_⟩⟩
      have t1 := same_new (o := .lst [.ref lf'', rvO rt, z3]) hq'
      have t2 := same_new (o := .lst [.str "made", .ref q']) hp
      have t12 := t1.trans t2
      refine k _ p (s9.trans t12) ((s9.trans t1).free hp) ?_
      unfold DA
      rw [hmany, elen, if_neg e8]
      exact ⟨q', rr9, upd_same, ⟨⟨lf'', z3, t2 _ _ upd_same, t12 _ _ u2⟩, fun r hr' => ⟨t12 _ _ (u3 r hr').1, t12 _ _ (u3 r hr').2⟩⟩, enx⟩
theorem ok_law_drawn_join (T : Txt K mg base) : FnOk P w K mg base CX0 3 T.f_law_drawn_join T.fd_law_drawn_join ["_law_box_here", "_law_model_here", "_law_name", "_law_goal"] (sp_ljoin K) := by
  refine T.F_law_drawn_join.ok sc_law_drawn_join (fun vs H Q E h => ?_) (fun cdv A outer s H vs Q E hr h => ?_)
  · obtain ⟨H0, p, q, n, rr, rt, nm, g, rfl, _⟩ := h
    rfl
  · obtain ⟨H0, p, q, n, rr, rt, nm, g, rfl, B, M, G, hnm, hg, ng, nz, gz, hn, k⟩ := h
    refine ⟨_, (pss_cons (ps_par (i := 4) (j := 5) (by rfl) sc_law_drawn_join.nd rfl rfl (by decide) rfl rfl (pa_cons (pe_lc (own := [("_law_own", 10), ("_law_span", 7)]) (g := gLst K 2 (gCons (gName 10) (gCons (gName 7) gNil))) rfl sc_law_drawn_join.nd (pi_list (pe_ix ix_list (pv 1) pe_int (fun _ _ => rfl))) (blkOk_by (own := [("_law_own", 10), ("_law_span", 7)]) (N := ["_law_box_here", "_law_model_here", "_law_name", "_law_goal", "_law_parts", "_law_touching", "_law_one", "_law_span", "_law_pairs", "_law_pair", "_law_own", "_law_other", "_law_more"]) (sc := defScope s_law_drawn_join) (by decide +kernel)) (fun _ _ _ _ _ => (pg_lst rfl (pgs_cons (pg_name (i := 10) sc_law_drawn_join.nd rfl (Or.inl rfl)) (pgs_cons (pg_name (i := 7) sc_law_drawn_join.nd rfl (Or.inl rfl)) pgs_nil)))) (fun _ _ _ _ _ => (pts_one (pt_cmpR op_ne (pv 10) (pv 3) (nomark _)))) (fun _ _ _ _ _ => (pv 10))) (pa_cons (pe_lst pa_nil) pa_nil)) (by rfl))
        (pss_cons (ps_for PassesOwn.never rfl (pi_list (pe_ix ix_list (pv 1) pe_int (fun _ _ => rfl))) (pg_lst rfl (pgs_cons (pg_name (i := 6) sc_law_drawn_join.nd rfl (Or.inr rfl)) (pgs_cons (pg_name (i := 7) sc_law_drawn_join.nd rfl (Or.inr rfl)) pgs_nil)))
          (pss_one (ps_set (i := 5) sc_law_drawn_join.nd rfl (Or.inl rfl) (pe_op op_cat (pv 5) (pe_lc (own := [("_law_other", 11), ("_law_more", 12)]) (g := gLst K 2 (gCons (gName 11) (gCons (gName 12) gNil))) rfl sc_law_drawn_join.nd (pi_list (pe_ix ix_list (pv 1) pe_int (fun _ _ => rfl))) (blkOk_by (own := [("_law_other", 11), ("_law_more", 12)]) (N := ["_law_box_here", "_law_model_here", "_law_name", "_law_goal", "_law_parts", "_law_touching", "_law_one", "_law_span", "_law_pairs", "_law_pair", "_law_own", "_law_other", "_law_more"]) (sc := defScope s_law_drawn_join) (by decide +kernel)) (fun _ _ _ _ _ => (pg_lst rfl (pgs_cons (pg_name (i := 11) sc_law_drawn_join.nd rfl (Or.inl rfl)) (pgs_cons (pg_name (i := 12) sc_law_drawn_join.nd rfl (Or.inl rfl)) pgs_nil)))) (fun _ _ _ _ _ => (pts_one (PW.pt (pw_and (pt_cmpR op_notN (pe_ix (r := rIxT K) ix_tup (pv 7) pe_int (fun _ _ => rfl)) pe_non (nomark _)) (pw_and1 (pt_cmpR op_eq (pe_ix (r := rIxT K) ix_tup (pv 7) pe_int (fun _ _ => rfl)) (pe_ix (r := rIxT K) ix_tup (pv 12) pe_int (fun _ _ => rfl)) (nomark _))))))) (fun _ _ _ _ _ => (pe_tup (pa_cons (pv 6) (pa_cons (pv 11) pa_nil)))))))))
        (pss_cons (ps_setLc (i := 8) (own := [("_law_pair", 9)]) (g := gName 9) rfl sc_law_drawn_join.nd rfl rfl (sw_true rfl rfl rfl (by decide +kernel)) (pi_list (pv 5)) (blkOk_by (own := [("_law_pair", 9)]) (N := ["_law_box_here", "_law_model_here", "_law_name", "_law_goal", "_law_parts", "_law_touching", "_law_one", "_law_span", "_law_pairs", "_law_pair", "_law_own", "_law_other", "_law_more"]) (sc := defScope s_law_drawn_join) (by decide +kernel)) (fun _ _ _ _ _ => (pg_name (i := 9) sc_law_drawn_join.nd rfl (Or.inl rfl))) (fun _ _ _ _ _ => (pts_one (pt_cmpR (r := rIn K true) op_notIn_seq (pv 3) (pv 9) (by rfl)))) (fun _ _ _ _ _ => (pv 9)))
        (C8.pss_cut (ps_if (PW.pt (pw_and (pt_cmpR (op_neD hr.units) (pv 8) (pe_lst pa_nil) (nomark _)) (pw_and1 (pt_cmpR op_gt (pe_call (ok_law_take T) (hr.mono (by decide)) rfl T.m_law_take T.F_law_take.kp T.b_law_take .nil pass0 (pa_cons (pv 0) (pa_cons pe_int pa_nil))) pe_int (nomark _))))) (pss_one (ps_ret (pe_op op_catA (pe_op op_catA (pe_tup (pa_cons pe_str pa_nil)) (pe_ix ix_list (pv 8) (pe_call (ok_law_take T) (hr.mono (by decide)) rfl T.m_law_take T.F_law_take.kp T.b_law_take .nil pass0 (pa_cons (pv 0) (pa_cons (pe_callB (id := "len") call_len_seq (by rfl) T.z_len (by decide +kernel) (pa_cons (pv 8) pa_nil)) pa_nil))) (fun _ _ => rfl))) (pe_tup (pa_cons (pv 3) pa_nil))))) pss_nil)
        (C8.pss_cut (ps_if (PW.pt (pw_and (pt_cmpR op_gt (pe_callB (id := "len") call_len_seq (by rfl) T.z_len (by decide +kernel) (pa_cons (pv 4) pa_nil)) pe_int (nomark _)) (pw_and1 (pt_cmpR op_gt (pe_call (ok_law_take T) (hr.mono (by decide)) rfl T.m_law_take T.F_law_take.kp T.b_law_take .nil pass0 (pa_cons (pv 0) (pa_cons pe_int pa_nil))) pe_int (nomark _))))) (pss_cons (ps_set (i := 9) sc_law_drawn_join.nd rfl (Or.inl rfl) (pe_slice sl_list (pe_call (ok_law_mixed T) hr rfl T.m_law_mixed T.F_law_mixed.kp T.b_law_mixed .nil pass0 (pa_cons (pv 0) (pa_cons (pv 4) pa_nil))) po_none (po_some pe_int)))
        (pss_one (ps_ret (pe_tup (pa_cons pe_str (pa_cons (pe_ix ix_list (pv 9) pe_int (fun _ _ => rfl)) (pa_cons (pe_ix ix_list (pv 9) pe_int (fun _ _ => rfl)) (pa_cons (pv 3) pa_nil)))))))) pss_nil)
        (pss_one (ps_ret (pe_tup (pa_cons pe_str (pa_cons (pv 2) (pa_cons pe_str (pa_cons (pv 3) pa_nil)))))))))))), ?_⟩
    obtain ⟨⟨lr, ys, hq0, hlr0⟩, hrows0⟩ := M
    have hq := B.same _ _ hq0
    have hlr := B.same _ _ hlr0
    have hrows : ∀ r ∈ rr, rowAt H r := fun r hr' => ⟨B.same _ _ (hrows0 r hr').1, B.same _ _ (hrows0 r hr').2⟩
    have hl8 := rr_len G.len
    have r2s : (2 : Nat) ≤ sizeLine := by decide
    have hgnd : (rr.map (·.2.1)).Nodup := (List.nodup_append.mp G.nd).1
    have hgnm : ∀ s ∈ rr.map (·.2.1), nameS s = true := fun s hs => G.nms s (List.mem_append_left _ hs)
    -- the parts
    refine ⟨_, rfl, q, _, 0, .ref lr, rfl, rfl, SqL.of hq, atI_nat (j := 0) rfl, lr, rfl, ⟨_, SqL.of hlr⟩, fun D hD => ?_⟩
    refine lc_acc walk_list hD (fun H' s => SqL.of (s _ _ hlr)) (fun j => ((rr.take j).filter fun r => !decide (r.2.1 = g)).map fun r => V.str r.2.1) rfl (fun j _ => ?_) ?_ ?_
    · rw [List.length_map]
      exact Nat.lt_of_le_of_lt (Nat.le_trans (List.length_filter_le _ _) (Nat.le_trans (List.length_take_le' _ _) hl8)) (by decide)
    · rintro j x H1 hj hx s1 R S r1 r2
      rw [List.getElem?_map] at hx
      obtain ⟨r, hr1, rfl⟩ := Option.map_eq_some_iff.mp hx
      have hr2 := s1 _ _ (hrows r (List.mem_of_getElem? hr1)).1
      have stp : (rr.take (j + 1)).filter (fun r => !decide (r.2.1 = g)) = (rr.take j).filter (fun r => !decide (r.2.1 = g)) ++ [r].filter fun r => !decide (r.2.1 = g) := by
        rw [List.take_add_one, hr1, List.filter_append]
        rfl
      refine ⟨r.1, _, rfl, SqL.of hr2, rfl, _, _, rfl, _, _, rfl, rfl, rfl, _, rfl, _, rfl, rfl, _, rfl, ?_⟩
      by_cases e : r.2.1 = g
      · exact iteFe (by rw [e]; simp) (r2 _ (by rw [stp, List.map_append]; simp [e]) (Same.refl _))
      · exact iteTe (by simp [e]) ⟨_, rfl, r1 _ _ (by rw [stp, List.map_append]; simp [e]) (Same.refl _)⟩
    intro H1 s1 hD1
    rw [List.length_map, List.take_of_length_le (Nat.le_refl _)] at hD1
    obtain ⟨PT, ePT⟩ : ∃ PT, PT = (rr.filter fun r => !decide (r.2.1 = g)).map (·.2.1) := ⟨_, rfl⟩
    have hD1 : H1 D = some (.lst (PT.map V.str)) := by
      rw [hD1, ePT, List.map_map]
      rfl
    have hPT : ∀ s ∈ PT, s ∈ rr.map (·.2.1) ∧ s ≠ g := fun s hs => by
      rw [ePT] at hs
      obtain ⟨r, hr', rfl⟩ := List.mem_map.mp hs
      obtain ⟨h1, h2⟩ := List.mem_filter.mp hr'
      exact ⟨List.mem_map.mpr ⟨r, h1, rfl⟩, by simpa using h2⟩
    have hPTl : PT.length ≤ 8 := by
      rw [ePT, List.length_map]
      exact Nat.le_trans (List.length_filter_le _ _) hl8
    have hPTn : PT.Nodup := by
      rw [ePT]
      exact hgnd.sublist (List.filter_sublist.map _)
    refine ⟨Nat.zero_le _, fun tl htl => ⟨_, _, rfl, ?_⟩⟩
    have s2 := same_new (o := .lst []) htl
    have htl1 : (upd H1 tl (.lst [])) tl = some (.lst []) := upd_same
    have s12 := s1.trans s2
    have hD2 := s2 _ _ hD1
    generalize upd H1 tl (.lst []) = H2 at s2 htl1 s12 hD2 ⊢
    have hlr2 := s12 _ _ hlr
    have hq2 := s12 _ _ hq
    have hrows2 : ∀ r ∈ rr, rowAt H2 r := fun r hr' => ⟨s12 _ _ (hrows r hr').1, s12 _ _ (hrows r hr').2⟩
    have B2 := B.keep s12
    clear s1 s2 s12 hD1 hq hlr hrows hq0 hlr0 hrows0 htl B hD ePT
    -- the pairs that touch
    refine ⟨_, rfl, q, _, 0, .ref lr, rfl, rfl, SqL.of hq2, atI_nat (j := 0) rfl, lr, rfl, ⟨_, SqL.of hlr2⟩, for_list (K := K) (a := lr) (xs := rr.map fun r => V.ref r.1) (fun i σ H' => ∃ (v6 v7 : Option V) (tl : Addr) (TL : List TRow), σ = [some (.ref p), some (.ref q), some (.str nm), some (.str g), some (.ref D), some (.ref tl), v6, v7, none, none, none, none, none] ∧ Same H2 H' ∧ H' tl = some (.lst (TL.map fun t => V.ref t.1)) ∧ TOk H' (rr.map (·.2.1)) TL ∧ TL.length ≤ 8 * i)
      ⟨none, none, tl, [], rfl, Same.refl _, htl1, (fun t ht => by cases ht), Nat.le_refl _⟩ (fun i σ H' _ ⟨_, _, _, _, _, s, _⟩ => SqL.of (s _ _ hlr2)) ?_ ?_⟩
    · rintro i x σ H3 hx ⟨v6, v7, tl, TL, rfl, s3, hT3, hok3, hlen3⟩
      rw [List.getElem?_map] at hx
      obtain ⟨r, hr1, rfl⟩ := Option.map_eq_some_iff.mp hx
      have hi : i < rr.length := (List.getElem?_eq_some_iff.mp hr1).1
      have hrm := List.mem_of_getElem? hr1
      obtain ⟨ra, rb⟩ := hrows2 r hrm
      have rb3 := s3 _ _ rb
      have hlr3 := s3 _ _ hlr2
      refine ⟨r.1, _, rfl, SqL.of (s3 _ _ ra), rfl, _, _, rfl, _, _, rfl, rfl, _, rfl, _, rfl, q, _, 0, .ref lr, rfl, rfl, SqL.of (s3 _ _ hq2), atI_nat (j := 0) rfl, lr, rfl, ⟨_, SqL.of hlr3⟩, fun D3 hD3 => ?_⟩
      refine lc_it walk_list (fun j H' => ∃ T2 : List TRow, Same H3 H' ∧ H' D3 = some (.lst (T2.map fun t => V.ref t.1)) ∧ TOk H' (rr.map (·.2.1)) T2 ∧ T2.length ≤ j) ⟨[], same_new hD3, upd_same, (fun t ht => by cases ht), Nat.le_refl _⟩ (fun j H' _ ⟨_, s, _⟩ => SqL.of (s _ _ hlr3)) ?_ ?_
      · rintro j x H4 H5 hj ⟨T2, s4, hD4, hok4, hl4⟩ hy
        obtain ⟨rfl, hx⟩ := hy
        have hx : (rr.map fun r => V.ref r.1)[j]? = some x := hx
        rw [List.getElem?_map] at hx
        obtain ⟨r', hr', rfl⟩ := Option.map_eq_some_iff.mp hx
        have hrm' := List.mem_of_getElem? hr'
        obtain ⟨ra', rb'⟩ := hrows2 r' hrm'
        have s24 := s3.trans s4
        have hj : j < (rr.map fun r => V.ref r.1).length := hj
        rw [List.length_map] at hj
        have keep : ∃ T2 : List TRow, Same H3 H5 ∧ H5 D3 = some (.lst (T2.map fun t => V.ref t.1)) ∧ TOk H5 (rr.map (·.2.1)) T2 ∧ T2.length ≤ j + 1 := ⟨T2, s4, hD4, hok4, Nat.le_succ_of_le hl4⟩
        refine ⟨r'.1, _, rfl, SqL.of (s24 _ _ ra'), rfl, _, _, rfl, _, _, rfl, rfl, rfl, _, rfl, r.2.2.1, _, 1, limV r.2.2.2.2, rfl, rfl, SqT.of (s4 _ _ rb3), atI_nat (j := 1) rfl, rfl, _, rfl, ?_⟩
        cases eh : r.2.2.2.2 with
        | none => exact iteF (iteF keep)
        | some xv =>
          rw [← eh]
          refine iteTe (by rw [eh]; rfl) ⟨_, rfl, r.2.2.1, _, 1, limV r.2.2.2.2, rfl, rfl, SqT.of (s4 _ _ rb3), atI_nat (j := 1) rfl, _, rfl, r'.2.2.1, _, 0, limV r'.2.2.2.1, rfl, rfl, SqT.of (s24 _ _ rb'), atI_nat (j := 0) rfl, limV_scal _ _, _, rfl, ?_⟩
          rw [limV_dec]
          by_cases el : r.2.2.2.2 = r'.2.2.2.1
          · refine iteTe (decide_eq_true el) ⟨_, rfl, _, rfl, r2s, fun t ht => ?_⟩
            have ntD : t ≠ D3 := (ne_of_none hD4 ht).symm
            have s5 := same_new (o := .tup [.str r.2.1, .str r'.2.1]) ht
            refine ⟨_, by rw [upd_ne ntD.symm]; exact hD4, ?_, T2 ++ [(t, r.2.1, r'.2.1)], fun b o e => ?_, by rw [upd_same, List.map_append]; rfl, fun x hx => ?_, by rw [List.length_append, List.length_singleton]; omega⟩
            · rw [List.length_map]
              exact Nat.lt_of_le_of_lt (show T2.length ≤ 100 by omega) (by decide)
            · rw [upd_ne (ne_of_none e hD3)]
              exact s5 _ _ (s4 _ _ e)
            · rcases List.mem_append.mp hx with hx | hx
              · obtain ⟨a1, a2⟩ := hok4 x hx
                exact ⟨by rw [upd_ne (ne_of a1 hD4 (by intro z; cases z))]; exact s5 _ _ a1, a2⟩
              · rw [List.mem_singleton.mp hx]
                refine ⟨by rw [upd_ne ntD, upd_same], List.mem_map.mpr ⟨r, hrm, rfl⟩, List.mem_map.mpr ⟨r', hrm', rfl⟩, fun e => ?_⟩
                have e2 := rr_inj hgnd hrm hrm' e
                rw [← e2] at el
                have ok := G.ok r hrm
                rw [eh] at el
                obtain ⟨a1, a2, a3, lo, hi⟩ := r
                have el : some xv = lo := el
                have eh : hi = some xv := eh
                subst el eh
                have := okS_lt ok
                omega
          · exact iteFe (decide_eq_false el) keep
      · rintro H4 ⟨T2, s4, hD4, hok4, hl4⟩
        rw [List.length_map] at hl4
        refine ⟨tl, D3, _, _, rfl, rfl, s4 _ _ hT3, hD4, ?_, fun tl' htl' => ?_⟩
        · rw [List.length_map, List.length_map]
          exact Nat.le_trans (show _ ≤ 100 by omega) (by decide)
        have s5 := same_new (o := .lst (TL.map (fun t => V.ref t.1) ++ T2.map fun t => V.ref t.1)) htl'
        refine ⟨_, _, tl', TL ++ T2, rfl, s3.trans (s4.trans s5), by rw [upd_same, List.map_append], fun t ht => ?_, by rw [List.length_append]; omega⟩
        rcases List.mem_append.mp ht with ht | ht
        · exact (hok3.mono (s4.trans s5)) t ht
        · exact (hok4.mono s5) t ht
    rintro σ H3 ⟨v6, v7, tl, TL, rfl, s3, hT3, hok3, hlen3⟩
    rw [List.length_map] at hlen3
    have B3 := B2.keep s3
    have hD3 := s3 _ _ hD2
    -- those without the goal
    refine ⟨_, rfl, tl, rfl, ⟨_, SqL.of hT3⟩, fun D4 hD4 => ?_⟩
    refine lc_acc walk_list hD4 (fun H' s => SqL.of (s _ _ hT3)) (fun j => ((TL.take j).filter fun t => !decide (g ∈ [t.2.1, t.2.2])).map fun t => V.ref t.1) rfl (fun j _ => ?_) ?_ ?_
    · rw [List.length_map]
      exact Nat.lt_of_le_of_lt (Nat.le_trans (List.length_filter_le _ _) (Nat.le_trans (List.length_take_le' _ _) (show TL.length ≤ 64 by omega))) (by decide)
    · rintro j x H4 hj hx s4 R S r1 r2
      rw [List.getElem?_map] at hx
      obtain ⟨t, ht, rfl⟩ := Option.map_eq_some_iff.mp hx
      have h1 := s4 _ _ (hok3 t (List.mem_of_getElem? ht)).1
      have stp : (TL.take (j + 1)).filter (fun t => !decide (g ∈ [t.2.1, t.2.2])) = (TL.take j).filter (fun t => !decide (g ∈ [t.2.1, t.2.2])) ++ [t].filter fun t => !decide (g ∈ [t.2.1, t.2.2]) := by
        rw [List.take_add_one, ht, List.filter_append]
        rfl
      refine ⟨rfl, _, rfl, _, rfl, t.1, _, rfl, .inr (SqT.of h1), rfl, rfl, _, rfl, ?_⟩
      have ein : inV (.str g) [.str t.2.1, .str t.2.2] = decide (g ∈ [t.2.1, t.2.2]) := in_strs g [t.2.1, t.2.2]
      by_cases e : g ∈ [t.2.1, t.2.2]
      · exact iteFe (by show (!inV (.str g) [.str t.2.1, .str t.2.2]) = false; rw [ein, decide_eq_true e]; rfl) (r2 _ (by rw [stp, List.map_append, List.filter_cons, decide_eq_true e]; simp) (Same.refl _))
      · exact iteTe (by show (!inV (.str g) [.str t.2.1, .str t.2.2]) = true; rw [ein, decide_eq_false e]; rfl) ⟨_, rfl, r1 _ _ (by rw [stp, List.map_append, List.filter_cons, decide_eq_false e]; simp) (Same.refl _)⟩
    intro H4 s4 hD4'
    rw [List.length_map, List.take_of_length_le (Nat.le_refl _)] at hD4'
    obtain ⟨PL, ePL⟩ : ∃ PL, PL = TL.filter fun t => !decide (g ∈ [t.2.1, t.2.2]) := ⟨_, rfl⟩
    rw [← ePL] at hD4'
    have hPL : ∀ t ∈ PL, t ∈ TL ∧ g ≠ t.2.1 ∧ g ≠ t.2.2 := fun t ht => by
      rw [ePL] at ht
      obtain ⟨h1, h2⟩ := List.mem_filter.mp ht
      have h2 : g ∉ [t.2.1, t.2.2] := by simpa using h2
      exact ⟨h1, fun e => h2 (by rw [e]; exact List.mem_cons_self), fun e => h2 (by rw [e]; exact List.mem_cons_of_mem _ List.mem_cons_self)⟩
    have hokP : TOk H4 (rr.map (·.2.1)) PL := (hok3.mono s4).sub fun t ht => (hPL t ht).1
    have hPLl : PL.length ≤ 64 := by
      have := List.length_filter_le (fun t : TRow => !decide (g ∈ [t.2.1, t.2.2])) TL
      rw [← ePL] at this
      omega
    have B4 := B3.keep s4
    have nD4 := B3.ne hD4
    have hD4D := s4 _ _ hD3
    have nDp : D ≠ p := box_not B4.box hD4D fun i r e => by cases PT <;> cases e
    clear s3 s4 hok3 hlen3 B3 B2 hD3 hT3 hD4 hlr2 hq2 hrows2 hD2 ePL htl1
    have fin : ∀ {Hf : Hp} {l r : Str} {w : Addr} {m : Nat}, BoxIn H0 Hf p m → m ≤ n + 15 → Hf w = none → l ∈ rr.map (·.2.1) ∨ nameS l = true → nameS r = true → l ≠ r → l ≠ g → r ≠ g → Q (.ref w) (upd Hf w (.tup [.str "join", .str l, .str r, .str g])) := fun {Hf l r w m} Bf hm hw hl hr2 e1 e2 e3 => by
      have B9 := Bf.keep (same_new (o := .tup [.str "join", .str l, .str r, .str g]) hw)
      have nw := Bf.ne hw
      refine k _ _ (.ref w) l r B9.all.2 (B9.all.1.mono hm) ⟨w, rfl, SqT.of (by rw [but_ne nw]; exact upd_same), fun n a s e => by cases e⟩ ⟨hl.elim (hgnm l) id, hr2, hg, e1, e2, e3⟩
    -- a pair that touches
    refine ⟨fun σ H' => σ = [some (.ref p), some (.ref q), some (.str nm), some (.str g), some (.ref D), some (.ref tl), v6, v7, some (.ref D4), none, none, none, none] ∧ BoxIn H0 H' p (n + 2) ∧ H' D = some (.lst (PT.map V.str)), ⟨_, rfl, Nat.zero_le _, fun e0 he0 => ?_⟩, ?_⟩
    · have s5 := same_new (o := .lst []) he0
      have hD5 := s5 _ _ hD4'
      have hDD5 := s5 _ _ hD4D
      have hok5 := hokP.mono s5
      have B5 := B4.keep s5
      refine ⟨_, _, .lst (SqL.of hD5) (t_dp hok5), .lst (SqL.of upd_same) .nil, t_sh hok5 hgnm, shaped_nil, _, rfl, ?_⟩
      generalize upd H4 e0 (.lst []) = H5 at s5 hD5 hDD5 hok5 B5 ⊢
      rw [eqv_nil, List.isEmpty_map]
      by_cases hPLc : PL = []
      · exact iteFe (by rw [hPLc]; rfl) (iteF ⟨rfl, B5.mono (by omega), hDD5⟩)
      · have hpos : 0 < PL.length := List.length_pos_iff.mpr hPLc
        refine iteTe (by cases PL with | nil => exact absurd rfl hPLc | cons _ _ => rfl) ⟨_, rfl, but H5 p, p, _, 4, rfl, B5.all.1, by omega, by decide, by decide, fun z1 H6 z10 z11 B6 => ⟨_, _, rfl, rfl, _, rfl, ?_⟩⟩
        have hD6 := B6.same _ _ (show but H5 p D4 = _ by rw [but_ne nD4]; exact hD5)
        have hDD6 := B6.same _ _ (show but H5 p D = _ by rw [but_ne nDp]; exact hDD5)
        have hok6 : TOk H6 (rr.map (·.2.1)) PL := fun t ht => ⟨B6.same _ _ (by rw [but_ne (box_not B5.box (hok5 t ht).1 fun i r e => by cases e)]; exact (hok5 t ht).1), (hok5 t ht).2⟩
        have B6' := B6.low B5.all.2
        refine ite2 (fun _ => ?_) fun _ => ⟨rfl, B6'.mono (by omega), hDD6⟩
        refine ⟨(by show 1 ≤ sizeLine; decide), fun t1 ht1 => ?_⟩
        have s7 := same_new (o := .tup [.str "join"]) ht1
        have ht1' : (upd H6 t1 (.tup [.str "join"])) t1 = some (.tup [.str "join"]) := upd_same
        have nt1 := B6'.ne ht1
        have hD7 := s7 _ _ hD6
        have hok7 := hok6.mono s7
        have B7 := B6'.keep s7
        generalize upd H6 t1 (.tup [.str "join"]) = H7 at s7 ht1' hD7 hok7 B7 ⊢
        refine ⟨_, rfl, _, rfl, _, rfl, D4, _, rfl, .inl (SqL.of hD7), but H7 p, p, _, _, rfl, B7.all.1, by omega, by rw [List.length_map]; omega, by rw [List.length_map]; omega, fun z2 H8 z20 z21 B8 => ?_⟩
        obtain ⟨v, hv, hvm⟩ := atI_in (xs := PL.map fun t => V.ref t.1) z20 z21
        obtain ⟨tt, htt, rfl⟩ := List.mem_map.mp hvm
        obtain ⟨o1, o2, o3, o4⟩ := hok7 tt htt
        obtain ⟨_, o5, o6⟩ := hPL tt htt
        have hD8 := B8.same _ _ (show but H7 p D4 = _ by rw [but_ne nD4]; exact hD7)
        have ht18 := B8.same _ _ (show but H7 p t1 = _ by rw [but_ne nt1]; exact ht1')
        have htt8 := B8.same _ _ (show but H7 p tt.1 = _ by rw [but_ne (box_not B7.box o1 fun i r e => by cases e)]; exact o1)
        have B8' := B8.low B7.all.2
        refine ⟨D4, _, z2, _, rfl, rfl, SqL.of hD8, hv, t1, tt.1, _, _, rfl, rfl, SqT.of ht18, SqT.of htt8, (by show 3 ≤ sizeLine; decide), (fun e => by cases e), (fun _ e => by cases e), fun _ _ u hu => ⟨_, rfl, (by show 1 ≤ sizeLine; decide), fun t3 ht3 => ?_⟩⟩
        have s9 := same_new (o := .tup [.str "join", .str tt.2.1, .str tt.2.2]) hu
        have s10 := same_new (o := .tup [.str g]) ht3
        refine ⟨u, t3, _, _, rfl, rfl, SqT.of (s10 _ _ upd_same), SqT.of upd_same, (by show 4 ≤ sizeLine; decide), (fun e => by cases e), (fun _ e => by cases e), fun _ _ w hw => ?_⟩
        exact fin ((B8'.keep s9).keep s10) (by omega) hw (.inl o2) (hgnm _ o3) o4 (fun e => o5 e.symm) (fun e => o6 e.symm)
    rintro σ H5 ⟨rfl, B5, hD5⟩
    clear hokP hD4' B4 hD4D
    -- two other parts
    refine ⟨fun σ H' => σ = [some (.ref p), some (.ref q), some (.str nm), some (.str g), some (.ref D), some (.ref tl), v6, v7, some (.ref D4), none, none, none, none] ∧ BoxIn H0 H' p (n + 3), ⟨_, rfl, D, _, rfl, .inl (SqL.of hD5), _, _, rfl, rfl, _, rfl, ?_⟩, ?_⟩
    · rw [List.length_map]
      by_cases e2 : (1 : Int) < PT.length
      · refine iteTe (decide_eq_true e2) ⟨_, rfl, but H5 p, p, _, 4, rfl, B5.all.1, by omega, by decide, by decide, fun z1 H6 z10 z11 B6 => ⟨_, _, rfl, rfl, _, rfl, ?_⟩⟩
        have hD6 := B6.same _ _ (show but H5 p D = _ by rw [but_ne nDp]; exact hD5)
        have B6' := B6.low B5.all.2
        refine ite2 (fun _ => ?_) fun _ => ⟨rfl, B6'⟩
        refine ⟨_, rfl, _, rfl, but H6 p, p, D, _, PT.map V.str, rfl, B6'.all.1, hD6, by rw [List.length_map]; omega, by rw [List.length_map]; omega, fun gq H7 ys s7 hg0 hgp hgq hperm B7 => ?_⟩
        obtain ⟨ss, rfl, hss⟩ := strs_of (xs := ys) (W := PT) fun y hy => by
          obtain ⟨s, hs, e⟩ := List.mem_map.mp (hperm.mem_iff.mp hy)
          exact ⟨s, hs, e.symm⟩
        have nds : ss.Nodup := nodup_of_map (hperm.nodup_iff.mpr (nodup_map hPTn))
        have hlen : ss.length = PT.length := by
          have := hperm.length_eq
          rw [List.length_map, List.length_map] at this
          exact this
        refine ⟨2, rfl, gq, _, rfl, SqL.of hgq, fun sl hsl => ?_⟩
        have ecut : cutV (ss.map V.str) none (some (2 : Int)) = (ss.map V.str).take 2 := cut_takeV _ (i := 2) (by rw [List.length_map]; omega)
        rw [ecut]
        match ss, hlen, nds, hss with
        | [], hlen, _, _ => exact absurd hlen (by simp; omega)
        | [_], hlen, _, _ => exact absurd hlen (by simp; omega)
        | a :: b :: t, hlen, nds, hss =>
          have ha := hPT a (hss a List.mem_cons_self)
          have hb := hPT b (hss b (List.mem_cons_of_mem _ List.mem_cons_self))
          have s8 := same_new (o := .lst (((a :: b :: t).map V.str).take 2)) hsl
          have hsl8 : (upd H7 sl (.lst (((a :: b :: t).map V.str).take 2))) sl = some (.lst [.str a, .str b]) := upd_same
          have B8 := (B7.low B6'.all.2).keep s8
          refine ⟨_, rfl, sl, _, 0, .str a, rfl, rfl, SqL.of hsl8, atI_nat (j := 0) rfl, _, rfl, sl, _, 1, .str b, rfl, rfl, SqL.of hsl8, atI_nat (j := 1) rfl, _, rfl, (by show 4 ≤ sizeLine; decide), fun w hw => ?_⟩
          exact fin B8 (by rw [List.length_map]; omega) hw (.inl ha.1) (hgnm _ hb.1) (fun e => (List.nodup_cons.mp nds).1 (by rw [e]; exact List.mem_cons_self)) ha.2 hb.2
      · exact iteFe (decide_eq_false e2) (iteF ⟨rfl, B5.mono (by omega)⟩)
    rintro σ H6 ⟨rfl, B6⟩
    exact ⟨_, rfl, _, rfl, (by show 4 ≤ sizeLine; decide), fun w hw => fin B6 (by omega) hw (.inr hnm) (by decide +kernel) nz ng (fun e => gz e.symm)⟩
theorem ok_law_drawn_change (T : Txt K mg base) : FnOk P w K mg base CX0 4 T.f_law_drawn_change T.fd_law_drawn_change ["_law_box_here", "_law_model_here", "_law_spare_here"] (sp_ldrawn K) := by
  refine T.F_law_drawn_change.ok sc_law_drawn_change (fun vs H Q E h => ?_) (fun cdv A outer s H vs Q E hr h => ?_)
  · obtain ⟨H0, p, q, sl, n, rr, rt, a, b, rfl, _⟩ := h
    rfl
  · obtain ⟨H0, p, q, sl, n, rr, rt, a, b, rfl, B, M, hsl0, G, hzz, hsp, hn, k⟩ := h
    refine ⟨_, (pss_cons (ps_par (i := 3) (j := 4) (by rfl) sc_law_drawn_change.nd rfl rfl (by decide) rfl rfl (pa_cons (pe_call (ok_law_limits T) (hr.mono (by decide)) rfl T.m_law_limits T.F_law_limits.kp T.b_law_limits .nil pass0 (pa_cons (pv 1) pa_nil)) (pa_cons (pe_op op_cat (pe_lc (own := [("_law_own", 11), ("_law_span", 12)]) (g := gLst K 2 (gCons (gName 11) (gCons (gName 12) gNil))) (tt := tYes) rfl sc_law_drawn_change.nd (pi_list (pe_ix ix_list (pv 1) pe_int (fun _ _ => rfl))) (blkOk_by (own := [("_law_own", 11), ("_law_span", 12)]) (N := ["_law_box_here", "_law_model_here", "_law_spare_here", "_law_limits_here", "_law_names_here", "_law_name", "_law_other", "_law_fresh", "_law_at", "_law_way", "_law_high", "_law_own", "_law_span", "_law_limit"]) (sc := defScope s_law_drawn_change) (by decide +kernel)) (fun _ _ _ _ _ => (pg_lst rfl (pgs_cons (pg_name (i := 11) sc_law_drawn_change.nd rfl (Or.inl rfl)) (pgs_cons (pg_name (i := 12) sc_law_drawn_change.nd rfl (Or.inl rfl)) pgs_nil)))) (fun _ _ _ _ _ => pts_nil) (fun _ _ _ _ _ => (pv 11))) (pe_lst (pa_cons (pe_orT (pe_ix ix_list (pv 1) pe_int (fun _ _ => rfl)) (pe_one pe_str)) (pa_cons pe_str pa_nil)))) pa_nil)) (by rfl))
        (pss_cons (ps_par (i := 5) (j := 6) (by rfl) sc_law_drawn_change.nd rfl rfl (by decide) rfl rfl (pa_cons (pe_ix ix_list (pv 4) (pe_call (ok_law_take T) (hr.mono (by decide)) rfl T.m_law_take T.F_law_take.kp T.b_law_take .nil pass0 (pa_cons (pv 0) (pa_cons (pe_callB (id := "len") call_len_seq (by rfl) T.z_len (by decide +kernel) (pa_cons (pv 4) pa_nil)) pa_nil))) (fun _ _ => rfl)) (pa_cons (pe_ix ix_list (pv 4) (pe_call (ok_law_take T) (hr.mono (by decide)) rfl T.m_law_take T.F_law_take.kp T.b_law_take .nil pass0 (pa_cons (pv 0) (pa_cons (pe_callB (id := "len") call_len_seq (by rfl) T.z_len (by decide +kernel) (pa_cons (pv 4) pa_nil)) pa_nil))) (fun _ _ => rfl)) pa_nil)) (by rfl))
        (pss_cons (ps_set (i := 7) sc_law_drawn_change.nd rfl (Or.inl rfl) (pe_callTy (T := "list") call_list_of (by rfl) T.z_list (by decide +kernel) (pa_cons (pv 2) pa_nil)))
        (C8.pss_cut (ps_if (PW.pt (pw_and (pt_cmpR op_eq (pe_call (ok_law_take T) (hr.mono (by decide)) rfl T.m_law_take T.F_law_take.kp T.b_law_take .nil pass0 (pa_cons (pv 0) (pa_cons pe_int pa_nil))) pe_int (nomark _)) (pw_and1 (pt_cmpR op_ne (pv 6) (pv 5) (nomark _))))) (pss_one (ps_asg (pv 6) (pg_sub (pv 7) (pe_call (ok_law_take T) (hr.mono (by decide)) rfl T.m_law_take T.F_law_take.kp T.b_law_take .nil pass0 (pa_cons (pv 0) (pa_cons pe_int pa_nil))) set_list))) pss_nil)
        (pss_cons (ps_set (i := 8) sc_law_drawn_change.nd rfl (Or.inr rfl) (pe_op op_add (pe_ix ix_list (pv 3) (pe_call (ok_law_take T) (hr.mono (by decide)) rfl T.m_law_take T.F_law_take.kp T.b_law_take .nil pass0 (pa_cons (pv 0) (pa_cons (pe_callB (id := "len") call_len_seq (by rfl) T.z_len (by decide +kernel) (pa_cons (pv 3) pa_nil)) pa_nil))) (fun _ _ => rfl)) (pe_ix ix_list (pe_lst (pa_cons pe_int (pa_cons pe_int (pa_cons (pe_un un_neg pe_int) (pa_cons pe_int pa_nil))))) (pe_call (ok_law_take T) (hr.mono (by decide)) rfl T.m_law_take T.F_law_take.kp T.b_law_take .nil pass0 (pa_cons (pv 0) (pa_cons pe_int pa_nil))) (fun _ _ => rfl))))
        (pss_cons (ps_set (i := 9) sc_law_drawn_change.nd rfl (Or.inl rfl) (pe_call (ok_law_take T) (hr.mono (by decide)) rfl T.m_law_take T.F_law_take.kp T.b_law_take .nil pass0 (pa_cons (pv 0) (pa_cons pe_int pa_nil))))
        (pss_cons (ps_if (pt_cmpR op_eq (pv 9) pe_int (nomark _)) (pss_cons (ps_set (i := 10) sc_law_drawn_change.nd rfl (Or.inl rfl) (pe_op op_cat (pe_lc (own := [("_law_limit", 13)]) (g := gName 13) rfl sc_law_drawn_change.nd (pi_list (pv 3)) (blkOk_by (own := [("_law_limit", 13)]) (N := ["_law_box_here", "_law_model_here", "_law_spare_here", "_law_limits_here", "_law_names_here", "_law_name", "_law_other", "_law_fresh", "_law_at", "_law_way", "_law_high", "_law_own", "_law_span", "_law_limit"]) (sc := defScope s_law_drawn_change) (by decide +kernel)) (fun _ _ _ _ _ => (pg_name (i := 13) sc_law_drawn_change.nd rfl (Or.inl rfl))) (fun _ _ _ _ _ => (pts_one (pt_cmpR op_gt (pv 13) (pv 8) (nomark _)))) (fun _ _ _ _ _ => (pv 13))) (pe_lst (pa_cons (pe_op op_add (pv 8) pe_int) pa_nil))))
        (pss_one (ps_ret (pe_tup (pa_cons pe_str (pa_cons (pe_ix ix_list (pe_lst (pa_cons (pe_ix ix_list (pv 2) pe_int (fun _ _ => rfl)) (pa_cons (pe_ix ix_list (pv 2) pe_int (fun _ _ => rfl)) (pa_cons (pv 5) pa_nil)))) (pe_call (ok_law_take T) (hr.mono (by decide)) rfl T.m_law_take T.F_law_take.kp T.b_law_take .nil pass0 (pa_cons (pv 0) (pa_cons pe_int pa_nil))) (fun _ _ => rfl)) (pa_cons (pe_tup (pa_cons (pv 8) (pa_cons (pe_ix ix_list (pv 10) pe_int (fun _ _ => rfl)) pa_nil))) pa_nil))))))) pss_nil)
        (pss_cons (ps_if (pt_cmpR op_eq (pv 9) pe_int (nomark _)) (pss_one (ps_ret (pe_tup (pa_cons pe_str (pa_cons (pe_ix ix_list (pv 2) pe_int (fun _ _ => rfl)) (pa_cons (pe_ix ix_list (pe_lst (pa_cons (pe_tup (pa_cons pe_non (pa_cons (pv 8) pa_nil))) (pa_cons (pe_tup (pa_cons (pv 8) (pa_cons (pe_op op_add (pv 8) pe_int) pa_nil))) pa_nil))) (pe_call (ok_law_take T) (hr.mono (by decide)) rfl T.m_law_take T.F_law_take.kp T.b_law_take .nil pass0 (pa_cons (pv 0) (pa_cons pe_int pa_nil))) (fun _ _ => rfl)) pa_nil)))))) pss_nil)
        (pss_cons (ps_if (pt_cmpR op_eq (pv 9) pe_int (nomark _)) (pss_one (ps_ret (pe_tup (pa_cons pe_str (pa_cons (pv 5) pa_nil))))) pss_nil)
        (pss_cons (ps_if (pt_cmpR op_eq (pv 9) pe_int (nomark _)) (pss_one (ps_ret (pe_tup (pa_cons pe_str (pa_cons (pv 5) (pa_cons (pv 8) (pa_cons (pe_ix ix_list (pv 7) pe_int (fun _ _ => rfl)) (pa_cons (pe_ix ix_list (pv 7) pe_int (fun _ _ => rfl)) pa_nil)))))))) pss_nil)
        (pss_one (ps_ret (pe_call (ok_law_drawn_join T) hr rfl T.m_law_drawn_join T.F_law_drawn_join.kp T.b_law_drawn_join .nil pass0 (pa_cons (pv 0) (pa_cons (pv 1) (pa_cons (pv 5) (pa_cons (pe_ifExp (pt_cmpR op_eq (pe_ix ix_list (pv 7) pe_int (fun _ _ => rfl)) (pv 5) (nomark _)) (pe_ix ix_list (pv 2) pe_int (fun _ _ => rfl)) (pe_ix ix_list (pv 7) pe_int (fun _ _ => rfl))) pa_nil))))))))))))))))), ?_⟩
    have hl8 := rr_len G.len
    have r2s : (2 : Nat) ≤ sizeLine := by decide
    refine ⟨_, rfl, q, rr, rt, rfl, M.mono B.same, hl8, fun H1 ll LL s1 hll0 hll hpos hlen => ?_⟩
    have B1 := B.keep s1
    have nll := B.ne hll0
    obtain ⟨⟨lr, ys, hq0, hlr0⟩, hrows0⟩ := id M
    have hq1 := B1.same _ _ hq0
    have hlr1 := B1.same _ _ hlr0
    have hrows1 : ∀ r ∈ rr, rowAt H1 r := fun r hr' => ⟨B1.same _ _ (hrows0 r hr').1, B1.same _ _ (hrows0 r hr').2⟩
    refine ⟨_, rfl, q, _, 0, .ref lr, rfl, rfl, SqL.of hq1, atI_nat (j := 0) rfl, lr, rfl, ⟨_, SqL.of hlr1⟩, fun D hD => ?_⟩
    refine lc_acc walk_list hD (fun H' s => SqL.of (s _ _ hlr1)) (fun j => (rr.take j).map fun r => V.str r.2.1) rfl (fun j _ => ?_) ?_ ?_
    · rw [List.length_map]
      exact Nat.lt_of_le_of_lt (Nat.le_trans (List.length_take_le' _ _) hl8) (by decide)
    · rintro j x H2 hj hx s2 R S r1 r2
      rw [List.getElem?_map] at hx
      obtain ⟨r, hr1, rfl⟩ := Option.map_eq_some_iff.mp hx
      have hr2 := s2 _ _ (hrows1 r (List.mem_of_getElem? hr1)).1
      refine ⟨r.1, _, rfl, SqL.of hr2, rfl, _, _, rfl, _, _, rfl, rfl, ?_⟩
      exact ⟨rfl, tyes ⟨_, rfl, r1 _ _ (by rw [List.take_add_one, hr1]; simp) (Same.refl _)⟩⟩
    intro H2 s2 hD2
    have hD2 : H2 D = some (.lst ((rr.map (·.2.1)).map V.str)) := by
      rw [hD2, List.length_map, List.take_of_length_le (Nat.le_refl _), List.map_map]
      rfl
    have hq2 := s2 _ _ hq1
    have hll2 := s2 _ _ hll
    have B2 := B1.keep s2
    have hrt : ∀ s, rt = some s → nameS s = true := fun s e => (G.rest s e).1
    refine ⟨_, rfl, q, _, 1, rvO rt, rfl, rfl, SqL.of hq2, atI_nat (j := 1) rfl, or_tail hrt ?_⟩
    refine ⟨r2s, fun g hg => ?_⟩
    have s3 := same_new (o := .lst [.str (rt.getD "zz"), .str "zzz"]) hg
    refine ⟨D, g, _, _, rfl, rfl, s3 _ _ hD2, upd_same, ?_, fun nl hnl => ⟨_, _, rfl, ?_⟩⟩
    · rw [List.length_map, List.length_map]
      exact Nat.le_trans (show _ ≤ 100 by simp only [List.length_cons, List.length_nil]; omega) (by decide)
    obtain ⟨NN, eNN⟩ : ∃ NN, NN = rr.map (·.2.1) ++ [rt.getD "zz", "zzz"] := ⟨_, rfl⟩
    have s4 := same_new (o := .lst ((rr.map (·.2.1)).map V.str ++ [.str (rt.getD "zz"), .str "zzz"])) hnl
    have hnl4 : (upd (upd H2 g (.lst [.str (rt.getD "zz"), .str "zzz"])) nl (.lst ((rr.map (·.2.1)).map V.str ++ [.str (rt.getD "zz"), .str "zzz"]))) nl = some (.lst (NN.map V.str)) := by
      rw [upd_same, eNN, List.map_append]
      rfl
    have nnl : nl ≠ p := B2.ne (s3.free hnl)
    have d4 : Dr H0 _ p n ll LL nl NN := ⟨B2.keep (s3.trans s4), nll, (s3.trans s4) _ _ hll2, nnl, hnl4⟩
    generalize upd (upd H2 g (.lst [.str (rt.getD "zz"), .str "zzz"])) nl (.lst ((rr.map (·.2.1)).map V.str ++ [.str (rt.getD "zz"), .str "zzz"])) = H4 at d4 ⊢
    have hNN : ∀ s ∈ NN, nameS s = true ∧ s ≠ ("zzzz" : Str) ∧ s ≠ a ∧ s ≠ b := fun s hs => by
      obtain ⟨p1, p2, p3, p4, p5, p6⟩ := hsp
      have w3 : nameS "zz" = true ∧ nameS "zzz" = true ∧ ("zz" : Str) ≠ "zzzz" ∧ ("zzz" : Str) ≠ "zzzz" := by decide +kernel
      have nmM : ∀ s ∈ namesM rr rt, nameS s = true ∧ s ≠ ("zzzz" : Str) ∧ s ≠ a ∧ s ≠ b := fun s hs => ⟨G.nms s hs, hzz s hs, fun e => p4 (by rw [← e]; exact hs), fun e => p5 (by rw [← e]; exact hs)⟩
      rw [eNN] at hs
      rcases List.mem_append.mp hs with hs | hs
      · exact nmM s (List.mem_append_left _ hs)
      · rcases List.mem_cons.mp hs with rfl | hs
        · cases rt with
          | none => exact ⟨w3.1, w3.2.2.1, fun e => (p6 "zz" (by simp)).1 e.symm, fun e => (p6 "zz" (by simp)).2 e.symm⟩
          | some r0 => exact nmM r0 (List.mem_append_right _ List.mem_cons_self)
        · rw [List.mem_singleton.mp hs]
          exact ⟨w3.2.1, w3.2.2.2, fun e => (p6 "zzz" (by simp)).1 e.symm, fun e => (p6 "zzz" (by simp)).2 e.symm⟩
    have hNl : 0 < NN.length ∧ NN.length ≤ 20 := by
      rw [eNN, List.length_append, List.length_map]
      simp only [List.length_cons, List.length_nil]
      omega
    clear s1 s2 s3 s4 hg hnl hnl4 hD2 hll2 hq2 B2 B1 hq1 hlr1 hrows1 hq0 hlr0 hrows0 hll0 hll hD eNN B
    -- a name and another
    refine ⟨_, rfl, _, rfl, _, rfl, nl, _, rfl, .inl (SqL.of d4.n), but H4 p, p, _, _, rfl, d4.box.all.1, by omega, by rw [List.length_map]; omega, by rw [List.length_map]; omega, fun z1 H5 z10 z11 B5 => ?_⟩
    have d5 := d4.draw B5
    obtain ⟨v1, hv1, hm1⟩ := atI_in (xs := NN.map V.str) z10 z11
    obtain ⟨nm, hnm, rfl⟩ := List.mem_map.mp hm1
    refine ⟨nl, _, z1, _, rfl, rfl, SqL.of d5.n, hv1, _, rfl, _, rfl, _, rfl, nl, _, rfl, .inl (SqL.of d5.n), but H5 p, p, _, _, rfl, d5.box.all.1, by omega, by rw [List.length_map]; omega, by rw [List.length_map]; omega, fun z2 H6 z20 z21 B6 => ?_⟩
    have d6 := d5.draw B6
    obtain ⟨v2, hv2, hm2⟩ := atI_in (xs := NN.map V.str) z20 z21
    obtain ⟨ot, hot, rfl⟩ := List.mem_map.mp hm2
    have hnmN := hNN nm hnm
    have hotN := hNN ot hot
    refine ⟨nl, _, z2, _, rfl, rfl, SqL.of d6.n, hv2, _, _, rfl, ?_⟩
    have hsl6 := d6.box.same _ _ hsl0
    clear d4 d5 B5 B6 hm1 hm2 hv1 hv2 z10 z11 z20 z21
    -- the fresh ones
    refine ⟨_, rfl, sl, _, rfl, .inl (SqL.of hsl6), fun fr hfr => ?_⟩
    have s7 := same_new (o := .lst [.str a, .str b]) hfr
    have hfr7 : (upd H6 fr (.lst [.str a, .str b])) fr = some (.lst [.str a, .str b]) := upd_same
    have nfr := d6.box.ne hfr
    have fr0 : H0 fr = none := d6.box.same.free hfr
    have nfl : ll ≠ fr := ne_of_none d6.l hfr
    have nfn : nl ≠ fr := ne_of_none d6.n hfr
    have d7 := d6.keep s7
    generalize upd H6 fr (.lst [.str a, .str b]) = H7 at s7 hfr7 d7 ⊢
    clear d6 s7 hfr hsl6
    refine ⟨fun σ H' => ∃ f1 f2 : Str, σ = [some (.ref p), some (.ref q), some (.ref sl), some (.ref ll), some (.ref nl), some (.str nm), some (.str ot), some (.ref fr), none, none, none, none, none, none] ∧ Dr H0 H' p (n + 4) ll LL nl NN ∧ H' fr = some (.lst [.str f1, .str f2]) ∧ nameS f1 = true ∧ nameS f2 = true ∧ f1 ≠ f2 ∧ nm ≠ f1 ∧ nm ≠ f2 ∧ f1 ≠ ("zzzz" : Str) ∧ f2 ≠ ("zzzz" : Str), ⟨_, rfl, but H7 p, p, _, 4, rfl, d7.box.all.1, by omega, by decide, by decide, fun z3 H8 z30 z31 B8 => ⟨rfl, _, rfl, ?_⟩⟩, ?_⟩
    · obtain ⟨p1, p2, p3, p4, p5, p6⟩ := hsp
      have d8 := d7.draw B8
      have hfr8 := box_keep B8 nfr hfr7
      have same : Dr H0 H8 p (n + 4) ll LL nl NN ∧ H8 fr = some (.lst [.str a, .str b]) ∧ nameS a = true ∧ nameS b = true ∧ a ≠ b ∧ nm ≠ a ∧ nm ≠ b ∧ a ≠ ("zzzz" : Str) ∧ b ≠ ("zzzz" : Str) := ⟨⟨d8.box.mono (by omega), d8.lp, d8.l, d8.np, d8.n⟩, hfr8, p2, p3, p1, hnmN.2.2.1, hnmN.2.2.2, (p6 "zzzz" (by simp)).1, (p6 "zzzz" (by simp)).2⟩
      refine ite2 (fun _ => ?_) fun _ => iteF ⟨a, b, rfl, same⟩
      refine ⟨_, rfl, _, rfl, rfl, _, rfl, ?_⟩
      by_cases eo : ot = nm
      · exact iteFe (by rw [eo]; simp) ⟨a, b, rfl, same⟩
      · refine iteTe (by simp [eo]) ⟨_, rfl, _, rfl, _, rfl, but H8 p, p, _, 2, rfl, d8.box.all.1, by omega, by decide, by decide, fun z4 H9 z40 z41 B9 => ?_⟩
        have d9 := d8.draw B9
        have hfr9 := box_keep B9 nfr hfr8
        have up : ∀ {o : HO}, Dr H0 (upd H9 fr o) p (n + 4) ll LL nl NN := fun {o} => ⟨(d9.box.mut nfr fr0).mono (by omega), d9.lp, by rw [upd_ne nfl]; exact d9.l, d9.np, by rw [upd_ne nfn]; exact d9.n⟩
        have hz4 : z4 = 0 ∨ z4 = 1 := by omega
        rcases hz4 with rfl | rfl
        · exact ⟨fr, _, 0, 0, rfl, rfl, hfr9, rfl, ot, b, rfl, up, upd_same, hotN.1, p3, hotN.2.2.2, fun e => eo e.symm, hnmN.2.2.2, hotN.2.1, (p6 "zzzz" (by simp)).2⟩
        · exact ⟨fr, _, 1, 1, rfl, rfl, hfr9, rfl, a, ot, rfl, up, upd_same, p2, hotN.1, fun e => hotN.2.2.1 e.symm, hnmN.2.2.1, fun e => eo e.symm, (p6 "zzzz" (by simp)).1, hotN.2.1⟩
    clear d7 hfr7
    rintro σ H8 ⟨f1, f2, rfl, d8, hfr8, n1, n2, n3, n4, n5, n6, n7⟩
    have hsl8 := d8.box.same _ _ hsl0
    have nsl : sl ≠ p := box_not d8.box.box hsl8 fun i r e => by cases e
    obtain ⟨p1, p2, p3, p4, p5, p6⟩ := hsp
    have az := (p6 "zzzz" (by simp)).1
    -- the key
    refine ⟨_, rfl, _, rfl, _, rfl, ll, _, rfl, .inl (SqL.of d8.l), but H8 p, p, _, _, rfl, d8.box.all.1, by omega, by rw [List.length_map]; omega, by rw [List.length_map]; omega, fun z5 H9 z50 z51 B9 => ?_⟩
    have d9 := d8.draw B9
    have hfr9 := box_keep B9 nfr hfr8
    have hsl9 := box_keep B9 nsl hsl8
    obtain ⟨v5, hv5, hm5⟩ := atI_in (xs := LL.map V.int) z50 z51
    obtain ⟨i0, hi0, rfl⟩ := List.mem_map.mp hm5
    refine ⟨ll, _, z5, _, rfl, rfl, SqL.of d9.l, hv5, 1, rfl, (by show 4 ≤ sizeLine; decide), fun dl hdl => ?_⟩
    have s10 := same_new (o := .lst [.int 0, .int 1, .int (-1), .int 3]) hdl
    have hdl10 : (upd H9 dl (.lst [.int 0, .int 1, .int (-1), .int 3])) dl = some (.lst ([0, 1, -1, 3].map V.int)) := upd_same
    have ndl := d9.box.ne hdl
    have d10 := d9.keep s10
    have hfr10 := s10 _ _ hfr9
    have hsl10 := s10 _ _ hsl9
    generalize upd H9 dl (.lst [.int 0, .int 1, .int (-1), .int 3]) = H10 at hdl10 d10 hfr10 hsl10 ⊢
    refine ⟨_, rfl, but H10 p, p, _, 4, rfl, d10.box.all.1, by omega, by decide, by decide, fun z6 H11 z60 z61 B11 => ?_⟩
    have d11 := d10.draw B11
    have hfr11 := box_keep B11 nfr hfr10
    have hsl11 := box_keep B11 nsl hsl10
    obtain ⟨v6, hv6, hm6⟩ := atI_in (xs := ([0, 1, -1, 3] : List Int).map V.int) z60 z61
    obtain ⟨j0, hj0, rfl⟩ := List.mem_map.mp hm6
    obtain ⟨at_, ea⟩ : ∃ at_ : Int, at_ = i0 + j0 := ⟨_, rfl⟩
    refine ⟨dl, _, z6, _, rfl, rfl, SqL.of (box_keep B11 ndl hdl10), hv6, add_v ea ?_⟩
    clear B9 B11 d9 d10 hfr8 hfr9 hfr10 hsl8 hsl9 hsl10 hdl10 s10 hdl ndl hv5 hv6 hm5 hm6 z50 z51 z60 z61 d8
    -- the way
    refine ⟨_, rfl, but H11 p, p, _, 7, rfl, d11.box.all.1, by omega, by decide, by decide, fun way H12 z70 z71 B12 => ?_⟩
    have d12 := d11.draw B12
    have hfr12 := box_keep B12 nfr hfr11
    have hsl12 := box_keep B12 nsl hsl11
    clear B12 d11 hfr11 hsl11
    have finh : ∀ {Hf : Hp} {x w : Addr} {m : Nat} {m1 : Str} {sp : Span}, BoxIn H0 Hf p m → m ≤ n + 40 → Hf x = some (.tup (spV sp)) → okS sp = true → nameS m1 = true → m1 ≠ ("zzzz" : Str) → Hf w = none → Q (.ref w) (upd Hf w (.tup [.str "hang", .str m1, .ref x])) := fun {Hf x w m m1 sp} Bf hm hx hs h1 h2 hw => by
      have sw := same_new (o := .tup [.str "hang", .str m1, .ref x]) hw
      have B9 := Bf.keep sw
      have nw := Bf.ne hw
      have nx : x ≠ p := box_not Bf.box hx fun i r e => by cases e
      have hx9 : but (upd Hf w (.tup [.str "hang", .str m1, .ref x])) p x = some (.tup (spV sp)) := by rw [but_ne nx]; exact sw _ _ hx
      exact k _ _ (.ref w) (.hang m1 x sp) B9.all.2 (B9.all.1.mono hm) ⟨w, rfl, SqT.of (by rw [but_ne nw]; exact upd_same), fun n a s e => by cases e; exact SqT.of hx9⟩ (fun n a s e => by cases e; exact hx9) ⟨h1, hs⟩ fun s hs' => by rw [List.mem_singleton.mp hs']; exact h2
    refine ⟨_, rfl, rfl, _, rfl, ite2 (fun _ => ?_) fun _ => ⟨_, rfl, rfl, _, rfl, ite2 (fun _ => ?_) fun _ => ⟨_, rfl, rfl, _, rfl, ite2 (fun _ => ?_) fun _ => ⟨_, rfl, rfl, _, rfl, ite2 (fun _ => ?_) fun _ => ?_⟩⟩⟩⟩
    · -- hang, up to the next limit
      refine ⟨_, rfl, ll, rfl, ⟨_, SqL.of d12.l⟩, fun D hD => ?_⟩
      refine lc_acc walk_list hD (fun H' s => SqL.of (s _ _ d12.l)) (fun j => ((LL.take j).filter fun i => decide (at_ < i)).map V.int) rfl (fun j _ => ?_) ?_ ?_
      · rw [List.length_map]
        exact Nat.lt_of_le_of_lt (Nat.le_trans (List.length_filter_le _ _) (Nat.le_trans (List.length_take_le' _ _) hlen)) (by decide)
      · rintro j y H5 hj hy s5 R S r1 r2
        rw [List.getElem?_map] at hy
        obtain ⟨i, hi, rfl⟩ := Option.map_eq_some_iff.mp hy
        refine ⟨rfl, _, rfl, _, rfl, _, _, rfl, rfl, _, rfl, ?_⟩
        cases e : decide (at_ < i) with
        | true => exact iteT ⟨_, rfl, r1 _ _ (by rw [List.take_add_one, hi, List.filter_append, List.map_append]; simp [of_decide_eq_true e]) (Same.refl _)⟩
        | false => exact iteF (r2 _ (by rw [List.take_add_one, hi, List.filter_append, List.map_append]; simp [of_decide_eq_false e]) (Same.refl _))
      intro H13 s13 hD13
      have hD13 : H13 D = some (.lst ((LL.filter fun i => decide (at_ < i)).map V.int)) := by
        rw [hD13, List.length_map, List.take_of_length_le (Nat.le_refl _)]
      refine ⟨_, rfl, _, _, rfl, rfl, (by show 1 ≤ sizeLine; decide), fun g hg => ⟨D, g, _, _, rfl, rfl, same_new hg _ _ hD13, upd_same, ?_, fun l4 hl4 => ?_⟩⟩
      · have := List.length_filter_le (fun i => decide (at_ < i)) LL
        rw [List.length_map]
        exact Nat.le_trans (show _ ≤ 100 by simp only [List.length_cons, List.length_nil]; omega) (by decide)
      have s14 := same_new (o := .lst [.int (at_ + 1)]) hg
      have s15 := same_new (o := .lst ((LL.filter fun i => decide (at_ < i)).map V.int ++ [.int (at_ + 1)])) hl4
      obtain ⟨EE, eE⟩ : ∃ EE, EE = (LL.filter fun i => decide (at_ < i)) ++ [at_ + 1] := ⟨_, rfl⟩
      have hE : (upd (upd H13 g (.lst [.int (at_ + 1)])) l4 (.lst ((LL.filter fun i => decide (at_ < i)).map V.int ++ [.int (at_ + 1)]))) l4 = some (.lst (EE.map V.int)) := by
        rw [upd_same, eE, List.map_append]
        rfl
      have gE : ∀ e ∈ EE, at_ < e := fun e he => by
        rw [eE] at he
        rcases List.mem_append.mp he with he | he
        · exact of_decide_eq_true (List.mem_filter.mp he).2
        · rw [List.mem_singleton.mp he]; omega
      obtain ⟨e0, he0⟩ : ∃ e0, EE[0]? = some e0 := ⟨_, List.getElem?_eq_getElem (by rw [eE, List.length_append, List.length_singleton]; omega)⟩
      have sx := s13.trans (s14.trans s15)
      have nl4 : l4 ≠ p := d12.box.ne (s13.free (s14.free hl4))
      have d16 := d12.keep sx
      have hsl16 := sx _ _ hsl12
      generalize upd (upd H13 g (.lst [.int (at_ + 1)])) l4 (.lst ((LL.filter fun i => decide (at_ < i)).map V.int ++ [.int (at_ + 1)])) = H16 at hE d16 hsl16 ⊢
      refine ⟨_, rfl, sl, _, 0, .str a, rfl, rfl, SqL.of hsl16, atI_nat (j := 0) rfl, _, rfl, sl, _, 0, .str a, rfl, rfl, SqL.of hsl16, atI_nat (j := 0) rfl, _, rfl, (by show 3 ≤ sizeLine; decide), fun l3 hl3 => ?_⟩
      have s17 := same_new (o := .lst [.str a, .str a, .str nm]) hl3
      have hl17 : (upd H16 l3 (.lst [.str a, .str a, .str nm])) l3 = some (.lst ([a, a, nm].map V.str)) := upd_same
      have nl3 := d16.box.ne hl3
      have d17 := d16.keep s17
      have hE17 := s17 _ _ hE
      generalize upd H16 l3 (.lst [.str a, .str a, .str nm]) = H17 at hl17 d17 hE17 ⊢
      refine ⟨_, rfl, but H17 p, p, _, 3, rfl, d17.box.all.1, by omega, by decide, by decide, fun z8 H18 z80 z81 B18 => ?_⟩
      have d18 := d17.draw B18
      obtain ⟨v8, hv8, hm8⟩ := atI_in (xs := ([a, a, nm] : List Str).map V.str) z80 z81
      obtain ⟨m1, hm1, rfl⟩ := List.mem_map.mp hm8
      have hm1' : nameS m1 = true ∧ m1 ≠ ("zzzz" : Str) := by
        simp only [List.mem_cons, List.not_mem_nil, or_false] at hm1
        rcases hm1 with rfl | rfl | rfl
        · exact ⟨p2, az⟩
        · exact ⟨p2, az⟩
        · exact ⟨hnmN.1, hnmN.2.1⟩
      refine ⟨l3, _, z8, _, rfl, rfl, SqL.of (box_keep B18 nl3 hl17), hv8, _, rfl, _, rfl, l4, _, 0, .int e0, rfl, rfl, SqL.of (box_keep B18 nl4 hE17), atI_nat (j := 0) (by rw [List.getElem?_map, he0]; rfl), r2s, fun x hx => ⟨(by show 3 ≤ sizeLine; decide), fun w hw => ?_⟩⟩
      exact finh (sp := (some at_, some e0)) (d18.box.keep (same_new hx)) (by omega) upd_same (decide_eq_true (gE _ (List.mem_of_getElem? he0))) hm1'.1 hm1'.2 hw
    · -- hang, without a low limit or short
      refine ⟨_, rfl, sl, _, 0, .str a, rfl, rfl, SqL.of hsl12, atI_nat (j := 0) rfl, _, rfl, r2s, fun t1 ht1 => ?_⟩
      have s13 := same_new (o := .tup [.non, .int at_]) ht1
      refine ⟨_, rfl, _, rfl, _, _, rfl, rfl, r2s, fun t2 ht2 => ⟨r2s, fun l3 hl3 => ?_⟩⟩
      have s14 := same_new (o := .tup [.int at_, .int (at_ + 2)]) ht2
      have s15 := same_new (o := .lst [.ref t1, .ref t2]) hl3
      have h1 := s15 _ _ (s14 _ _ (upd_same (H := H12) (a := t1) (o := .tup [.non, .int at_])))
      have h2 := s15 _ _ (upd_same (H := upd H12 t1 (.tup [.non, .int at_])) (a := t2) (o := .tup [.int at_, .int (at_ + 2)]))
      have h3 : (upd (upd (upd H12 t1 (.tup [.non, .int at_])) t2 (.tup [.int at_, .int (at_ + 2)])) l3 (.lst [.ref t1, .ref t2])) l3 = some (.lst [.ref t1, .ref t2]) := upd_same
      have d15 := d12.keep (s13.trans (s14.trans s15))
      have nl3 : l3 ≠ p := d12.box.ne (s13.free (s14.free hl3))
      generalize upd (upd (upd H12 t1 (.tup [.non, .int at_])) t2 (.tup [.int at_, .int (at_ + 2)])) l3 (.lst [.ref t1, .ref t2]) = H15 at h1 h2 h3 d15 ⊢
      have nt1 : t1 ≠ p := box_not d15.box.box h1 fun i r e => by cases e
      have nt2 : t2 ≠ p := box_not d15.box.box h2 fun i r e => by cases e
      refine ⟨_, rfl, but H15 p, p, _, 2, rfl, d15.box.all.1, by omega, by decide, by decide, fun z8 H18 z80 z81 B18 => ?_⟩
      have d18 := d15.draw B18
      obtain ⟨v8, hv8, hm8⟩ := atI_in (xs := [V.ref t1, V.ref t2]) z80 z81
      refine ⟨l3, _, z8, v8, rfl, rfl, SqL.of (box_keep B18 nl3 h3), hv8, (by show 3 ≤ sizeLine; decide), fun w hw => ?_⟩
      simp only [List.mem_cons, List.not_mem_nil, or_false] at hm8
      rcases hm8 with rfl | rfl
      · exact finh (sp := (none, some at_)) d18.box (by omega) (box_keep B18 nt1 h1) rfl p2 az hw
      · exact finh (sp := (some at_, some (at_ + 2))) d18.box (by omega) (box_keep B18 nt2 h2) (decide_eq_true (by omega)) p2 az hw
    · -- take
      refine ⟨_, rfl, r2s, fun w hw => ?_⟩
      have B9 := d12.box.keep (same_new (o := .tup [.str "take", .str nm]) hw)
      have nw := d12.box.ne hw
      exact k _ _ (.ref w) (.take nm) B9.all.2 (B9.all.1.mono (by omega)) ⟨w, rfl, SqT.of (by rw [but_ne nw]; exact upd_same), fun n a s e => by cases e⟩ (fun n a s e => by cases e) hnmN.1 fun s hs => by cases hs
    · -- split
      refine ⟨_, rfl, _, rfl, _, rfl, fr, _, 0, .str f1, rfl, rfl, SqL.of hfr12, atI_nat (j := 0) rfl, _, rfl, fr, _, 1, .str f2, rfl, rfl, SqL.of hfr12, atI_nat (j := 1) rfl, (by show 5 ≤ sizeLine; decide), fun w hw => ?_⟩
      have B9 := d12.box.keep (same_new (o := .tup [.str "split", .str nm, .int at_, .str f1, .str f2]) hw)
      have nw := d12.box.ne hw
      refine k _ _ (.ref w) (.split nm at_ f1 f2) B9.all.2 (B9.all.1.mono (by omega)) ⟨w, rfl, SqT.of (by rw [but_ne nw]; exact upd_same), fun n a s e => by cases e⟩ (fun n a s e => by cases e) ⟨hnmN.1, n1, n2, n4, n5, n3⟩ fun s hs => ?_
      rcases List.mem_cons.mp hs with rfl | hs
      · exact n6
      · rw [List.mem_singleton.mp hs]; exact n7
    · -- join
      refine ⟨_, rfl, _, rfl, _, rfl, _, rfl, fr, _, 0, .str f1, rfl, rfl, SqL.of hfr12, atI_nat (j := 0) rfl, _, rfl, rfl, _, rfl, iteFe (by simp [Ne.symm n4]) ⟨_, rfl, fr, _, 0, .str f1, rfl, rfl, SqL.of hfr12, atI_nat (j := 0) rfl, ?_⟩⟩
      exact ⟨H0, p, q, _, rr, rt, nm, f1, rfl, d12.box, M, G, hnmN.1, n1, n4, hnmN.2.1, n6, by omega, fun H1 H' w l r sH BH hw hc => k H1 H' w (.join l r f1) sH (BH.mono (by omega)) hw (fun n a s e => by cases e) hc fun s hs => by rw [List.mem_singleton.mp hs]; exact n6⟩
theorem ok_law (T : Txt K mg base) : FnOk P w K mg base CX0 14 T.f_law T.fd_law ["_law_script"] (sp_lawT K T.pt_all_stretches) := by
  refine T.F_law.ok sc_law (fun vs H Q E h => ?_) (fun cdv A outer s H vs Q E hr h => ?_)
  · obtain ⟨a, ns, rfl, _⟩ := h
    rfl
  · obtain ⟨a, ns, rfl, hA, hns, hT, k⟩ := h
    refine ⟨_, (pss_cons (ps_for PassesOwn.never rfl (pi_range1 rfl T.z_range (pa_cons (pe_callB (id := "max") (call_max2 rfl) (by rfl) T.z_max (by decide +kernel) (pa_cons pe_int (pa_cons (pe_callB (id := "min") (call_min2 rfl) (by rfl) T.z_min (by decide +kernel) (pa_cons pe_int (pa_cons (pe_callB (id := "len") call_len_seq (by rfl) T.z_len (by decide +kernel) (pa_cons (pv 0) pa_nil)) pa_nil))) pa_nil))) pa_nil)) (pg_name (i := 1) sc_law.nd rfl (Or.inl rfl))
          (pss_cons (ps_set (i := 2) sc_law.nd rfl (Or.inl rfl) (pe_call (ok_law_box T) (hr.mono (by decide)) rfl T.m_law_box T.F_law_box.kp T.b_law_box .nil pass0 (pa_cons (pe_call (ok_law_cell T) (hr.mono (by decide)) rfl T.m_law_cell T.F_law_cell.kp T.b_law_cell .nil pass0 (pa_cons (pv 0) (pa_cons (pv 1) pa_nil))) pa_nil)))
        (pss_cons (ps_set (i := 3) sc_law.nd rfl (Or.inl rfl) (pe_call (ok_law_model T) (hr.mono (by decide)) rfl T.m_law_model T.F_law_model.kp T.b_law_model .nil pass0 (pa_cons (pv 2) (pa_cons pe_int pa_nil))))
        (pss_cons (ps_set (i := 4) sc_law.nd rfl (Or.inl rfl) (pe_call (ok_law_catalog T) (hr.mono (by decide)) rfl T.m_law_catalog T.F_law_catalog.kp T.b_law_catalog .nil pass0 (pa_cons (pv 2) (pa_cons (pv 3) pa_nil))))
        (pss_cons (ps_for PassesOwn.never rfl (pi_range1 rfl T.z_range (pa_cons pe_int pa_nil)) (pg_name (i := 5) sc_law.nd rfl (Or.inl rfl))
          (pss_cons (ps_set (i := 6) sc_law.nd rfl (Or.inl rfl) (pe_call (ok_law_drawn_change T) (hr.mono (by decide)) rfl T.m_law_drawn_change T.F_law_drawn_change.kp T.b_law_drawn_change .nil pass0 (pa_cons (pv 2) (pa_cons (pv 3) (pa_cons (pe_call (ok_law_spare T) (hr.mono (by decide)) rfl T.m_law_spare T.F_law_spare.kp T.b_law_spare .nil pass0 (pa_cons (pv 2) (pa_cons (pv 3) pa_nil))) pa_nil)))))
        (pss_cons (ps_set (i := 7) sc_law.nd rfl (Or.inl rfl) (pe_call (ok_law_after T) (hr.mono (by decide)) rfl T.m_law_after T.F_law_after.kp T.b_law_after .nil pass0 (pa_cons (pv 3) (pa_cons (pv 6) pa_nil))))
        (pss_cons (ps_set (i := 8) sc_law.nd rfl (Or.inl rfl) (pe_call (ok_law_told T) hr rfl T.m_law_told T.F_law_told.kp T.b_law_told .nil pass0 (pa_cons (pe_call (ok_law_take T) (hr.mono (by decide)) rfl T.m_law_take T.F_law_take.kp T.b_law_take .nil pass0 (pa_cons (pv 2) (pa_cons pe_int pa_nil))) (pa_cons (pv 4) (pa_cons (pv 6) pa_nil)))))
        (pss_cons (ps_set (i := 9) sc_law.nd rfl (Or.inl rfl) (pe_call (ok_fits T) (hr.mono (by decide)) rfl T.m_fits T.F_fits.kp T.b_fits .nil passL (pa_cons (pv 4) (pa_cons (pv 6) pa_nil))))
        (C8.pss_cut (ps_if (PW.pt (pw_or (pt_cmpR op_ne (pe_ix ix_list (pv 8) pe_int (fun _ _ => rfl)) (pe_ix ix_list (pv 7) pe_int (fun _ _ => rfl)) (nomark _)) (pw_or (pt_not (pt_val (pe_callB (id := "isinstance") call_isi (by rfl) T.z_isinstance (by decide +kernel) (pa_cons (pv 9) (pa_cons (pe_bltn (v := .ty "bool") (u := .type "bool") (by rfl) T.z_bool (by decide +kernel) rfl) pa_nil))))) (pw_or1 (pt_cmpR op_ne (pv 9) (pe_cmpR op_eq (pe_ix ix_list (pv 7) pe_int (fun _ _ => rfl)) pe_str (nomark _)) (nomark _)))))) (pss_one (ps_ret pe_bl)) pss_nil)
        (pss_cons (ps_if (pt_cmpR op_ne (pe_ix ix_list (pv 7) pe_int (fun _ _ => rfl)) pe_str (nomark _)) (pss_cons (ps_if (PW.pt (pw_or (pt_cmpR (op_ne2 hr.units) (pv 8) (pv 7) (nomark _)) (pw_or1 (pt_cmpR (op_ne2 hr.units) (pe_call (ok_law_told T) hr rfl T.m_law_told T.F_law_told.kp T.b_law_told .nil pass0 (pa_cons pe_int (pa_cons (pv 4) (pa_cons (pv 6) pa_nil)))) (pv 7) (nomark _))))) (pss_one (ps_ret pe_bl)) pss_nil)
        (pss_one ps_continue)) pss_nil)
        (pss_cons (ps_if (PW.pt (pw_or (pt_not (pt_cmpR (op_eqI (ok_Catalog_eq T) (hr.mono (by decide)) T.b_Catalog_eq T.me_Catalog_eq.at_ T.me_Catalog_eq.fn pass0) (pe_call (ok_law_catalog T) (hr.mono (by decide)) rfl T.m_law_catalog T.F_law_catalog.kp T.b_law_catalog .nil pass0 (pa_cons (pv 2) (pa_cons (pv 3) pa_nil))) (pv 4) (nomark _))) (pw_or1 (pt_not (pt_cmpR (op_eqI (ok_Catalog_eq T) (hr.mono (by decide)) T.b_Catalog_eq T.me_Catalog_eq.at_ T.me_Catalog_eq.fn pass0) (pe_ix ix_list (pv 8) pe_int (fun _ _ => rfl)) (pe_call (ok_law_catalog T) (hr.mono (by decide)) rfl T.m_law_catalog T.F_law_catalog.kp T.b_law_catalog .nil pass0 (pa_cons (pv 2) (pa_cons (pe_ix ix_list (pv 7) pe_int (fun _ _ => rfl)) pa_nil))) (nomark _)))))) (pss_one (ps_ret pe_bl)) pss_nil)
        (pss_one (ps_par (i := 4) (j := 3) (by rfl) sc_law.nd rfl rfl (by decide) rfl rfl (pa_cons (pe_ix ix_list (pv 8) pe_int (fun _ _ => rfl)) (pa_cons (pe_ix ix_list (pv 7) pe_int (fun _ _ => rfl)) pa_nil)) (by rfl)))))))))))
        (pss_cons (ps_set (i := 10) sc_law.nd rfl (Or.inl rfl) (pe_ix ix_list (pe_lst (pa_cons pe_non (pa_cons pe_int (pa_cons pe_str (pa_cons (pe_ix ix_list (pv 3) pe_int (fun _ _ => rfl)) (pa_cons pe_dnewK pa_nil)))))) (pe_call (ok_law_take T) (hr.mono (by decide)) rfl T.m_law_take T.F_law_take.kp T.b_law_take .nil pass0 (pa_cons (pv 2) (pa_cons pe_int pa_nil))) (fun _ _ => rfl)))
        (pss_cons (ps_set (i := 11) sc_law.nd rfl (Or.inl rfl) (pe_ix ix_list (pe_lst (pa_cons pe_non (pa_cons (pe_tup (pa_cons pe_str pa_nil)) (pa_cons (pe_lst (pa_cons pe_str (pa_cons pe_str pa_nil))) (pa_cons (pe_tup (pa_cons pe_str (pa_cons pe_str (pa_cons (pe_tup (pa_cons pe_int (pa_cons pe_int pa_nil))) pa_nil)))) (pa_cons pe_int pa_nil)))))) (pe_call (ok_law_take T) (hr.mono (by decide)) rfl T.m_law_take T.F_law_take.kp T.b_law_take .nil pass0 (pa_cons (pv 2) (pa_cons pe_int pa_nil))) (fun _ _ => rfl)))
        (pss_one (ps_for PassesOwn.never rfl (pi_range1 rfl T.z_range (pa_cons pe_int pa_nil)) (pg_name (i := 12) sc_law.nd rfl (Or.inl rfl))
          (pss_one (ps_if (PW.pt (pw_or (pt_cmpR (op_ne2 hr.units) (pe_call (ok_law_told T) hr rfl T.m_law_told T.F_law_told.kp T.b_law_told .nil pass0 (pa_cons (pv 12) (pa_cons (pv 10) (pa_cons (pv 11) pa_nil)))) (pe_lst (pa_cons pe_str (pa_cons (pv 10) pa_nil))) (nomark _)) (pw_or1 (pt_cmpR (op_ne2 hr.units) (pe_call (ok_law_told T) hr rfl T.m_law_told T.F_law_told.kp T.b_law_told .nil pass0 (pa_cons (pv 12) (pa_cons (pv 4) (pa_cons (pv 11) pa_nil)))) (pe_lst (pa_cons pe_str (pa_cons (pv 11) pa_nil))) (nomark _))))) (pss_one (ps_ret pe_bl)) pss_nil)))))))))))
        (pss_one (ps_ret pe_bl))), ?_⟩
    have r2s : (2 : Nat) ≤ sizeLine := by decide
    have ic := T.ic_Catalog
    refine ⟨_, rfl, a, _, rfl, .inl hA, _, _, rfl, _, _, rfl, _, rfl, ?_, ?_, for_range (fun i σ H' => ∃ v1 v2 v3 v4 v5 v6 v7 v8 v9 v10 v11 v12, σ = [some (.ref a), v1, v2, v3, v4, v5, v6, v7, v8, v9, v10, v11, v12] ∧ SqL K H' a (ns.map V.int) ∧ LamX.TabS H' T.pt_all_stretches lamQ) ⟨none, none, none, none, none, none, none, none, none, none, none, none, rfl, hA, hT⟩ ?_ ?_⟩
    · repeat' split
      all_goals omega
    · repeat' split
      all_goals omega
    · rintro i σ H1 hi ⟨v1, v2, v3, v4, v5, v6, v7, v8, v9, v10, v11, v12, rfl, hA1, hT1⟩
      refine ⟨_, rfl, _, rfl, a, ns, _, rfl, hA1, (by omega), fun z => ⟨z, rfl, fun p o hp bx => ?_⟩⟩
      have s2 := same_new (o := o) hp
      have A2 : SqL K (nb (upd H1 p o) p) a (ns.map V.int) := (nd_nb s2 hp).seq hA1
      have S2 : LS (upd H1 p o) p 0 T.pt_all_stretches := ⟨bx, hT1.ext s2⟩
      generalize upd H1 p o = H2 at A2 S2
      -- the model
      have B2 := S2.box.in_
      refine ⟨_, rfl, but H2 p, p, 0, 7, rfl, B2, by omega, by omega, fun G0 H3 q rr rt left sG BG MM hrr hll hsm => ?_⟩
      have hzz : ∀ s ∈ namesM rr rt, s ≠ ("zzzz" : Str) := fun s hs => hsm.2 s (by
        rcases List.mem_append.mp hs with hs | hs
        · exact List.mem_append_left _ hs
        · exact List.mem_append_right _ (List.mem_append_left _ hs))
      have B3 : BoxIn (but H2 p) H3 p (0 + 100) := BG.low sG
      have S3 := S2.after B3
      have A3 := (nb_ex (ex_of B3)).seq A2
      have M3 : MdAt (nb H3 p) q rr rt left := MM.ofND (nd_nb BG.same BG.free)
      clear MM sG BG B3 B2 S2 A2 s2 hsm
      have hG : G8 rr rt := G8.ofMd M3 hrr
      -- the catalog
      refine ⟨_, rfl, _, rfl, p, _, q, rr, rt, rfl, S3, MG.ofMd M3, hG, by omega, fun H4 x rs E4 S4 C4 hpm => ?_⟩
      have st4 : St12 K T.C_Catalog T.pt_all_stretches H4 p 200 a ns q rr rt x rs := ⟨S4.mono (by omega), (nb_ex E4).seq A3, (MT.ofMd M3).mono (nb_ex E4), C4⟩
      have pm4 : (rs.map nsr).Perm (rr.map nsp) := by
        have := hpm.map nsr
        rwa [nsr_rowsM] at this
      clear S4 C4 E4 A3 M3 S3 hpm hrr hll
      refine ⟨8, rfl, by decide, by decide, for_range (fun j σ H' => ∃ v5 v6 v7 v8 v9 v10 v11 v12 q rr x rs, σ = [some (.ref a), some (.int (0 + (i : Int))), some (.ref p), some (.ref q), some (.ref x), v5, v6, v7, v8, v9, v10, v11, v12] ∧ St12 K T.C_Catalog T.pt_all_stretches H' p (200 + 200 * j) a ns q rr rt x rs ∧ G8 rr rt ∧ (rs.map nsr).Perm (rr.map nsp) ∧ ∀ s ∈ namesM rr rt, s ≠ ("zzzz" : Str)) ⟨_, _, _, _, _, _, _, _, q, rr, x, rs, rfl, st4, hG, pm4, hzz⟩ ?_ ?_⟩
      · clear st4 hG pm4 hzz
        rintro j σ H5 hj ⟨v5, v6, v7, v8, v9, v10, v11, v12, q, rr, x, rs, rfl, st5, hG, pm, hzz⟩
        have hj8 : j < 8 := hj
        -- the change
        refine ⟨_, rfl, _, rfl, _, rfl, _, rfl, but H5 p, p, q, _, rr, rt, rfl, st5.S.box.in_, (st5.M.mono (nb_but H5 p)).mg, hG, by omega, fun G1 H6 sl a' b' sG BG hsl hsp => ?_⟩
        refine ⟨G1, p, q, sl, _, rr, rt, a', b', rfl, BG, ((st5.M.mono (nb_but H5 p)).mono sG).mg, hsl, hG, hzz, hsp, by omega, fun G2 H7 w c sH BH hw htp hc hnz => ?_⟩
        have st7 := st5.draw (BH.low (sG.trans sH))
        have hw7 := hw.mono BH.same
        have htp7 : ∀ m x s, c = .hang m x s → H7 x = some (.tup (spV s)) := fun m x s e => BH.same _ _ (htp m x s e)
        clear st5 sG BG hsl hsp sH BH hw htp
        -- what is due
        refine ⟨_, rfl, _, rfl, q, w, rr, rt, c, rfl, st7.M.mono (nb_le H7 p), hG, hw7, htp7, hc, fun H8 d s8 hd0 hD => ?_⟩
        have st8 := st7.keep s8
        have hw8 := hw7.mono s8
        clear st7 hw7 htp7 s8 hd0
        have GLr := (GL.ofG8 hG).perm pm.symm
        have ech := chE_perm pm GLr.nd1 rt c
        unfold DA at hD
        cases er : chE (rr.map nsp) rt c with
        | some nz =>
          obtain ⟨n, zv⟩ := nz
          rw [er] at hD ech
          have hD : H8 d = some (.lst [.str (w12 n), zv]) := hD
          have hsure := chE_sure er
          have sure2 : [V.str (w12 n), zv].all sureV = true := by
            simp only [List.all_cons, List.all_nil, hsure, Bool.and_true]
            rfl
          have nd8 : d ≠ p := box_not st8.S.box hD fun i r e => by cases e
          refine ⟨_, rfl, but H8 p, p, _, 2, rfl, st8.S.box.in_, by omega, by decide, by decide, fun way H9 y0 y2 B9 => ?_⟩
          have st9 := st8.draw B9
          have hw9 := hw8.draw st8.S.box B9
          have hD9 := box_keep B9 nd8 hD
          clear st8 hw8 hD B9
          have erC' : ∀ n' z', erC (.ref x) w (some (rs, rt)) (some c) = some (n', z') → n' = n ∧ z' = zv := fun n' z' e => by
            have e : chE (rs.map nsr) rt c = some (n', z') := e
            rw [ech] at e
            cases e
            exact ⟨rfl, rfl⟩
          have noC : ∀ rs' rt' c', some (rs, rt) = some (rs', rt') → some c = some c' → chE (rs'.map nsr) rt' c' = none → False := fun rs' rt' c' e1 e2 e3 => by
            cases e1
            cases e2
            rw [ech] at e3
            cases e3
          refine ⟨_, rfl, _, rfl, way, .ref x, w, some (rs, rt), some c, rfl, st9.cin hG pm, .chg hw9 hc, st9.S.tab, y0, by omega, fun n' z' e => ⟨fun h => by omega, fun H10 t ex10 hT10 ht => ?_⟩, fun rs' rt' c' e1 e2 e3 => (noC rs' rt' c' e1 e2 e3).elim⟩
          obtain ⟨rfl, rfl⟩ := erC' n' z' e
          have st10 := st9.ex0 ex10 hT10
          have hw10 := hw9.nd (EX.nil0 ex10)
          have hD10 := EX.nil0 ex10 _ _ hD9 rfl
          clear st9 hw9 hD9 ex10 hT10 e
          refine ⟨_, rfl, _, rfl, .ref x, w, some (rs, rt), some c, rfl, st10.cin hG pm, .chg hw10 hc, st10.S.tab, (fun h => by rcases h with h | h <;> cases h), fun rs' rt' c' e1 e2 H11 ex11 hT11 => ?_⟩
          cases e1
          cases e2
          have eb : (chE (rs.map nsr) rt c).isNone = false := by rw [ech]; rfl
          rw [eb]
          have st11 := st10.ex0 ex11 hT11
          have hw11 := hw10.nd (EX.nil0 ex11)
          have hD11 := EX.nil0 ex11 _ _ hD10 rfl
          have ht11 := EX.nil0 ex11 _ _ ht rfl
          clear st10 hw10 hD10 ht ex11 hT11 eb
          refine ⟨fun σ H' => σ = [some (.ref a), some (.int (0 + (i : Int))), some (.ref p), some (.ref q), some (.ref x), some (.int (0 + (j : Int))), some w, some (.ref d), some (.ref t), some (.bl false), v10, v11, v12] ∧ H' = H11, ?_, ?_⟩
          · refine ⟨_, rfl, t, _, 0, .str (w12 n'), rfl, rfl, SqL.of ht11, atI_nat (j := 0) rfl, _, rfl, d, _, 0, .str (w12 n'), rfl, rfl, SqL.of hD11, atI_nat (j := 0) rfl, rfl, _, rfl, iteFe (by simp) ?_⟩
            refine ⟨_, rfl, _, _, _, _, _, rfl, .ty _, .base (.bl _), kit_ty (r := true) (by decide +kernel), _, rfl, iteF ?_⟩
            exact ⟨_, rfl, _, rfl, d, _, 0, .str (w12 n'), rfl, rfl, SqL.of hD11, atI_nat (j := 0) rfl, rfl, rfl, _, rfl, iteFe (by rw [w12_made]; simp) ⟨rfl, rfl⟩⟩
          rintro σ H' ⟨rfl, rfl⟩
          refine ⟨_, rfl, d, _, 0, .str (w12 n'), rfl, rfl, SqL.of hD11, atI_nat (j := 0) rfl, rfl, _, rfl, iteTe (by rw [w12_made]; rfl) ?_⟩
          refine ⟨_, rfl, _, rfl, .inl ⟨t, d, _, rfl, rfl, SqL.of ht11, SqL.of hD11, sure2, _, rfl, iteF ?_⟩⟩
          refine ⟨_, rfl, _, rfl, 2, .ref x, w, some (rs, rt), some c, rfl, st11.cin hG pm, .chg hw11 hc, st11.S.tab, by decide, by decide, fun n2 z2 e => ⟨fun h => by omega, fun H12 t2 ex12 hT12 ht2 => ?_⟩, fun rs' rt' c' e1 e2 e3 => (noC rs' rt' c' e1 e2 e3).elim⟩
          obtain ⟨rfl, rfl⟩ := erC' n2 z2 e
          have hD12 := EX.nil0 ex12 _ _ hD11 rfl
          refine ⟨_, rfl, .inl ⟨t2, d, _, rfl, rfl, SqL.of ht2, SqL.of hD12, sure2, _, rfl, iteF ?_⟩⟩
          exact ⟨_, _, _, _, _, _, _, _, q, rr, x, rs, rfl, (st11.ex0 ex12 hT12).mono (by omega), hG, pm, hzz⟩
        | none =>
          rw [er] at hD ech
          obtain ⟨q', rr', hD, M', enx⟩ : ∃ q rr', H8 d = some (.lst [.str "made", .ref q]) ∧ MT H8 q rr' rt ∧ rr'.map nsp = nextL (rr.map nsp) c := hD
          obtain ⟨o1, o2, o3, o4⟩ := chE_none er
          have hG' : G8 rr' rt := G8.ofGL (by rw [enx]; exact (GL.ofG8 hG).next hc o1 o2 o3) (by rw [enx]; exact o4)
          have hzz' := names_next enx hzz hnz
          have M8 := MT.nbx st8.S.box M'
          have nd8 : d ≠ p := box_not st8.S.box hD fun i r e => by cases e
          refine ⟨_, rfl, but H8 p, p, _, 2, rfl, st8.S.box.in_, by omega, by decide, by decide, fun way H9 y0 y2 B9 => ?_⟩
          have st9 := st8.draw B9
          have hw9 := hw8.draw st8.S.box B9
          have hD9 := box_keep B9 nd8 hD
          have M9 := M8.mono (nb_ex (ex_of B9))
          clear st8 hw8 hD B9 M8 M'
          refine ⟨_, rfl, _, rfl, way, .ref x, w, some (rs, rt), some c, rfl, st9.cin hG pm, .chg hw9 hc, st9.S.tab, y0, by omega, fun n' z' e => ?_, fun rs' rt' c' e1 e2 e3 => ⟨by omega, fun H10 t x' rs1 ex10 hT10 ht hcn hperm => ?_⟩⟩
          · have e : chE (rs.map nsr) rt c = some (n', z') := e
            rw [ech] at e
            cases e
          cases e1
          cases e2
          have hp9 : ∃ o, H9 p = some o := by
            obtain ⟨_, _, _, hp, _⟩ := st9.S.box
            exact ⟨_, hp⟩
          have st10 := st9.ex0 ex10 hT10
          have hw10 := hw9.nd (EX.nil0 ex10)
          have hD10 := EX.nil0 ex10 _ _ hD9 rfl
          have M10 := M9.mono (nb_ex (ex10.mono (by simp)))
          have C10 := hcn.nbC st10.S.box hp9
          have pm' : (rs1.map nsr).Perm (rr'.map nsp) := hperm.trans (by rw [enx]; exact nextL_perm pm GLr.nd1 c)
          clear st9 hw9 hD9 ex10 hT10 e3 M9 hcn hperm hp9
          refine ⟨_, rfl, _, rfl, .ref x, w, some (rs, rt), some c, rfl, st10.cin hG pm, .chg hw10 hc, st10.S.tab, (fun h => by rcases h with h | h <;> cases h), fun rs' rt' c' e1 e2 H11 ex11 hT11 => ?_⟩
          cases e1
          cases e2
          have eb : (chE (rs.map nsr) rt c).isNone = true := by rw [ech]; rfl
          rw [eb]
          have st11 := st10.ex0 ex11 hT11
          have hD11 := EX.nil0 ex11 _ _ hD10 rfl
          have ht11 := EX.nil0 ex11 _ _ ht rfl
          have M11 := M10.mono (nb_ex (ex11.mono (by simp)))
          have C11 := C10.mono (nb_ex (ex11.mono (by simp)))
          clear st10 hw10 hD10 ht ex11 hT11 eb M10 C10
          refine ⟨fun σ H' => σ = [some (.ref a), some (.int (0 + (i : Int))), some (.ref p), some (.ref q), some (.ref x), some (.int (0 + (j : Int))), some w, some (.ref d), some (.ref t), some (.bl true), v10, v11, v12] ∧ H' = H11, ?_, ?_⟩
          · refine ⟨_, rfl, t, _, 0, .str "made", rfl, rfl, SqL.of ht11, atI_nat (j := 0) rfl, _, rfl, d, _, 0, .str "made", rfl, rfl, SqL.of hD11, atI_nat (j := 0) rfl, rfl, _, rfl, iteFe (by simp) ?_⟩
            refine ⟨_, rfl, _, _, _, _, _, rfl, .ty _, .base (.bl _), kit_ty (r := true) (by decide +kernel), _, rfl, iteF ?_⟩
            exact ⟨_, rfl, _, rfl, d, _, 0, .str "made", rfl, rfl, SqL.of hD11, atI_nat (j := 0) rfl, rfl, rfl, _, rfl, iteFe (by simp) ⟨rfl, rfl⟩⟩
          rintro σ H' ⟨rfl, rfl⟩
          refine ⟨_, rfl, d, _, 0, .str "made", rfl, rfl, SqL.of hD11, atI_nat (j := 0) rfl, rfl, _, rfl, iteFe (by simp) ?_⟩
          have ndd : d ≠ p := nd8
          have ntp : t ≠ p := box_not st11.S.box ht11 fun i r e => by cases e
          -- the catalog ahead is as it was
          refine ⟨_, rfl, _, rfl, p, _, q, rr, rt, rfl, st11.S, st11.M.mg, hG, by omega, fun H12 x2 rs2 E12 S12 C2 hpm2 => ?_⟩
          have st12 := st11.ex E12 S12
          have hD12 := E12 _ _ (by simpa using ndd) hD11 fun ps z => by cases z
          have ht12 := E12 _ _ (by simpa using ntp) ht11 fun ps z => by cases z
          have M12 := M11.mono (nb_ex E12)
          have C12 := C11.mono (nb_ex E12)
          clear st11 hD11 ht11 M11 C11 E12 S12
          have ndr : (rs.map (·.1)).Nodup := by
            have := GLr.nd1
            rwa [nmsL_rows] at this
          have ndr2 : (rs2.map (·.1)).Nodup := (hpm2.map _).nodup_iff.mpr hG.ndM
          have c2 := C2.mono (nb_le H12 p)
          have c1 := st12.C.mono (nb_le H12 p)
          obtain ⟨dxa, _, _, _, _, ga, _⟩ := id c2
          obtain ⟨dxb, _, _, _, _, gb, _⟩ := id c1
          refine ⟨_, rfl, x2, dxa, _, .ref T.C_Catalog, rfl, ga, .base (.ins gb ic.cl ic.ha ic.hn ic.htk ic.hm), by simp [PySem.W.notFirst], x2, .ref x, rs2, rt, rfl, c2, .inr ⟨x, rs, rt, rfl, c1, ?_⟩⟩
          rw [ceq_nsr ndr2 ndr ((hpm2.map nsr).trans (by rw [nsr_rowsM]; exact pm.symm))]
          refine ⟨_, rfl, iteF ?_⟩
          -- the catalog behind is what is due
          refine ⟨_, rfl, t, _, 1, .ref x', rfl, rfl, SqL.of ht12, atI_nat (j := 1) rfl, _, rfl, _, rfl, d, _, 1, .ref q', rfl, rfl, SqL.of hD12, atI_nat (j := 1) rfl, p, _, q', rr', rt, rfl, st12.S, M12.mg, hG', by omega, fun H13 x3 rs3 E13 S13 C3 hpm3 => ?_⟩
          have st13 := st12.ex E13 S13
          have hD13 := E13 _ _ (by simpa using ndd) hD12 fun ps z => by cases z
          have ht13 := E13 _ _ (by simpa using ntp) ht12 fun ps z => by cases z
          have M13 := M12.mono (nb_ex E13)
          have C13 := C12.mono (nb_ex E13)
          clear st12 hD12 ht12 M12 C12 E13 S13 ga gb c1 c2 C2
          have ndr1 : (rs1.map (·.1)).Nodup := by
            have := ((GL.ofG8 hG').perm pm'.symm).nd1
            rwa [nmsL_rows] at this
          have ndr3 : (rs3.map (·.1)).Nodup := (hpm3.map _).nodup_iff.mpr hG'.ndM
          have c3 := C3.mono (nb_le H13 p)
          have c1 := C13.mono (nb_le H13 p)
          obtain ⟨dxa, _, _, _, _, ga, _⟩ := id c1
          obtain ⟨dxb, _, _, _, _, gb, _⟩ := id c3
          refine ⟨x', dxa, _, .ref T.C_Catalog, rfl, ga, .base (.ins gb ic.cl ic.ha ic.hn ic.htk ic.hm), by simp [PySem.W.notFirst], x', .ref x3, rs1, rt, rfl, c1, .inr ⟨x3, rs3, rt, rfl, c3, ?_⟩⟩
          rw [ceq_nsr ndr1 ndr3 (pm'.trans (by rw [← nsr_rowsM]; exact (hpm3.map nsr).symm))]
          refine ⟨_, rfl, iteF ?_⟩
          exact ⟨_, rfl, t, _, 1, .ref x', rfl, rfl, SqL.of ht13, atI_nat (j := 1) rfl, _, rfl, d, _, 1, .ref q', rfl, rfl, SqL.of hD13, atI_nat (j := 1) rfl, _, _, rfl, _, _, _, _, _, _, _, _, q', rr', x', rs1, rfl, ⟨st13.S.mono (by omega), st13.A, M13, C13⟩, hG', pm', hzz'⟩
      · clear st4 hG pm4 hzz
        rintro σ H5 ⟨v5, v6, v7, v8, v9, v10, v11, v12, q, rr, x, rs, rfl, st5, hG, pm, hzz⟩
        have r1s : (1 : Nat) ≤ sizeLine := by decide
        have st5 := st5.mono (show 200 + 200 * (8 : Int).toNat ≤ 1800 by decide)
        obtain ⟨⟨lr, z, hq5, hlr5⟩, hrow5⟩ := id st5.M
        have vlr : VD K (nb H5 p) (.ref lr) (some (.list (rr.map fun r => PyData.list [.str r.2.1, spD r.2.2.2]))) := .dat (.lst (SqL.of hlr5) (md_dp hrow5)) (md_sh fun r hr => hG.nms _ (List.mem_append_left _ (List.mem_map_of_mem hr))) fun s e => by cases e
        refine ⟨_, rfl, q, _, 0, .ref lr, rfl, rfl, (nb_le H5 p).seq (SqL.of hq5), atI_nat (j := 0) rfl, fun d hd => ⟨(by show 5 ≤ sizeLine; decide), fun l hl => ?_⟩⟩
        have s6 := same_new (o := .dK []) hd
        have s7 := same_new (o := .lst [.non, .int 5, .str "a", .ref lr, .ref d]) hl
        have hd7 := s7 _ _ (upd_same (H := H5) (a := d) (o := .dK []))
        have hl7 : (upd (upd H5 d (.dK [])) l (.lst [.non, .int 5, .str "a", .ref lr, .ref d])) l = some (.lst [.non, .int 5, .str "a", .ref lr, .ref d]) := upd_same
        have st7 := st5.keep (s6.trans s7)
        have vlr7 := vlr.mono (nb_ex (.same (s6.trans s7)))
        generalize upd (upd H5 d (.dK [])) l (.lst [.non, .int 5, .str "a", .ref lr, .ref d]) = H7 at hd7 hl7 st7 vlr7 ⊢
        have nd7 : d ≠ p := box_not st7.S.box hd7 fun i r e => by cases e
        have nl7 : l ≠ p := box_not st7.S.box hl7 fun i r e => by cases e
        clear st5 hq5 hlr5 hrow5 vlr s6 s7
        refine ⟨_, rfl, but H7 p, p, _, 5, rfl, st7.S.box.in_, by omega, by decide, by decide, fun z1 H8 z10 z11 B8 => ?_⟩
        have st8 := st7.draw B8
        have vlr8 := vlr7.mono (nb_ex (ex_of B8))
        have vd8 : VD K (nb H8 p) (.ref d) none := .dic (nb_of nd7 (box_keep B8 nd7 hd7) fun ps e => by cases e)
        obtain ⟨bv, hbv, hbm⟩ := atI_in (xs := [V.non, .int 5, .str "a", .ref lr, .ref d]) z10 z11
        refine ⟨l, _, z1, bv, rfl, rfl, SqL.of (box_keep B8 nl7 hl7), hbv, ?_⟩
        obtain ⟨ob, hob⟩ : ∃ ob, VD K (nb H8 p) bv ob := by
          simp only [List.mem_cons, List.not_mem_nil, or_false] at hbm
          rcases hbm with rfl | rfl | rfl | rfl | rfl
          · exact ⟨_, .dat .non rfl fun s e => by cases e⟩
          · exact ⟨_, .dat (.int 5) rfl fun s e => by cases e⟩
          · exact ⟨_, .dat (.str "a") (by decide +kernel) fun s e => by cases e; decide⟩
          · exact ⟨_, vlr8⟩
          · exact ⟨_, vd8⟩
        clear st7 hd7 hl7 vlr7 vlr8 vd8 hbv hbm B8
        refine ⟨r1s, fun t1 ht1 => ⟨r2s, fun l1 hl1 => ⟨r2s, fun sp hsp => ⟨(by show 3 ≤ sizeLine; decide), fun t3 ht3 => ⟨(by show 5 ≤ sizeLine; decide), fun l4 hl4 => ?_⟩⟩⟩⟩⟩
        have s1 := same_new (o := .tup [.str "take"]) ht1
        have s2 := same_new (o := .lst [.str "take", .str "a"]) hl1
        have s3 := same_new (o := .tup [.int 1, .int 1]) hsp
        have s4 := same_new (o := .tup [.str "hang", .str "a", .ref sp]) ht3
        have s5 := same_new (o := .lst [.non, .ref t1, .ref l1, .ref t3, .int 5]) hl4
        have h1 := s5 _ _ (s4 _ _ (s3 _ _ (s2 _ _ (upd_same (H := H8) (a := t1) (o := .tup [.str "take"])))))
        have h2 := s5 _ _ (s4 _ _ (s3 _ _ (upd_same (H := upd H8 t1 (.tup [.str "take"])) (a := l1) (o := .lst [.str "take", .str "a"]))))
        have h3 := s5 _ _ (s4 _ _ (upd_same (H := upd (upd H8 t1 (.tup [.str "take"])) l1 (.lst [.str "take", .str "a"])) (a := sp) (o := .tup [.int 1, .int 1])))
        have h4 := s5 _ _ (upd_same (H := upd (upd (upd H8 t1 (.tup [.str "take"])) l1 (.lst [.str "take", .str "a"])) sp (.tup [.int 1, .int 1])) (a := t3) (o := .tup [.str "hang", .str "a", .ref sp]))
        have h5 := upd_same (H := upd (upd (upd (upd H8 t1 (.tup [.str "take"])) l1 (.lst [.str "take", .str "a"])) sp (.tup [.int 1, .int 1])) t3 (.tup [.str "hang", .str "a", .ref sp])) (a := l4) (o := .lst [.non, .ref t1, .ref l1, .ref t3, .int 5])
        have sx := s1.trans (s2.trans (s3.trans (s4.trans s5)))
        have st9 := st8.keep sx
        have hob9 := hob.mono (nb_ex (.same sx))
        generalize upd (upd (upd (upd (upd H8 t1 (.tup [.str "take"])) l1 (.lst [.str "take", .str "a"])) sp (.tup [.int 1, .int 1])) t3 (.tup [.str "hang", .str "a", .ref sp])) l4 (.lst [.non, .ref t1, .ref l1, .ref t3, .int 5]) = H9 at h1 h2 h3 h4 h5 st9 hob9 ⊢
        clear s1 s2 s3 s4 s5 sx st8 hob ht1 hl1 hsp ht3 hl4
        have b9 := st9.S.box
        have n1 : t1 ≠ p := box_not b9 h1 fun i r e => by cases e
        have n2 : l1 ≠ p := box_not b9 h2 fun i r e => by cases e
        have n3 : sp ≠ p := fun e => by
          obtain ⟨_, _, _, hp, _⟩ := b9
          rw [e, hp] at h3
          cases h3
        have n4 : t3 ≠ p := box_not b9 h4 fun i r e => by cases e
        have n5 : l4 ≠ p := box_not b9 h5 fun i r e => by cases e
        refine ⟨_, rfl, but H9 p, p, _, 5, rfl, b9.in_, by omega, by decide, by decide, fun z2 H10 z20 z21 B10 => ?_⟩
        have st10 := st9.draw B10
        have hob10 := hob9.mono (nb_ex (ex_of B10))
        have g1 : nb H10 p t1 = some (.tup [.str "take"]) := nb_of n1 (box_keep B10 n1 h1) fun ps e => by cases e
        have g2 : nb H10 p l1 = some (.lst [.str "take", .str "a"]) := nb_of n2 (box_keep B10 n2 h2) fun ps e => by cases e
        have g3 : nb H10 p sp = some (.tup [.int 1, .int 1]) := nb_of n3 (box_keep B10 n3 h3) fun ps e => by cases e
        have g4 : nb H10 p t3 = some (.tup [.str "hang", .str "a", .ref sp]) := nb_of n4 (box_keep B10 n4 h4) fun ps e => by cases e
        obtain ⟨ov, hov, hom⟩ := atI_in (xs := [V.non, .ref t1, .ref l1, .ref t3, .int 5]) z20 z21
        refine ⟨l4, _, z2, ov, rfl, rfl, SqL.of (box_keep B10 n5 h5), hov, ?_⟩
        obtain ⟨oo, hoo, hfo, hco⟩ : ∃ oo, VD K (nb H10 p) ov oo ∧ fewO oo ∧ chO oo = false := by
          simp only [List.mem_cons, List.not_mem_nil, or_false] at hom
          rcases hom with rfl | rfl | rfl | rfl | rfl
          · exact ⟨_, .dat .non rfl (fun s e => by cases e), (fun ds e => by cases e), rfl⟩
          · refine ⟨_, .dat (.tup (SqT.of g1) (.cons (.str "take") .nil)) (by decide +kernel) (fun s e => by cases e), fun ds e => ?_, by decide +kernel⟩
            cases e
            refine ⟨by decide, fun s hs => ?_⟩
            simp only [List.mem_cons, List.not_mem_nil, or_false] at hs
            cases hs
            decide
          · exact ⟨_, .dat (.lst (SqL.of g2) (.cons (.str "take") (.cons (.str "a") .nil))) (by decide +kernel) (fun s e => by cases e), (fun ds e => by cases e), rfl⟩
          · refine ⟨_, .dat (.tup (SqT.of g4) (.cons (.str "hang") (.cons (.str "a") (.cons (.tup (SqT.of g3) (.cons (.int 1) (.cons (.int 1) .nil))) .nil)))) (by decide +kernel) (fun s e => by cases e), fun ds e => ?_, by decide +kernel⟩
            cases e
            refine ⟨by decide, fun s hs => ?_⟩
            simp only [List.mem_cons, List.not_mem_nil, or_false, reduceCtorEq] at hs
            rcases hs with hs | hs <;> cases hs <;> decide
          · exact ⟨_, .dat (.int 5) rfl (fun s e => by cases e), (fun ds e => by cases e), rfl⟩
        clear st9 hob9 h1 h2 h3 h4 h5 g1 g2 g3 g4 b9 hov hom B10
        refine ⟨4, rfl, by decide, by decide, for_range (fun w σ H' => ∃ v6 v7 v8 v9 v12, σ = [some (.ref a), some (.int (0 + (i : Int))), some (.ref p), some (.ref q), some (.ref x), v5, v6, v7, v8, v9, some bv, some ov, v12] ∧ St12 K T.C_Catalog T.pt_all_stretches H' p 2000 a ns q rr rt x rs ∧ VD K (nb H' p) bv ob ∧ VD K (nb H' p) ov oo) ⟨_, _, _, _, _, rfl, st10.mono (by omega), hob10, hoo⟩ ?_ ?_⟩
        · clear st10 hob10 hoo
          rintro way σ H11 hway ⟨v6, v7, v8, v9, v12, rfl, st11, hb11, ho11⟩
          have hw4 : way < 4 := hway
          refine ⟨_, rfl, _, rfl, _, rfl, 0 + (way : Int), bv, ov, none, none, rfl, .no (hb11.mono (nb_le H11 p)), .no (ho11.mono (nb_le H11 p)) hfo hco, st11.S.tab, by omega, by omega, fun n' z' e => ⟨fun _ => .inl rfl, fun H12 t ex12 hT12 ht => ?_⟩, fun rs' rt' c' e1 => nomatch e1⟩
          cases e
          have st12 := st11.ex0 ex12 hT12
          have hb12 := hb11.mono (nb_ex (ex12.mono (by simp)))
          have ho12 := ho11.mono (nb_ex (ex12.mono (by simp)))
          have hbs := hb12.sure
          have hos := ho12.sure
          clear st11 hb11 ho11 ex12 hT12
          refine ⟨_, rfl, r2s, fun e0 he0 => ?_⟩
          have s13 := same_new (o := .lst [.str "catalog", bv]) he0
          have ht13 := s13 _ _ ht
          have he13 := upd_same (H := H12) (a := e0) (o := .lst [.str "catalog", bv])
          have st13 := st12.keep s13
          have hb13 := hb12.mono (nb_ex (.same s13))
          have ho13 := ho12.mono (nb_ex (.same s13))
          generalize upd H12 e0 (.lst [.str "catalog", bv]) = H13 at ht13 he13 st13 hb13 ho13 ⊢
          clear s13 st12 hb12 ho12 he0 ht
          refine .inl ⟨t, e0, [.str "catalog", bv], rfl, rfl, SqL.of ht13, SqL.of he13, ?_, _, rfl, iteF ?_⟩
          · simp only [List.all_cons, List.all_nil, hbs, Bool.and_true]
            rfl
          refine ⟨_, rfl, _, rfl, _, rfl, 0 + (way : Int), .ref x, ov, some (rs, rt), none, rfl, st13.cin hG pm, .no (ho13.mono (nb_le H13 p)) hfo hco, st13.S.tab, by omega, by omega, fun n' z' e => ⟨fun _ => .inr rfl, fun H14 t ex14 hT14 ht => ?_⟩, fun rs' rt' c' e1 e2 => nomatch e2⟩
          cases e
          have st14 := st13.ex0 ex14 hT14
          have hb14 := hb13.mono (nb_ex (ex14.mono (by simp)))
          have ho14 := ho13.mono (nb_ex (ex14.mono (by simp)))
          clear st13 hb13 ho13 ex14 hT14
          refine ⟨_, rfl, r2s, fun e0 he0 => ?_⟩
          have s15 := same_new (o := .lst [.str "change", ov]) he0
          have ht15 := s15 _ _ ht
          have he15 := upd_same (H := H14) (a := e0) (o := .lst [.str "change", ov])
          have st15 := st14.keep s15
          have hb15 := hb14.mono (nb_ex (.same s15))
          have ho15 := ho14.mono (nb_ex (.same s15))
          generalize upd H14 e0 (.lst [.str "change", ov]) = H15 at ht15 he15 st15 hb15 ho15 ⊢
          clear s15 st14 hb14 ho14 he0 ht
          refine .inl ⟨t, e0, [.str "change", ov], rfl, rfl, SqL.of ht15, SqL.of he15, ?_, _, rfl, iteF ?_⟩
          · simp only [List.all_cons, List.all_nil, hos, Bool.and_true]
            rfl
          exact ⟨_, _, _, _, _, rfl, st15, hb15, ho15⟩
        · rintro σ H11 ⟨v6, v7, v8, v9, v12, rfl, st11, hb11, ho11⟩
          exact ⟨_, _, _, _, _, _, _, _, _, _, _, _, rfl, (nb_le H11 p).seq st11.A, st11.S.tab⟩
    · rintro σ H1 ⟨v1, v2, v3, v4, v5, v6, v7, v8, v9, v10, v11, v12, rfl, hA1, hT1⟩
      exact k H1
end
theorem oexB_ok {K : PySem.W.Frag} {C : Addr} (h : oexB K C = true) : ∃ nm q N bs bm sn sub ab col dd k0 k1 k2 k3 k5, K.lookup C = some (excClassObj nm q C N bs bm true sn sub ab col dd k0 k1 k2 k3 k5 "ValueError.__new__") ∧ PySem.HandSPX.refsVE bm = true := by
  unfold oexB at h
  split at h
  · rename_i c dd cd sl q
    obtain ⟨nm, bs, mro, N, qn, hd, sn, sub, ab, col, del⟩ := cd
    simp only [Bool.and_eq_true, decide_eq_true_iff, Bool.not_eq_true'] at h
    obtain ⟨h1, h2, h3, h4, h5⟩ := h
    split at h2
    · rename_i a bm
      rw [Bool.and_eq_true, decide_eq_true_iff] at h2
      obtain ⟨h6, h7⟩ := h2
      split at h5
      · rename_i k0 k1 k2 k3 i k5 e
        obtain ⟨sl⟩ := sl
        have e' : sl = [k0, k1, k2, k3, some (.builtin i), k5] := e
        have h8 := of_decide_eq_true h5
        subst h1 h3 h4 e' h6 h8
        exact ⟨nm, qn, N, bs, bm, sn, sub, ab, col, dd, k0, k1, k2, k3, k5, q, h7⟩
      · cases h5
    · cases h2
  · cases h
theorem clsX_ok {K : PySem.W.Frag} {c f : Str} (h : clsX K (c, f) = true) : OexC K (He.ga K c) ∧ XfC K (He.ga K c) ∧ PySem.W.findIn K (.ref (He.ga K c)) f = some none ∧ PySem.W.findIn K (.ref (He.ga K c)) "__init__" = some (some (.ref (He.ma K (He.ga K c) "__init__"))) ∧ PySem.W.typeIn K (.ref (He.ma K (He.ga K c) "__init__")) = some (.type "function") := by
  unfold clsX at h
  simp only [Bool.and_eq_true, decide_eq_true_iff] at h
  obtain ⟨h1, h2, h3, h4, h5, h6, h7, h8⟩ := h
  have y := xfB_ok h5
  exact ⟨⟨oexB_ok h1, h2, y.exC, h3, h4⟩, y, h6, h7, h8⟩
theorem meth_kp {K : PySem.W.Frag} {x m : Str} (h : (He.Fa.meth x m).ok K = true) : PySem.W.keepIn K (.ref (He.ma K (He.ga K x) m)) = true := (He.meth_ok h).kp
theorem insX_ok {K : PySem.W.Frag} {x : Str} (h : insX K x = true) (cl : Cls K (He.ga K x)) : C8.InsC K (He.ga K x) ∧ PySem.W.kitOne K (.type "list") (.ref (He.ga K x)) = some false ∧ PySem.W.notFirst K (He.ga K x) (.type "list") = true ∧ PySem.W.kitOne K (.type "str") (.ref (He.ga K x)) = some false ∧ PySem.W.notFirst K (He.ga K x) (.type "str") = true := by
  unfold insX at h
  simp only [Bool.and_eq_true, decide_eq_true_iff] at h
  obtain ⟨h1, h2, h3, h4, h5, h6, h7, h8, h9⟩ := h
  exact ⟨⟨cl, h1, h2, h3, h4, h5⟩, h6, h7, h8, h9⟩
def gk3_Catalog_init_2_rest {α : Type} : List α → List α → List α → List α → List α
  | [u0, u1], _, _, [w0] => [u0, u1, w0]
  | _, _, _, _ => []
theorem gk3_Catalog_init_2_rest_rel {vs ds mz zs : List V} {us its mv ws : List Value} (r1 : Vals vs us) (r2 : Vals ds its) (r3 : Vals mz mv) (r4 : Vals zs ws) : Vals (gk3_Catalog_init_2_rest vs ds mz zs) (gk3_Catalog_init_2_rest us its mv ws) := by
  cases r1 with
  | nil => exact .nil
  | cons a0 r1 =>
    cases r1 with
    | nil => exact .nil
    | cons a1 r1 =>
      cases r1 with
      | cons _ _ => exact .nil
      | nil =>
        cases r4 with
        | nil => exact .nil
        | cons b0 r4 =>
          cases r4 with
          | cons _ _ => exact .nil
          | nil =>
            exact .cons a0 (.cons a1 (.cons b0 .nil))
theorem gv3_Catalog_init_2_rest_rel {vs zs : List V} {us its mv ws : List Value} (r1 : Vals vs us) (r4 : Vals zs ws) : Vals (gv_Catalog_init_2_rest vs zs) (gk3_Catalog_init_2_rest us its mv ws) := by
  cases r1 with
  | nil => exact .nil
  | cons a0 r1 =>
    cases r1 with
    | nil => exact .nil
    | cons a1 r1 =>
      cases r1 with
      | cons _ _ => exact .nil
      | nil =>
        cases r4 with
        | nil => exact .nil
        | cons b0 r4 =>
          cases r4 with
          | cons _ _ => exact .nil
          | nil =>
            exact .cons a0 (.cons a1 (.cons b0 .nil))
theorem facts {l : PySem.W.OpenLaw} {w : World} {K : PySem.W.Frag} {h : Heap} {mg : Str → Option Value} {f : Addr} (X : K.In h) (G : h.Ns mainGlobals mg) (hfa : mg ("law" : Str) = some (.ref f)) (c : He.SaysX faL fnL [] tfL exB w h K) (co : obPr prL K = prV) : LamX.LawAtS l w K CX0 14 63 "_law_script" mg f h := by
  have cd : He.SaysD faL fnL K := c.t.d
  have e := hfa.symm.trans (He.glo_ok X G (cd.fact 42 (f := .glo "law") rfl))
  cases e
  have ex' : exB K = true := c.more
  unfold exB at ex'
  simp only [Bool.and_eq_true] at ex'
  obtain ⟨e1, e2, e3, e4, e5, e6, e7, e8⟩ := ex'
  obtain ⟨g0, D0⟩ := cd.def_ 0 (d := fd0) rfl
  have D0 : FunD K "__init__" "InvalidName.__init__" (defArgs s_InvalidName_init) (defBody s_InvalidName_init) (defScope s_InvalidName_init) [] [] (He.fAd K ("InvalidName", some "__init__")) g0 := D0
  obtain ⟨g1, D1⟩ := cd.def_ 1 (d := fd1) rfl
  have D1 : FunD K "__init__" "InvalidSpan.__init__" (defArgs s_InvalidSpan_init) (defBody s_InvalidSpan_init) (defScope s_InvalidSpan_init) [] [] (He.fAd K ("InvalidSpan", some "__init__")) g1 := D1
  obtain ⟨g2, D2⟩ := cd.def_ 2 (d := fd2) rfl
  have D2 : FunD K "__init__" "InvalidSpans.__init__" (defArgs s_InvalidSpans_init) (defBody s_InvalidSpans_init) (defScope s_InvalidSpans_init) [] [] (He.fAd K ("InvalidSpans", some "__init__")) g2 := D2
  obtain ⟨g3, D3⟩ := cd.def_ 3 (d := fd3) rfl
  have D3 : FunD K "__init__" "InvalidCatalog.__init__" (defArgs s_InvalidCatalog_init) (defBody s_InvalidCatalog_init) (defScope s_InvalidCatalog_init) [] [] (He.fAd K ("InvalidCatalog", some "__init__")) g3 := D3
  obtain ⟨g4, D4⟩ := cd.def_ 4 (d := fd4) rfl
  have D4 : FunD K "__init__" "InvalidChange.__init__" (defArgs s_InvalidChange_init) (defBody s_InvalidChange_init) (defScope s_InvalidChange_init) [] [] (He.fAd K ("InvalidChange", some "__init__")) g4 := D4
  obtain ⟨g5, D5⟩ := cd.def_ 5 (d := fd5) rfl
  have D5 : FunD K "__init__" "UnknownPart.__init__" (defArgs s_UnknownPart_init) (defBody s_UnknownPart_init) (defScope s_UnknownPart_init) [] [] (He.fAd K ("UnknownPart", some "__init__")) g5 := D5
  obtain ⟨g6, D6⟩ := cd.def_ 6 (d := fd6) rfl
  have D6 : FunD K "__init__" "NameTaken.__init__" (defArgs s_NameTaken_init) (defBody s_NameTaken_init) (defScope s_NameTaken_init) [] [] (He.fAd K ("NameTaken", some "__init__")) g6 := D6
  obtain ⟨g7, D7⟩ := cd.def_ 7 (d := fd7) rfl
  have D7 : FunD K "__init__" "Overlap.__init__" (defArgs s_Overlap_init) (defBody s_Overlap_init) (defScope s_Overlap_init) [] [] (He.fAd K ("Overlap", some "__init__")) g7 := D7
  obtain ⟨g8, D8⟩ := cd.def_ 8 (d := fd8) rfl
  have D8 : FunD K "__init__" "NotInside.__init__" (defArgs s_NotInside_init) (defBody s_NotInside_init) (defScope s_NotInside_init) [] [] (He.fAd K ("NotInside", some "__init__")) g8 := D8
  obtain ⟨g9, D9⟩ := cd.def_ 9 (d := fd9) rfl
  have D9 : FunD K "__init__" "NotNeighbours.__init__" (defArgs s_NotNeighbours_init) (defBody s_NotNeighbours_init) (defScope s_NotNeighbours_init) [] [] (He.fAd K ("NotNeighbours", some "__init__")) g9 := D9
  obtain ⟨g10, D10⟩ := cd.def_ 10 (d := fd10) rfl
  have D10 : FunD K "__init__" "TooMany.__init__" (defArgs s_TooMany_init) (defBody s_TooMany_init) (defScope s_TooMany_init) [] [] (He.fAd K ("TooMany", some "__init__")) g10 := D10
  obtain ⟨g11, D11⟩ := cd.def_ 11 (d := fd11) rfl
  have D11 : FunD K "is_integer" "is_integer" (defArgs s_is_integer) (defBody s_is_integer) (defScope s_is_integer) [] [] (He.fAd K ("is_integer", none)) g11 := D11
  obtain ⟨g12, D12⟩ := cd.def_ 12 (d := fd12) rfl
  have D12 : FunD K "is_name" "is_name" (defArgs s_is_name) (defBody s_is_name) (defScope s_is_name) [] [] (He.fAd K ("is_name", none)) g12 := D12
  obtain ⟨g13, D13⟩ := cd.def_ 13 (d := fd13) rfl
  have D13 : FunD K "is_span" "is_span" (defArgs s_is_span) (defBody s_is_span) (defScope s_is_span) [] [] (He.fAd K ("is_span", none)) g13 := D13
  obtain ⟨g14, D14⟩ := cd.def_ 14 (d := fd14) rfl
  have D14 : FunD K "is_limit" "is_limit" (defArgs s_is_limit) (defBody s_is_limit) (defScope s_is_limit) [] [] (He.fAd K ("is_limit", none)) g14 := D14
  obtain ⟨g15, D15⟩ := cd.def_ 15 (d := fd15) rfl
  have D15 : FunD K "require_name" "require_name" (defArgs s_require_name) (defBody s_require_name) (defScope s_require_name) [] [] (He.fAd K ("require_name", none)) g15 := D15
  obtain ⟨g16, D16⟩ := cd.def_ 16 (d := fd16) rfl
  have D16 : FunD K "require_span" "require_span" (defArgs s_require_span) (defBody s_require_span) (defScope s_require_span) [] [] (He.fAd K ("require_span", none)) g16 := D16
  obtain ⟨g17, D17⟩ := cd.def_ 17 (d := fd17) rfl
  have D17 : FunD K "meet" "meet" (defArgs s_meet) (defBody s_meet) (defScope s_meet) [] [] (He.fAd K ("meet", none)) g17 := D17
  obtain ⟨g18, D18⟩ := cd.def_ 18 (d := fd18) rfl
  have D18 : FunD K "common" "common" (defArgs s_common) (defBody s_common) (defScope s_common) [] [] (He.fAd K ("common", none)) g18 := D18
  obtain ⟨g19, D19⟩ := cd.def_ 19 (d := fd19) rfl
  have D19 : FunD K "__init__" "Catalog.__init__" (defArgs s_Catalog_init) (defBody s_Catalog_init) (defScope s_Catalog_init) [.non] [("rest", .non)] (He.fAd K ("Catalog", some "__init__")) g19 := D19
  have HK19_Catalog_init_2_rest : ∃ its mv : List Value, KBn K g19 ["self", "spans", "rest"] 2 ["rest"] (fun us ws => gk3_Catalog_init_2_rest us its mv ws) (fun vs zs => gk3_Catalog_init_2_rest vs [.non] (([] : List (Str × V)).map (·.2)) zs) := D19.kbinds 2 ["rest"] [] (fun {α} us its mv ws => gk3_Catalog_init_2_rest us its mv ws) (by decide) (by decide) (fun _ h => nomatch h) (fun {vs ds mz zs us its mv ws} r1 r2 r3 r4 => gk3_Catalog_init_2_rest_rel r1 r2 r3 r4) fun _ _ _ _ _ _ _ us its mv ws h1 h2 h3 h4 => by
    match us, its, mv, ws, h1, h2, h3, h4 with
    | [_, _], [_], [], [_], _, _, _, _ => exact ⟨_, rfl, rfl⟩
  obtain ⟨it_Catalog_init_2_rest, mv_Catalog_init_2_rest, kb_Catalog_init_2_rest⟩ := HK19_Catalog_init_2_rest
  obtain ⟨g20, D20⟩ := cd.def_ 20 (d := fd20) rfl
  have D20 : FunD K "names" "Catalog.names" (defArgs s_Catalog_names) (defBody s_Catalog_names) (defScope s_Catalog_names) [] [] (He.fAd K ("Catalog", some "names")) g20 := D20
  obtain ⟨g21, D21⟩ := cd.def_ 21 (d := fd21) rfl
  have D21 : FunD K "__contains__" "Catalog.__contains__" (defArgs s_Catalog_contains) (defBody s_Catalog_contains) (defScope s_Catalog_contains) [] [] (He.fAd K ("Catalog", some "__contains__")) g21 := D21
  obtain ⟨g22, D22⟩ := cd.def_ 22 (d := fd22) rfl
  have D22 : FunD K "__eq__" "Catalog.__eq__" (defArgs s_Catalog_eq) (defBody s_Catalog_eq) (defScope s_Catalog_eq) [] [] (He.fAd K ("Catalog", some "__eq__")) g22 := D22
  obtain ⟨g23, D23⟩ := cd.def_ 23 (d := fd23) rfl
  have D23 : FunD K "span" "Catalog.span" (defArgs s_Catalog_span) (defBody s_Catalog_span) (defScope s_Catalog_span) [] [] (He.fAd K ("Catalog", some "span")) g23 := D23
  obtain ⟨g24, D24⟩ := cd.def_ 24 (d := fd24) rfl
  have D24 : FunD K "require_spans" "require_spans" (defArgs s_require_spans) (defBody s_require_spans) (defScope s_require_spans) [] [] (He.fAd K ("require_spans", none)) g24 := D24
  obtain ⟨g25, D25⟩ := cd.def_ 25 (d := fd25) rfl
  have D25 : FunD K "require_rest" "require_rest" (defArgs s_require_rest) (defBody s_require_rest) (defScope s_require_rest) [] [] (He.fAd K ("require_rest", none)) g25 := D25
  obtain ⟨g26, D26⟩ := cd.def_ 26 (d := fd26) rfl
  have D26 : FunD K "ordered_spans" "ordered_spans" (defArgs s_ordered_spans) (defBody s_ordered_spans) (defScope s_ordered_spans) [] [] (He.fAd K ("ordered_spans", none)) g26 := D26
  obtain ⟨g27, D27⟩ := cd.def_ 27 (d := fd27) rfl
  have D27 : FunD K "first_meeting" "first_meeting" (defArgs s_first_meeting) (defBody s_first_meeting) (defScope s_first_meeting) [] [] (He.fAd K ("first_meeting", none)) g27 := D27
  obtain ⟨g28, D28⟩ := cd.def_ 28 (d := fd28) rfl
  have D28 : FunD K "all_stretches" "all_stretches" (defArgs s_all_stretches) (defBody s_all_stretches) (defScope s_all_stretches) [] [] (He.fAd K ("all_stretches", none)) g28 := D28
  obtain ⟨g29, D29⟩ := cd.def_ 29 (d := fd29) rfl
  have D29 : FunD K "low_place" "low_place" (defArgs s_low_place) (defBody s_low_place) (defScope s_low_place) [] [] (He.fAd K ("low_place", none)) g29 := D29
  obtain ⟨g30, D30⟩ := cd.def_ 30 (d := fd30) rfl
  have D30 : FunD K "is_change" "is_change" (defArgs s_is_change) (defBody s_is_change) (defScope s_is_change) [] [] (He.fAd K ("is_change", none)) g30 := D30
  obtain ⟨g31, D31⟩ := cd.def_ 31 (d := fd31) rfl
  have D31 : FunD K "are_different_names" "are_different_names" (defArgs s_are_different_names) (defBody s_are_different_names) (defScope s_are_different_names) [] [] (He.fAd K ("are_different_names", none)) g31 := D31
  obtain ⟨g32, D32⟩ := cd.def_ 32 (d := fd32) rfl
  have D32 : FunD K "require_change" "require_change" (defArgs s_require_change) (defBody s_require_change) (defScope s_require_change) [] [] (He.fAd K ("require_change", none)) g32 := D32
  obtain ⟨g33, D33⟩ := cd.def_ 33 (d := fd33) rfl
  have D33 : FunD K "require_catalog" "require_catalog" (defArgs s_require_catalog) (defBody s_require_catalog) (defScope s_require_catalog) [] [] (He.fAd K ("require_catalog", none)) g33 := D33
  obtain ⟨g34, D34⟩ := cd.def_ 34 (d := fd34) rfl
  have D34 : FunD K "roles" "roles" (defArgs s_roles) (defBody s_roles) (defScope s_roles) [] [] (He.fAd K ("roles", none)) g34 := D34
  obtain ⟨g35, D35⟩ := cd.def_ 35 (d := fd35) rfl
  have D35 : FunD K "changed" "changed" (defArgs s_changed) (defBody s_changed) (defScope s_changed) [] [] (He.fAd K ("changed", none)) g35 := D35
  obtain ⟨g36, D36⟩ := cd.def_ 36 (d := fd36) rfl
  have D36 : FunD K "spans_of" "spans_of" (defArgs s_spans_of) (defBody s_spans_of) (defScope s_spans_of) [] [] (He.fAd K ("spans_of", none)) g36 := D36
  obtain ⟨g37, D37⟩ := cd.def_ 37 (d := fd37) rfl
  have D37 : FunD K "new_spans" "new_spans" (defArgs s_new_spans) (defBody s_new_spans) (defScope s_new_spans) [] [] (He.fAd K ("new_spans", none)) g37 := D37
  obtain ⟨g38, D38⟩ := cd.def_ 38 (d := fd38) rfl
  have D38 : FunD K "split_spans" "split_spans" (defArgs s_split_spans) (defBody s_split_spans) (defScope s_split_spans) [] [] (He.fAd K ("split_spans", none)) g38 := D38
  obtain ⟨g39, D39⟩ := cd.def_ 39 (d := fd39) rfl
  have D39 : FunD K "joined_spans" "joined_spans" (defArgs s_joined_spans) (defBody s_joined_spans) (defScope s_joined_spans) [] [] (He.fAd K ("joined_spans", none)) g39 := D39
  obtain ⟨g40, D40⟩ := cd.def_ 40 (d := fd40) rfl
  have D40 : FunD K "fits" "fits" (defArgs s_fits) (defBody s_fits) (defScope s_fits) [] [] (He.fAd K ("fits", none)) g40 := D40
  obtain ⟨g41, D41⟩ := cd.def_ 41 (d := fd41) rfl
  have D41 : FunD K "reverse" "reverse" (defArgs s_reverse) (defBody s_reverse) (defScope s_reverse) [] [] (He.fAd K ("reverse", none)) g41 := D41
  obtain ⟨g42, D42⟩ := cd.def_ 42 (d := fd42) rfl
  have D42 : FunD K "_law_cell" "_law_cell" (defArgs s_law_cell) (defBody s_law_cell) (defScope s_law_cell) [] [] (He.fAd K ("_law_cell", none)) g42 := D42
  obtain ⟨g43, D43⟩ := cd.def_ 43 (d := fd43) rfl
  have D43 : FunD K "_law_box" "_law_box" (defArgs s_law_box) (defBody s_law_box) (defScope s_law_box) [] [] (He.fAd K ("_law_box", none)) g43 := D43
  obtain ⟨g44, D44⟩ := cd.def_ 44 (d := fd44) rfl
  have D44 : FunD K "_law_take" "_law_take" (defArgs s_law_take) (defBody s_law_take) (defScope s_law_take) [] [] (He.fAd K ("_law_take", none)) g44 := D44
  obtain ⟨g45, D45⟩ := cd.def_ 45 (d := fd45) rfl
  have D45 : FunD K "_law_mixed" "_law_mixed" (defArgs s_law_mixed) (defBody s_law_mixed) (defScope s_law_mixed) [] [] (He.fAd K ("_law_mixed", none)) g45 := D45
  obtain ⟨g46, D46⟩ := cd.def_ 46 (d := fd46) rfl
  have D46 : FunD K "_law_names" "_law_names" (defArgs s_law_names) (defBody s_law_names) (defScope s_law_names) [] [] (He.fAd K ("_law_names", none)) g46 := D46
  obtain ⟨g47, D47⟩ := cd.def_ 47 (d := fd47) rfl
  have D47 : FunD K "_law_model" "_law_model" (defArgs s_law_model) (defBody s_law_model) (defScope s_law_model) [] [] (He.fAd K ("_law_model", none)) g47 := D47
  obtain ⟨g48, D48⟩ := cd.def_ 48 (d := fd48) rfl
  have D48 : FunD K "_law_catalog" "_law_catalog" (defArgs s_law_catalog) (defBody s_law_catalog) (defScope s_law_catalog) [] [] (He.fAd K ("_law_catalog", none)) g48 := D48
  obtain ⟨g49, D49⟩ := cd.def_ 49 (d := fd49) rfl
  have D49 : FunD K "_law_all_names" "_law_all_names" (defArgs s_law_all_names) (defBody s_law_all_names) (defScope s_law_all_names) [] [] (He.fAd K ("_law_all_names", none)) g49 := D49
  obtain ⟨g50, D50⟩ := cd.def_ 50 (d := fd50) rfl
  have D50 : FunD K "_law_meet" "_law_meet" (defArgs s_law_meet) (defBody s_law_meet) (defScope s_law_meet) [] [] (He.fAd K ("_law_meet", none)) g50 := D50
  obtain ⟨g51, D51⟩ := cd.def_ 51 (d := fd51) rfl
  have D51 : FunD K "_law_span_of" "_law_span_of" (defArgs s_law_span_of) (defBody s_law_span_of) (defScope s_law_span_of) [] [] (He.fAd K ("_law_span_of", none)) g51 := D51
  obtain ⟨g52, D52⟩ := cd.def_ 52 (d := fd52) rfl
  have D52 : FunD K "_law_after" "_law_after" (defArgs s_law_after) (defBody s_law_after) (defScope s_law_after) [] [] (He.fAd K ("_law_after", none)) g52 := D52
  obtain ⟨g53, D53⟩ := cd.def_ 53 (d := fd53) rfl
  have D53 : FunD K "_law_limits" "_law_limits" (defArgs s_law_limits) (defBody s_law_limits) (defScope s_law_limits) [] [] (He.fAd K ("_law_limits", none)) g53 := D53
  obtain ⟨g54, D54⟩ := cd.def_ 54 (d := fd54) rfl
  have D54 : FunD K "_law_spare" "_law_spare" (defArgs s_law_spare) (defBody s_law_spare) (defScope s_law_spare) [] [] (He.fAd K ("_law_spare", none)) g54 := D54
  obtain ⟨g55, D55⟩ := cd.def_ 55 (d := fd55) rfl
  have D55 : FunD K "_law_drawn_change" "_law_drawn_change" (defArgs s_law_drawn_change) (defBody s_law_drawn_change) (defScope s_law_drawn_change) [] [] (He.fAd K ("_law_drawn_change", none)) g55 := D55
  obtain ⟨g56, D56⟩ := cd.def_ 56 (d := fd56) rfl
  have D56 : FunD K "_law_drawn_join" "_law_drawn_join" (defArgs s_law_drawn_join) (defBody s_law_drawn_join) (defScope s_law_drawn_join) [] [] (He.fAd K ("_law_drawn_join", none)) g56 := D56
  obtain ⟨g57, D57⟩ := cd.def_ 57 (d := fd57) rfl
  have D57 : FunD K "_law_told" "_law_told" (defArgs s_law_told) (defBody s_law_told) (defScope s_law_told) [] [] (He.fAd K ("_law_told", none)) g57 := D57
  obtain ⟨g58, D58⟩ := cd.def_ 58 (d := fd58) rfl
  have D58 : FunD K "law" "law" (defArgs s_law) (defBody s_law) (defScope s_law) [] [] (He.fAd K ("law", none)) g58 := D58
  have z0 := clsX_ok (List.all_eq_true.mp e1 ("InvalidName", "value") (List.mem_of_getElem? (i := 0) rfl))
  have z1 := clsX_ok (List.all_eq_true.mp e1 ("InvalidSpan", "value") (List.mem_of_getElem? (i := 1) rfl))
  have z2 := clsX_ok (List.all_eq_true.mp e1 ("InvalidSpans", "value") (List.mem_of_getElem? (i := 2) rfl))
  have z3 := clsX_ok (List.all_eq_true.mp e1 ("InvalidCatalog", "value") (List.mem_of_getElem? (i := 3) rfl))
  have z4 := clsX_ok (List.all_eq_true.mp e1 ("InvalidChange", "value") (List.mem_of_getElem? (i := 4) rfl))
  have z5 := clsX_ok (List.all_eq_true.mp e1 ("UnknownPart", "name") (List.mem_of_getElem? (i := 5) rfl))
  have z6 := clsX_ok (List.all_eq_true.mp e1 ("NameTaken", "name") (List.mem_of_getElem? (i := 6) rfl))
  have z7 := clsX_ok (List.all_eq_true.mp e1 ("Overlap", "name") (List.mem_of_getElem? (i := 7) rfl))
  have z8 := clsX_ok (List.all_eq_true.mp e1 ("NotInside", "at") (List.mem_of_getElem? (i := 8) rfl))
  have z9 := clsX_ok (List.all_eq_true.mp e1 ("NotNeighbours", "name") (List.mem_of_getElem? (i := 9) rfl))
  have z10 := clsX_ok (List.all_eq_true.mp e1 ("TooMany", "bound") (List.mem_of_getElem? (i := 10) rfl))
  have iz0 := insX_ok (x := "Catalog") e2 (He.cls_ok (x := "Catalog") (cd.fact 55 rfl))
  obtain ⟨pp0, fdp0, Dp0⟩ := pr_ok (C := "Catalog") (f := "rest") (qual := "Catalog.rest") (name := "rest") (params := defArgs s_Catalog_rest) (body := defBody s_Catalog_rest) (scope := defScope s_Catalog_rest) e8 (My.List.get_of_map co 0 rfl rfl)
  obtain ⟨u_LONGEST_NAME, v_LONGEST_NAME⟩ := He.int_ok X G (x := "LONGEST_NAME") (i := 8) (cd.fact 109 rfl)
  obtain ⟨u_MOST_PARTS, v_MOST_PARTS⟩ := He.int_ok X G (x := "MOST_PARTS") (i := 8) (cd.fact 110 rfl)
  refine ⟨g58, tfL.map (He.cT K), sp_lawT K (He.cT K ("all_stretches", none)).2, fun p hp => ?_, fun p hp => ?_, fun p hp => ?_, fun s v => .of_eq (by
    obtain ⟨_, _, _, _, _, _, _, _, _, rfl, _⟩ := (funOfD D58).ex
    rfl), fun H a ns hl _ hT hS => ⟨a, ns, rfl, hS, hl, LamX.TabS.nil (hT _ (List.mem_map.mpr ⟨_, List.mem_of_getElem? (i := 0) rfl, rfl⟩)), fun _ => rfl⟩, fun base _ _ hTB' => ?_⟩
  · obtain ⟨z, hz, rfl⟩ := List.mem_map.mp hp
    exact c.empty z hz
  · obtain ⟨z, hz, rfl⟩ := List.mem_map.mp hp
    exact c.out z hz
  · obtain ⟨z, hz, rfl⟩ := List.mem_map.mp hp
    exact PySem.W.codeHd_of_K X (c.hd z hz)
  have hTB : ∀ p ∈ tfL, LamX.TabB base mg (He.cT K p).1 (He.cT K p).2 := fun p hp => hTB' _ (List.mem_map.mpr ⟨p, hp, rfl⟩)
  let T : Txt K mg base := {
    f_InvalidName_init := He.fAd K ("InvalidName", some "__init__"), fd_InvalidName_init := g0,
    F_InvalidName_init := funOfD D0, b_InvalidName_init := (funOfD D0).binds (ps := ["self", "value"]) fun _ _ _ _ _ _ us hl => match us, hl with | [_, _], _ => rfl,
    f_InvalidSpan_init := He.fAd K ("InvalidSpan", some "__init__"), fd_InvalidSpan_init := g1,
    F_InvalidSpan_init := funOfD D1, b_InvalidSpan_init := (funOfD D1).binds (ps := ["self", "value"]) fun _ _ _ _ _ _ us hl => match us, hl with | [_, _], _ => rfl,
    f_InvalidSpans_init := He.fAd K ("InvalidSpans", some "__init__"), fd_InvalidSpans_init := g2,
    F_InvalidSpans_init := funOfD D2, b_InvalidSpans_init := (funOfD D2).binds (ps := ["self", "value"]) fun _ _ _ _ _ _ us hl => match us, hl with | [_, _], _ => rfl,
    f_InvalidCatalog_init := He.fAd K ("InvalidCatalog", some "__init__"), fd_InvalidCatalog_init := g3,
    F_InvalidCatalog_init := funOfD D3, b_InvalidCatalog_init := (funOfD D3).binds (ps := ["self", "value"]) fun _ _ _ _ _ _ us hl => match us, hl with | [_, _], _ => rfl,
    f_InvalidChange_init := He.fAd K ("InvalidChange", some "__init__"), fd_InvalidChange_init := g4,
    F_InvalidChange_init := funOfD D4, b_InvalidChange_init := (funOfD D4).binds (ps := ["self", "value"]) fun _ _ _ _ _ _ us hl => match us, hl with | [_, _], _ => rfl,
    f_UnknownPart_init := He.fAd K ("UnknownPart", some "__init__"), fd_UnknownPart_init := g5,
    F_UnknownPart_init := funOfD D5, b_UnknownPart_init := (funOfD D5).binds (ps := ["self", "name"]) fun _ _ _ _ _ _ us hl => match us, hl with | [_, _], _ => rfl,
    f_NameTaken_init := He.fAd K ("NameTaken", some "__init__"), fd_NameTaken_init := g6,
    F_NameTaken_init := funOfD D6, b_NameTaken_init := (funOfD D6).binds (ps := ["self", "name"]) fun _ _ _ _ _ _ us hl => match us, hl with | [_, _], _ => rfl,
    f_Overlap_init := He.fAd K ("Overlap", some "__init__"), fd_Overlap_init := g7,
    F_Overlap_init := funOfD D7, b_Overlap_init := (funOfD D7).binds (ps := ["self", "name"]) fun _ _ _ _ _ _ us hl => match us, hl with | [_, _], _ => rfl,
    f_NotInside_init := He.fAd K ("NotInside", some "__init__"), fd_NotInside_init := g8,
    F_NotInside_init := funOfD D8, b_NotInside_init := (funOfD D8).binds (ps := ["self", "at"]) fun _ _ _ _ _ _ us hl => match us, hl with | [_, _], _ => rfl,
    f_NotNeighbours_init := He.fAd K ("NotNeighbours", some "__init__"), fd_NotNeighbours_init := g9,
    F_NotNeighbours_init := funOfD D9, b_NotNeighbours_init := (funOfD D9).binds (ps := ["self", "name"]) fun _ _ _ _ _ _ us hl => match us, hl with | [_, _], _ => rfl,
    f_TooMany_init := He.fAd K ("TooMany", some "__init__"), fd_TooMany_init := g10,
    F_TooMany_init := funOfD D10, b_TooMany_init := (funOfD D10).binds (ps := ["self", "bound"]) fun _ _ _ _ _ _ us hl => match us, hl with | [_, _], _ => rfl,
    f_is_integer := He.fAd K ("is_integer", none), fd_is_integer := g11,
    F_is_integer := funOfD D11, b_is_integer := (funOfD D11).binds (ps := ["value"]) fun _ _ _ _ _ _ us hl => match us, hl with | [_], _ => rfl,
    m_is_integer := He.glo_ok X G (cd.fact 0 (f := .glo "is_integer") rfl),
    f_is_name := He.fAd K ("is_name", none), fd_is_name := g12,
    F_is_name := funOfD D12, b_is_name := (funOfD D12).binds (ps := ["value"]) fun _ _ _ _ _ _ us hl => match us, hl with | [_], _ => rfl,
    m_is_name := He.glo_ok X G (cd.fact 1 (f := .glo "is_name") rfl),
    f_is_span := He.fAd K ("is_span", none), fd_is_span := g13,
    F_is_span := funOfD D13, b_is_span := (funOfD D13).binds (ps := ["value"]) fun _ _ _ _ _ _ us hl => match us, hl with | [_], _ => rfl,
    m_is_span := He.glo_ok X G (cd.fact 2 (f := .glo "is_span") rfl),
    f_is_limit := He.fAd K ("is_limit", none), fd_is_limit := g14,
    F_is_limit := funOfD D14, b_is_limit := (funOfD D14).binds (ps := ["value"]) fun _ _ _ _ _ _ us hl => match us, hl with | [_], _ => rfl,
    m_is_limit := He.glo_ok X G (cd.fact 3 (f := .glo "is_limit") rfl),
    f_require_name := He.fAd K ("require_name", none), fd_require_name := g15,
    F_require_name := funOfD D15, b_require_name := (funOfD D15).binds (ps := ["value"]) fun _ _ _ _ _ _ us hl => match us, hl with | [_], _ => rfl,
    m_require_name := He.glo_ok X G (cd.fact 4 (f := .glo "require_name") rfl),
    f_require_span := He.fAd K ("require_span", none), fd_require_span := g16,
    F_require_span := funOfD D16, b_require_span := (funOfD D16).binds (ps := ["value"]) fun _ _ _ _ _ _ us hl => match us, hl with | [_], _ => rfl,
    m_require_span := He.glo_ok X G (cd.fact 5 (f := .glo "require_span") rfl),
    f_meet := He.fAd K ("meet", none), fd_meet := g17,
    F_meet := funOfD D17, b_meet := (funOfD D17).binds (ps := ["one", "other"]) fun _ _ _ _ _ _ us hl => match us, hl with | [_, _], _ => rfl,
    m_meet := He.glo_ok X G (cd.fact 6 (f := .glo "meet") rfl),
    f_common := He.fAd K ("common", none), fd_common := g18,
    F_common := funOfD D18, b_common := (funOfD D18).binds (ps := ["one", "other"]) fun _ _ _ _ _ _ us hl => match us, hl with | [_, _], _ => rfl,
    m_common := He.glo_ok X G (cd.fact 7 (f := .glo "common") rfl),
    f_Catalog_init := He.fAd K ("Catalog", some "__init__"), fd_Catalog_init := g19,
    F_Catalog_init := D19,
    gk_Catalog_init_2_rest := fun us ws => gk3_Catalog_init_2_rest us it_Catalog_init_2_rest mv_Catalog_init_2_rest ws, kb_Catalog_init_2_rest := ⟨kb_Catalog_init_2_rest.to, fun {vs us zs ws} r1 r2 => gv3_Catalog_init_2_rest_rel r1 r2⟩,
    f_Catalog_names := He.fAd K ("Catalog", some "names"), fd_Catalog_names := g20,
    F_Catalog_names := funOfD D20, b_Catalog_names := (funOfD D20).binds (ps := ["self"]) fun _ _ _ _ _ _ us hl => match us, hl with | [_], _ => rfl,
    f_Catalog_contains := He.fAd K ("Catalog", some "__contains__"), fd_Catalog_contains := g21,
    F_Catalog_contains := funOfD D21, b_Catalog_contains := (funOfD D21).binds (ps := ["self", "x"]) fun _ _ _ _ _ _ us hl => match us, hl with | [_, _], _ => rfl,
    f_Catalog_eq := He.fAd K ("Catalog", some "__eq__"), fd_Catalog_eq := g22,
    F_Catalog_eq := funOfD D22, b_Catalog_eq := (funOfD D22).binds (ps := ["self", "other"]) fun _ _ _ _ _ _ us hl => match us, hl with | [_, _], _ => rfl,
    f_Catalog_span := He.fAd K ("Catalog", some "span"), fd_Catalog_span := g23,
    F_Catalog_span := funOfD D23, b_Catalog_span := (funOfD D23).binds (ps := ["self", "name"]) fun _ _ _ _ _ _ us hl => match us, hl with | [_, _], _ => rfl,
    f_require_spans := He.fAd K ("require_spans", none), fd_require_spans := g24,
    F_require_spans := funOfD D24, b_require_spans := (funOfD D24).binds (ps := ["spans"]) fun _ _ _ _ _ _ us hl => match us, hl with | [_], _ => rfl,
    m_require_spans := He.glo_ok X G (cd.fact 8 (f := .glo "require_spans") rfl),
    f_require_rest := He.fAd K ("require_rest", none), fd_require_rest := g25,
    F_require_rest := funOfD D25, b_require_rest := (funOfD D25).binds (ps := ["rest", "spans"]) fun _ _ _ _ _ _ us hl => match us, hl with | [_, _], _ => rfl,
    m_require_rest := He.glo_ok X G (cd.fact 9 (f := .glo "require_rest") rfl),
    f_ordered_spans := He.fAd K ("ordered_spans", none), fd_ordered_spans := g26,
    F_ordered_spans := funOfD D26, b_ordered_spans := (funOfD D26).binds (ps := ["spans"]) fun _ _ _ _ _ _ us hl => match us, hl with | [_], _ => rfl,
    m_ordered_spans := He.glo_ok X G (cd.fact 10 (f := .glo "ordered_spans") rfl),
    f_first_meeting := He.fAd K ("first_meeting", none), fd_first_meeting := g27,
    F_first_meeting := funOfD D27, b_first_meeting := (funOfD D27).binds (ps := ["spans", "span"]) fun _ _ _ _ _ _ us hl => match us, hl with | [_, _], _ => rfl,
    m_first_meeting := He.glo_ok X G (cd.fact 11 (f := .glo "first_meeting") rfl),
    f_all_stretches := He.fAd K ("all_stretches", none), fd_all_stretches := g28,
    F_all_stretches := funOfD D28, b_all_stretches := (funOfD D28).binds (ps := ["spans", "rest"]) fun _ _ _ _ _ _ us hl => match us, hl with | [_, _], _ => rfl,
    cc_all_stretches := He.codeOf K ("all_stretches", none), pt_all_stretches := (He.cT K ("all_stretches", none)).2, FC_all_stretches := funC_of D28, tb_all_stretches := hTB _ (List.mem_of_getElem? (i := 0) rfl),
    m_all_stretches := He.glo_ok X G (cd.fact 12 (f := .glo "all_stretches") rfl),
    f_low_place := He.fAd K ("low_place", none), fd_low_place := g29,
    F_low_place := funOfD D29, b_low_place := (funOfD D29).binds (ps := ["span"]) fun _ _ _ _ _ _ us hl => match us, hl with | [_], _ => rfl,
    m_low_place := He.glo_ok X G (cd.fact 13 (f := .glo "low_place") rfl),
    f_is_change := He.fAd K ("is_change", none), fd_is_change := g30,
    F_is_change := funOfD D30, b_is_change := (funOfD D30).binds (ps := ["value"]) fun _ _ _ _ _ _ us hl => match us, hl with | [_], _ => rfl,
    m_is_change := He.glo_ok X G (cd.fact 14 (f := .glo "is_change") rfl),
    f_are_different_names := He.fAd K ("are_different_names", none), fd_are_different_names := g31,
    F_are_different_names := funOfD D31, b_are_different_names := (funOfD D31).binds (ps := ["values"]) fun _ _ _ _ _ _ us hl => match us, hl with | [_], _ => rfl,
    m_are_different_names := He.glo_ok X G (cd.fact 15 (f := .glo "are_different_names") rfl),
    f_require_change := He.fAd K ("require_change", none), fd_require_change := g32,
    F_require_change := funOfD D32, b_require_change := (funOfD D32).binds (ps := ["value"]) fun _ _ _ _ _ _ us hl => match us, hl with | [_], _ => rfl,
    m_require_change := He.glo_ok X G (cd.fact 16 (f := .glo "require_change") rfl),
    f_require_catalog := He.fAd K ("require_catalog", none), fd_require_catalog := g33,
    F_require_catalog := funOfD D33, b_require_catalog := (funOfD D33).binds (ps := ["value"]) fun _ _ _ _ _ _ us hl => match us, hl with | [_], _ => rfl,
    m_require_catalog := He.glo_ok X G (cd.fact 17 (f := .glo "require_catalog") rfl),
    f_roles := He.fAd K ("roles", none), fd_roles := g34,
    F_roles := funOfD D34, b_roles := (funOfD D34).binds (ps := ["change"]) fun _ _ _ _ _ _ us hl => match us, hl with | [_], _ => rfl,
    m_roles := He.glo_ok X G (cd.fact 18 (f := .glo "roles") rfl),
    f_changed := He.fAd K ("changed", none), fd_changed := g35,
    F_changed := funOfD D35, b_changed := (funOfD D35).binds (ps := ["catalog", "change"]) fun _ _ _ _ _ _ us hl => match us, hl with | [_, _], _ => rfl,
    m_changed := He.glo_ok X G (cd.fact 19 (f := .glo "changed") rfl),
    f_spans_of := He.fAd K ("spans_of", none), fd_spans_of := g36,
    F_spans_of := funOfD D36, b_spans_of := (funOfD D36).binds (ps := ["catalog"]) fun _ _ _ _ _ _ us hl => match us, hl with | [_], _ => rfl,
    m_spans_of := He.glo_ok X G (cd.fact 20 (f := .glo "spans_of") rfl),
    f_new_spans := He.fAd K ("new_spans", none), fd_new_spans := g37,
    F_new_spans := funOfD D37, b_new_spans := (funOfD D37).binds (ps := ["spans", "change"]) fun _ _ _ _ _ _ us hl => match us, hl with | [_, _], _ => rfl,
    m_new_spans := He.glo_ok X G (cd.fact 21 (f := .glo "new_spans") rfl),
    f_split_spans := He.fAd K ("split_spans", none), fd_split_spans := g38,
    F_split_spans := funOfD D38, b_split_spans := (funOfD D38).binds (ps := ["spans", "name", "at", "left", "right"]) fun _ _ _ _ _ _ us hl => match us, hl with | [_, _, _, _, _], _ => rfl,
    m_split_spans := He.glo_ok X G (cd.fact 22 (f := .glo "split_spans") rfl),
    f_joined_spans := He.fAd K ("joined_spans", none), fd_joined_spans := g39,
    F_joined_spans := funOfD D39, b_joined_spans := (funOfD D39).binds (ps := ["spans", "left", "right", "name"]) fun _ _ _ _ _ _ us hl => match us, hl with | [_, _, _, _], _ => rfl,
    m_joined_spans := He.glo_ok X G (cd.fact 23 (f := .glo "joined_spans") rfl),
    f_fits := He.fAd K ("fits", none), fd_fits := g40,
    F_fits := funOfD D40, b_fits := (funOfD D40).binds (ps := ["catalog", "change"]) fun _ _ _ _ _ _ us hl => match us, hl with | [_, _], _ => rfl,
    m_fits := He.glo_ok X G (cd.fact 24 (f := .glo "fits") rfl),
    f_reverse := He.fAd K ("reverse", none), fd_reverse := g41,
    F_reverse := funOfD D41, b_reverse := (funOfD D41).binds (ps := ["catalog", "change"]) fun _ _ _ _ _ _ us hl => match us, hl with | [_, _], _ => rfl,
    m_reverse := He.glo_ok X G (cd.fact 25 (f := .glo "reverse") rfl),
    f_law_cell := He.fAd K ("_law_cell", none), fd_law_cell := g42,
    F_law_cell := funOfD D42, b_law_cell := (funOfD D42).binds (ps := ["_law_script", "_law_k"]) fun _ _ _ _ _ _ us hl => match us, hl with | [_, _], _ => rfl,
    m_law_cell := He.glo_ok X G (cd.fact 26 (f := .glo "_law_cell") rfl),
    f_law_box := He.fAd K ("_law_box", none), fd_law_box := g43,
    F_law_box := funOfD D43, b_law_box := (funOfD D43).binds (ps := ["_law_cell_here"]) fun _ _ _ _ _ _ us hl => match us, hl with | [_], _ => rfl,
    m_law_box := He.glo_ok X G (cd.fact 27 (f := .glo "_law_box") rfl),
    f_law_take := He.fAd K ("_law_take", none), fd_law_take := g44,
    F_law_take := funOfD D44, b_law_take := (funOfD D44).binds (ps := ["_law_box_here", "_law_many"]) fun _ _ _ _ _ _ us hl => match us, hl with | [_, _], _ => rfl,
    m_law_take := He.glo_ok X G (cd.fact 28 (f := .glo "_law_take") rfl),
    f_law_mixed := He.fAd K ("_law_mixed", none), fd_law_mixed := g45,
    F_law_mixed := funOfD D45, b_law_mixed := (funOfD D45).binds (ps := ["_law_box_here", "_law_some"]) fun _ _ _ _ _ _ us hl => match us, hl with | [_, _], _ => rfl,
    m_law_mixed := He.glo_ok X G (cd.fact 29 (f := .glo "_law_mixed") rfl),
    f_law_names := He.fAd K ("_law_names", none), fd_law_names := g46,
    F_law_names := funOfD D46, b_law_names := (funOfD D46).binds (ps := ["_law_box_here", "_law_many"]) fun _ _ _ _ _ _ us hl => match us, hl with | [_, _], _ => rfl,
    m_law_names := He.glo_ok X G (cd.fact 30 (f := .glo "_law_names") rfl),
    f_law_model := He.fAd K ("_law_model", none), fd_law_model := g47,
    F_law_model := funOfD D47, b_law_model := (funOfD D47).binds (ps := ["_law_box_here", "_law_most"]) fun _ _ _ _ _ _ us hl => match us, hl with | [_, _], _ => rfl,
    m_law_model := He.glo_ok X G (cd.fact 31 (f := .glo "_law_model") rfl),
    f_law_catalog := He.fAd K ("_law_catalog", none), fd_law_catalog := g48,
    F_law_catalog := funOfD D48, b_law_catalog := (funOfD D48).binds (ps := ["_law_box_here", "_law_model_here"]) fun _ _ _ _ _ _ us hl => match us, hl with | [_, _], _ => rfl,
    m_law_catalog := He.glo_ok X G (cd.fact 32 (f := .glo "_law_catalog") rfl),
    f_law_all_names := He.fAd K ("_law_all_names", none), fd_law_all_names := g49,
    F_law_all_names := funOfD D49, b_law_all_names := (funOfD D49).binds (ps := ["_law_model_here"]) fun _ _ _ _ _ _ us hl => match us, hl with | [_], _ => rfl,
    m_law_all_names := He.glo_ok X G (cd.fact 33 (f := .glo "_law_all_names") rfl),
    f_law_meet := He.fAd K ("_law_meet", none), fd_law_meet := g50,
    F_law_meet := funOfD D50, b_law_meet := (funOfD D50).binds (ps := ["_law_one", "_law_other"]) fun _ _ _ _ _ _ us hl => match us, hl with | [_, _], _ => rfl,
    m_law_meet := He.glo_ok X G (cd.fact 34 (f := .glo "_law_meet") rfl),
    f_law_span_of := He.fAd K ("_law_span_of", none), fd_law_span_of := g51,
    F_law_span_of := funOfD D51, b_law_span_of := (funOfD D51).binds (ps := ["_law_model_here", "_law_name"]) fun _ _ _ _ _ _ us hl => match us, hl with | [_, _], _ => rfl,
    m_law_span_of := He.glo_ok X G (cd.fact 35 (f := .glo "_law_span_of") rfl),
    f_law_after := He.fAd K ("_law_after", none), fd_law_after := g52,
    F_law_after := funOfD D52, b_law_after := (funOfD D52).binds (ps := ["_law_model_here", "_law_deed"]) fun _ _ _ _ _ _ us hl => match us, hl with | [_, _], _ => rfl,
    m_law_after := He.glo_ok X G (cd.fact 36 (f := .glo "_law_after") rfl),
    f_law_limits := He.fAd K ("_law_limits", none), fd_law_limits := g53,
    F_law_limits := funOfD D53, b_law_limits := (funOfD D53).binds (ps := ["_law_model_here"]) fun _ _ _ _ _ _ us hl => match us, hl with | [_], _ => rfl,
    m_law_limits := He.glo_ok X G (cd.fact 37 (f := .glo "_law_limits") rfl),
    f_law_spare := He.fAd K ("_law_spare", none), fd_law_spare := g54,
    F_law_spare := funOfD D54, b_law_spare := (funOfD D54).binds (ps := ["_law_box_here", "_law_model_here"]) fun _ _ _ _ _ _ us hl => match us, hl with | [_, _], _ => rfl,
    m_law_spare := He.glo_ok X G (cd.fact 38 (f := .glo "_law_spare") rfl),
    f_law_drawn_change := He.fAd K ("_law_drawn_change", none), fd_law_drawn_change := g55,
    F_law_drawn_change := funOfD D55, b_law_drawn_change := (funOfD D55).binds (ps := ["_law_box_here", "_law_model_here", "_law_spare_here"]) fun _ _ _ _ _ _ us hl => match us, hl with | [_, _, _], _ => rfl,
    m_law_drawn_change := He.glo_ok X G (cd.fact 39 (f := .glo "_law_drawn_change") rfl),
    f_law_drawn_join := He.fAd K ("_law_drawn_join", none), fd_law_drawn_join := g56,
    F_law_drawn_join := funOfD D56, b_law_drawn_join := (funOfD D56).binds (ps := ["_law_box_here", "_law_model_here", "_law_name", "_law_goal"]) fun _ _ _ _ _ _ us hl => match us, hl with | [_, _, _, _], _ => rfl,
    m_law_drawn_join := He.glo_ok X G (cd.fact 40 (f := .glo "_law_drawn_join") rfl),
    f_law_told := He.fAd K ("_law_told", none), fd_law_told := g57,
    F_law_told := funOfD D57, b_law_told := (funOfD D57).binds (ps := ["_law_way", "_law_book", "_law_deed"]) fun _ _ _ _ _ _ us hl => match us, hl with | [_, _, _], _ => rfl,
    m_law_told := He.glo_ok X G (cd.fact 41 (f := .glo "_law_told") rfl),
    f_law := He.fAd K ("law", none), fd_law := g58,
    F_law := funOfD D58, b_law := (funOfD D58).binds (ps := ["_law_script"]) fun _ _ _ _ _ _ us hl => match us, hl with | [_], _ => rfl,
    m_law := He.glo_ok X G (cd.fact 42 (f := .glo "law") rfl),
    k_changed_0_change_catalog := kwB_of (funOfD D35) (fun _ _ _ _ _ _ us ws h1 h2 => by
      match us, ws, h1, h2 with
      | [], [_, _], _, _ => rfl) fun {vs us zs ws} h1 h2 r1 r2 => by
      match vs, us, zs, ws, h1, h2, r1, r2 with
      | [], [], [_, _], [_, _], _, _, .nil, .cons b0 (.cons b1 .nil) => exact .cons b1 (.cons b0 .nil),
    C_InvalidName := He.ga K "InvalidName", g_InvalidName := He.glo_ok X G (cd.fact 43 (f := .glo "InvalidName") rfl), x_InvalidName := z0.1, y_InvalidName := z0.2.1, n_InvalidName := z0.2.2.1, i_InvalidName := z0.2.2.2.1, t_InvalidName := z0.2.2.2.2,
    C_InvalidSpan := He.ga K "InvalidSpan", g_InvalidSpan := He.glo_ok X G (cd.fact 44 (f := .glo "InvalidSpan") rfl), x_InvalidSpan := z1.1, y_InvalidSpan := z1.2.1, n_InvalidSpan := z1.2.2.1, i_InvalidSpan := z1.2.2.2.1, t_InvalidSpan := z1.2.2.2.2,
    C_InvalidSpans := He.ga K "InvalidSpans", g_InvalidSpans := He.glo_ok X G (cd.fact 45 (f := .glo "InvalidSpans") rfl), x_InvalidSpans := z2.1, y_InvalidSpans := z2.2.1, n_InvalidSpans := z2.2.2.1, i_InvalidSpans := z2.2.2.2.1, t_InvalidSpans := z2.2.2.2.2,
    C_InvalidCatalog := He.ga K "InvalidCatalog", g_InvalidCatalog := He.glo_ok X G (cd.fact 46 (f := .glo "InvalidCatalog") rfl), x_InvalidCatalog := z3.1, y_InvalidCatalog := z3.2.1, n_InvalidCatalog := z3.2.2.1, i_InvalidCatalog := z3.2.2.2.1, t_InvalidCatalog := z3.2.2.2.2,
    C_InvalidChange := He.ga K "InvalidChange", g_InvalidChange := He.glo_ok X G (cd.fact 47 (f := .glo "InvalidChange") rfl), x_InvalidChange := z4.1, y_InvalidChange := z4.2.1, n_InvalidChange := z4.2.2.1, i_InvalidChange := z4.2.2.2.1, t_InvalidChange := z4.2.2.2.2,
    C_UnknownPart := He.ga K "UnknownPart", g_UnknownPart := He.glo_ok X G (cd.fact 48 (f := .glo "UnknownPart") rfl), x_UnknownPart := z5.1, y_UnknownPart := z5.2.1, n_UnknownPart := z5.2.2.1, i_UnknownPart := z5.2.2.2.1, t_UnknownPart := z5.2.2.2.2,
    C_NameTaken := He.ga K "NameTaken", g_NameTaken := He.glo_ok X G (cd.fact 49 (f := .glo "NameTaken") rfl), x_NameTaken := z6.1, y_NameTaken := z6.2.1, n_NameTaken := z6.2.2.1, i_NameTaken := z6.2.2.2.1, t_NameTaken := z6.2.2.2.2,
    C_Overlap := He.ga K "Overlap", g_Overlap := He.glo_ok X G (cd.fact 50 (f := .glo "Overlap") rfl), x_Overlap := z7.1, y_Overlap := z7.2.1, n_Overlap := z7.2.2.1, i_Overlap := z7.2.2.2.1, t_Overlap := z7.2.2.2.2,
    C_NotInside := He.ga K "NotInside", g_NotInside := He.glo_ok X G (cd.fact 51 (f := .glo "NotInside") rfl), x_NotInside := z8.1, y_NotInside := z8.2.1, n_NotInside := z8.2.2.1, i_NotInside := z8.2.2.2.1, t_NotInside := z8.2.2.2.2,
    C_NotNeighbours := He.ga K "NotNeighbours", g_NotNeighbours := He.glo_ok X G (cd.fact 52 (f := .glo "NotNeighbours") rfl), x_NotNeighbours := z9.1, y_NotNeighbours := z9.2.1, n_NotNeighbours := z9.2.2.1, i_NotNeighbours := z9.2.2.2.1, t_NotNeighbours := z9.2.2.2.2,
    C_TooMany := He.ga K "TooMany", g_TooMany := He.glo_ok X G (cd.fact 53 (f := .glo "TooMany") rfl), x_TooMany := z10.1, y_TooMany := z10.2.1, n_TooMany := z10.2.2.1, i_TooMany := z10.2.2.2.1, t_TooMany := z10.2.2.2.2,
    C_PartsError := He.ga K "PartsError", g_PartsError := He.glo_ok X G (cd.fact 54 (f := .glo "PartsError") rfl),
    C_Catalog := He.ga K "Catalog", g_Catalog := He.glo_ok X G (cd.fact 56 (f := .glo "Catalog") rfl), cl_Catalog := He.cls_ok (x := "Catalog") (cd.fact 55 rfl), mk_Catalog := He.mkr_ok (x := "Catalog") (cd.fact 57 rfl), ic_Catalog := iz0.1,
    me_Catalog_init := He.meth_ok (x := "Catalog") (m := "__init__") (cd.fact 58 rfl),
    me_Catalog_names := He.meth_ok (x := "Catalog") (m := "names") (cd.fact 59 rfl),
    me_Catalog_contains := He.meth_ok (x := "Catalog") (m := "__contains__") (cd.fact 60 rfl),
    me_Catalog_eq := He.meth_ok (x := "Catalog") (m := "__eq__") (cd.fact 61 rfl),
    me_Catalog_span := He.meth_ok (x := "Catalog") (m := "span") (cd.fact 62 rfl),
    no_Catalog_spans := He.noat_ok (x := "Catalog") (f := "_spans") (cd.fact 63 rfl),
    no_Catalog_rest := He.noat_ok (x := "Catalog") (f := "_rest") (cd.fact 64 rfl),
    no_Catalog_names := He.noat_ok (x := "Catalog") (f := "_names") (cd.fact 65 rfl),
    no_Catalog_stretches := He.noat_ok (x := "Catalog") (f := "_stretches") (cd.fact 66 rfl),
    io_Catalog_list := iz0.2.1, nf_Catalog_list := iz0.2.2.1, io_Catalog_str := iz0.2.2.2.1, nf_Catalog_str := iz0.2.2.2.2,
    io_Catalog_NoneType := of_decide_eq_true e3,
    io_Catalog_bool := of_decide_eq_true e4,
    io_Catalog_int := of_decide_eq_true e5,
    io_Catalog_tuple := of_decide_eq_true e6,
    io_Catalog_dict := of_decide_eq_true e7,
    f_Catalog_rest := prG K "Catalog" "rest", fd_Catalog_rest := fdp0, F_Catalog_rest := funOfD Dp0, b_Catalog_rest := (funOfD Dp0).binds (ps := ["self"]) fun _ _ _ _ _ _ us hl => match us, hl with | [_], _ => rfl, pa_Catalog_rest := prAt K "Catalog" "rest", pr_Catalog_rest := pp0,
    e_InvalidCatalog_InvalidCatalog := He.exm_ok (x := "InvalidCatalog") (y := "InvalidCatalog") (cd.fact 67 rfl),
    e_InvalidChange_InvalidCatalog := He.exm_ok (x := "InvalidChange") (y := "InvalidCatalog") (cd.fact 68 rfl),
    e_InvalidChange_InvalidChange := He.exm_ok (x := "InvalidChange") (y := "InvalidChange") (cd.fact 69 rfl),
    e_UnknownPart_InvalidCatalog := He.exm_ok (x := "UnknownPart") (y := "InvalidCatalog") (cd.fact 70 rfl),
    e_UnknownPart_InvalidChange := He.exm_ok (x := "UnknownPart") (y := "InvalidChange") (cd.fact 71 rfl),
    e_UnknownPart_UnknownPart := He.exm_ok (x := "UnknownPart") (y := "UnknownPart") (cd.fact 72 rfl),
    e_NameTaken_InvalidCatalog := He.exm_ok (x := "NameTaken") (y := "InvalidCatalog") (cd.fact 73 rfl),
    e_NameTaken_InvalidChange := He.exm_ok (x := "NameTaken") (y := "InvalidChange") (cd.fact 74 rfl),
    e_NameTaken_UnknownPart := He.exm_ok (x := "NameTaken") (y := "UnknownPart") (cd.fact 75 rfl),
    e_NameTaken_NameTaken := He.exm_ok (x := "NameTaken") (y := "NameTaken") (cd.fact 76 rfl),
    e_Overlap_InvalidCatalog := He.exm_ok (x := "Overlap") (y := "InvalidCatalog") (cd.fact 77 rfl),
    e_Overlap_InvalidChange := He.exm_ok (x := "Overlap") (y := "InvalidChange") (cd.fact 78 rfl),
    e_Overlap_UnknownPart := He.exm_ok (x := "Overlap") (y := "UnknownPart") (cd.fact 79 rfl),
    e_Overlap_NameTaken := He.exm_ok (x := "Overlap") (y := "NameTaken") (cd.fact 80 rfl),
    e_Overlap_Overlap := He.exm_ok (x := "Overlap") (y := "Overlap") (cd.fact 81 rfl),
    e_NotInside_InvalidCatalog := He.exm_ok (x := "NotInside") (y := "InvalidCatalog") (cd.fact 82 rfl),
    e_NotInside_InvalidChange := He.exm_ok (x := "NotInside") (y := "InvalidChange") (cd.fact 83 rfl),
    e_NotInside_UnknownPart := He.exm_ok (x := "NotInside") (y := "UnknownPart") (cd.fact 84 rfl),
    e_NotInside_NameTaken := He.exm_ok (x := "NotInside") (y := "NameTaken") (cd.fact 85 rfl),
    e_NotInside_Overlap := He.exm_ok (x := "NotInside") (y := "Overlap") (cd.fact 86 rfl),
    e_NotInside_NotInside := He.exm_ok (x := "NotInside") (y := "NotInside") (cd.fact 87 rfl),
    e_NotNeighbours_InvalidCatalog := He.exm_ok (x := "NotNeighbours") (y := "InvalidCatalog") (cd.fact 88 rfl),
    e_NotNeighbours_InvalidChange := He.exm_ok (x := "NotNeighbours") (y := "InvalidChange") (cd.fact 89 rfl),
    e_NotNeighbours_UnknownPart := He.exm_ok (x := "NotNeighbours") (y := "UnknownPart") (cd.fact 90 rfl),
    e_NotNeighbours_NameTaken := He.exm_ok (x := "NotNeighbours") (y := "NameTaken") (cd.fact 91 rfl),
    e_NotNeighbours_Overlap := He.exm_ok (x := "NotNeighbours") (y := "Overlap") (cd.fact 92 rfl),
    e_NotNeighbours_NotInside := He.exm_ok (x := "NotNeighbours") (y := "NotInside") (cd.fact 93 rfl),
    e_NotNeighbours_NotNeighbours := He.exm_ok (x := "NotNeighbours") (y := "NotNeighbours") (cd.fact 94 rfl),
    e_TooMany_InvalidCatalog := He.exm_ok (x := "TooMany") (y := "InvalidCatalog") (cd.fact 95 rfl),
    e_TooMany_InvalidChange := He.exm_ok (x := "TooMany") (y := "InvalidChange") (cd.fact 96 rfl),
    e_TooMany_UnknownPart := He.exm_ok (x := "TooMany") (y := "UnknownPart") (cd.fact 97 rfl),
    e_TooMany_NameTaken := He.exm_ok (x := "TooMany") (y := "NameTaken") (cd.fact 98 rfl),
    e_TooMany_Overlap := He.exm_ok (x := "TooMany") (y := "Overlap") (cd.fact 99 rfl),
    e_TooMany_NotInside := He.exm_ok (x := "TooMany") (y := "NotInside") (cd.fact 100 rfl),
    e_TooMany_NotNeighbours := He.exm_ok (x := "TooMany") (y := "NotNeighbours") (cd.fact 101 rfl),
    e_TooMany_TooMany := He.exm_ok (x := "TooMany") (y := "TooMany") (cd.fact 102 rfl),
    e_UnknownPart_PartsError := He.exm_ok (x := "UnknownPart") (y := "PartsError") (cd.fact 103 rfl),
    e_NameTaken_PartsError := He.exm_ok (x := "NameTaken") (y := "PartsError") (cd.fact 104 rfl),
    e_Overlap_PartsError := He.exm_ok (x := "Overlap") (y := "PartsError") (cd.fact 105 rfl),
    e_NotInside_PartsError := He.exm_ok (x := "NotInside") (y := "PartsError") (cd.fact 106 rfl),
    e_NotNeighbours_PartsError := He.exm_ok (x := "NotNeighbours") (y := "PartsError") (cd.fact 107 rfl),
    e_TooMany_PartsError := He.exm_ok (x := "TooMany") (y := "PartsError") (cd.fact 108 rfl),
    t_LONGEST_NAME := u_LONGEST_NAME, c_LONGEST_NAME := v_LONGEST_NAME,
    t_MOST_PARTS := u_MOST_PARTS, c_MOST_PARTS := v_MOST_PARTS,
    z_isinstance := He.free_ok X G (x := "isinstance") (cd.fact 111 rfl),
    z_int := He.free_ok X G (x := "int") (cd.fact 112 rfl),
    z_bool := He.free_ok X G (x := "bool") (cd.fact 113 rfl),
    z_all := He.free_ok X G (x := "all") (cd.fact 114 rfl),
    z_str := He.free_ok X G (x := "str") (cd.fact 115 rfl),
    z_len := He.free_ok X G (x := "len") (cd.fact 116 rfl),
    z_tuple := He.free_ok X G (x := "tuple") (cd.fact 117 rfl),
    z_max := He.free_ok X G (x := "max") (cd.fact 118 rfl),
    z_min := He.free_ok X G (x := "min") (cd.fact 119 rfl),
    z_sorted := He.free_ok X G (x := "sorted") (cd.fact 120 rfl),
    z_list := He.free_ok X G (x := "list") (cd.fact 121 rfl),
    z_property := He.free_ok X G (x := "property") (cd.fact 122 rfl),
    z_dict := He.free_ok X G (x := "dict") (cd.fact 123 rfl),
    z_part := He.free_ok X G (x := "part") (cd.fact 124 rfl),
    z_set := He.free_ok X G (x := "set") (cd.fact 125 rfl),
    z_range := He.free_ok X G (x := "range") (cd.fact 126 rfl) }
  exact ok_law T
end My
open PySem PySem.W PySem.Calls PyProof.Rows
set_option maxRecDepth 100000 in
set_option maxHeartbeats 0 in
theorem PySem.Challenge.cw_hungparts_k12_catalogs_changed_holds : PySem.Challenge.rw_hungparts_k12_catalogs_changed.Holds := by
  w_on; o_law
  refine HandSHeadRun.head_any (r := My.RW) (q := view My.RW.prog [65]) (H := My.hookM) (ob := My.obN) (M := 6000) (loose := My.looseL) (d := HandSHeadRun.topDef My.RW.prog 65) (kwd := []) My.obN_eq
    (by kernel_rfl) (fun s => by kernel_rfl) My.run (by kernel_rfl) (by kernel_rfl) (by kernel_rfl) (by rfl) (by first | assumption | decide +kernel) (by decide +kernel) ⟨rfl, rfl, rfl, rfl, rfl, by decide +kernel⟩ ?hw ?hc
  case hw => w_witness2
  case hc =>
    refine LamX.walk_ofTsE (l := PySem.Challenge.rw_hungparts_k12_catalogs_changed) (n := 63) (k := 14) (x := "_law_script") (CX := fun _ => L2.CX0) rfl (by decide) (by kernel_rfl) ⟨rfl, by decide, by decide⟩ ?F (fun _ _ _ _ _ z => z)
    intro w mg fa h Y G hmg0
    obtain ⟨K, KX, c, co⟩ := Y
    have hmg : mg ("law" : PySem.Str) = some (.ref fa) := by
      have e : (HandSHeadRun.topDef My.RW.prog 65).name = ("law" : PySem.Str) := by kernel_rfl
      rw [← e]
      exact hmg0
    exact ⟨K, KX, My.facts KX G hmg c co⟩
#print axioms PySem.Challenge.cw_hungparts_k12_catalogs_changed_holds

